/- Runs over unknown values, told by the kernel: part GE. -/
import Derived.Test.YthhjjpofenjknaaDoorGD
noncomputable section
open Int (ofNat)
set_option linter.unusedSimpArgs false
set_option linter.unusedVariables false
set_option maxRecDepth 20000
namespace Go.Proofs.Jn
open Go Go.Sim Go.Proofs Go.Proofs.Cd Go.Proofs.St Go.Proofs.Cl Go.Proofs.YthhjjpofenjknaaDoor
theorem pl_le (M k:Nat):pl M k<=47:=by unfold pl;omega
theorem npF_hi (M:Nat):M<=npF M*47:=by unfold npF;split<;>omega
theorem npF_lo (M:Nat):npF M=1\/(npF M-1)*47<M:=by unfold npF;split<;>omega
theorem cl_pl (M:Nat):∀k,cl (pl M) k=min (k*47) M
 | 0=>by show 0= _;omega
 | k+1=>by
   show cl (pl M) k+pl M k= _
   rw [cl_pl M k];unfold pl;omega
theorem cl_congr {L L':Nat->Nat}:∀{k:Nat},(∀i,i<k->L i=L' i)->cl L k=cl L' k
 | 0,_=>rfl
 | k+1,h=>by
   show cl L k+L k=cl L' k+L' k
   rw [cl_congr fun i hi=>h i (by omega),h k (by omega)]
theorem cb_pl {M:Nat} {bi:Nat->Nat} {L:Nat->Nat} {D:Nat->Nat->Nat}:∀{k:Nat},(∀i,i<k->L i=pl M i)->(∀i,i<k->∀t,t<pl M i->D i t=bi (i*47+t))->∀t,t<min (k*47) M->cb L D k t=bi t
 | 0,_,_,t,ht=>by omega
 | k+1,hL,hD,t,ht=>by
   have e:cl L k=min (k*47) M:=by rw [cl_congr (L':=pl M) fun i hi=>hL i (by omega),cl_pl]
   show (bif Nat.blt t (cl L k) then cb L D k t else D k (t-cl L k))=bi t
   rw [e]
   by_cases c:t<min (k*47) M
   · rw [lt_ c,cond_true]
     exact cb_pl (fun i hi=>hL i (by omega)) (fun i hi=>hD i (by omega)) t c
   · rw [lf c,cond_false,hD k (by omega) _ (by unfold pl;omega)]
     congr 1
     omega
structure Laid (c:Nat->Nat) (gen num np k M:Nat) (bi:Nat->Nat):Prop where
 g:stG c=gen
 n:stN c=num
 i:stI c=k
 p:stP c=np
 l:stL c=pl M k
 t:∀t,t<pl M k->c (11+t)=bi (k*47+t)
theorem laid {gen num M k:Nat} (bi:Nat->Nat) (hg:1<=gen) (hg2:gen<=1073741824) (hn:num<=1073741824) (hM:M<=1128) (hk:k<npF M):Laid (pcB gen num (npF M) M bi k) gen num (npF M) k M bi:=by
 have h24:=npF_24 hM
 have hlo:=npF_lo M
 have ok:PtOk (pcB gen num (npF M) M bi k):=ps_ok gen num k (npF M) (pl M k) _ hg hg2 hn h24 hk (pl_le M k) (fun h=>by unfold pl;rcases hlo with e | e<;>omega) (fun h=>by
  rcases hlo with e | e
  · exact .inr e
  · exact .inl (by unfold pl;omega))
 refine ⟨?_,?_,?_,?_,?_,?_⟩
 · rw [stG_t ok];exact ps_g1 _ _ _ _ _ _ hg2
 · rw [stN_t ok];exact ps_g2 _ _ _ _ _ _ hn
 · rw [stI_t ok];exact ps_8 _ _ _ _ _ _ (by omega)
 · rw [stP_t ok];exact ps_9 _ _ _ _ _ _ (by omega)
 · rw [stL_t ok];exact ps_10 _ _ _ _ _ _ (by have:=pl_le M k;omega)
 · intro t ht
   exact ps_txt _ _ _ _ _ _ (pl_le M k) ht
theorem sumP_congr {m m':Nat->Nat}:∀(j i:Nat),(∀r,i<=r->r<i+j->m r=m' r)->sumP m j i=sumP m' j i
 | 0,_,_=>rfl
 | j+1,i,h=>by
   show npF (m i)+sumP m j (i+1)=npF (m' i)+sumP m' j (i+1)
   rw [h i (Nat.le_refl _) (by omega),sumP_congr j (i+1) fun r a b=>h r (by omega) (by omega)]
theorem sumP_mono (m:Nat->Nat) {j k:Nat} (h:j<=k):sumP m j 0<=sumP m k 0:=by
 induction k with
 | zero=>obtain rfl:j=0:=by omega
         exact Nat.le_refl _
 | succ k ih=>
   by_cases c:j=k+1
   · subst c;exact Nat.le_refl _
   · have:=ih (by omega)
     rw [sumP_snoc];omega
theorem sumP_at (m:Nat->Nat) (r:Nat):sumP m (r+1) 0=sumP m r 0+npF (m r):=by rw [sumP_snoc,Nat.zero_add]
structure JI (s:SS) (j:JS) (mm n:Nat) (m:Nat->Nat) (b:Nat->Nat->Nat):Prop where
 on:s.off=false
 P:s.P=[]
 hn:122<=s.n
 byt:Byt s
 okm:OkM s mm
 dead:j.dead=false
 area:j.area<=1
 g1:1<=j.gen
 g2:j.gen<=1073741824
 hd:hdG s (j.gen % 2)=j.gen
 ha:hdA s (j.gen % 2)=j.area
 ho:hdG s (1-j.gen % 2)<j.gen
 recs:j.recs=n
 room:j.room=60-ofNat (sumP m n 0)
 fit:sumP m n 0<=60
 len:∀r,r<n->m r<=1128
 parts:∀r,r<n->∀k,k<npF (m r)->bB s (2+j.area*60+(sumP m r 0+k))=pcB j.gen r (npF (m r)) (m r) (b r) k
 last:∀i,sumP m n 0<=i->i<60->aG s j.area i=j.gen->aN s j.area i<=n/\(aN s j.area i=n->aI s j.area i+1<aP s j.area i)
section
variable {s:SS} {j:JS} {mm n:Nat} {m:Nat->Nat} {b:Nat->Nat->Nat}
theorem JI.few (h:JI s j mm n m b):n<=60:=by have:=sumP_ge m n 0;have:=h.fit;omega
theorem JI.lay (h:JI s j mm n m b) {r k:Nat} (hr:r<n) (hk:k<npF (m r)):Laid (bB s (2+j.area*60+(sumP m r 0+k))) j.gen r (npF (m r)) k (m r) (b r):=by
 rw [h.parts r hr k hk]
 exact laid _ h.g1 h.g2 (by have:=h.few;omega) (h.len r hr) hk
theorem JI.jU (h:JI s j mm n m b):∀r,r<=n->jU (aP s j.area) r=sumP m r 0
 | 0,_=>rfl
 | r+1,hr=>by
   have ih:=h.jU r (by omega)
   show Jn.jU (aP s j.area) r+aP s j.area (Jn.jU (aP s j.area) r)= _
   rw [ih,sumP_at]
   have:=(h.lay (r:=r) (k:=0) (by omega) (npF_pos _)).p
   rw [Nat.add_zero] at this
   have e:aP s j.area (sumP m r 0)=npF (m r):=this
   rw [e]
theorem JI.rc (h:JI s j mm n m b):Recs s j.area j.gen n:=by
 refine ⟨fun r hr=>?_,fun hst=>?_⟩
 · rw [h.jU r (by omega)]
   have e:aP s j.area (sumP m r 0)=npF (m r):=by
    have:=(h.lay (r:=r) (k:=0) hr (npF_pos _)).p
    rw [Nat.add_zero] at this
    exact this
   refine ⟨?_,?_,?_⟩
   · rw [e]
     have h1:=sumP_mono m (show r+1<=n by omega)
     have h2:=h.fit
     rw [sumP_at] at h1
     omega
   · rw [e];exact npF_pos _
   · rw [e]
     intro i hi
     have q:=h.lay hr hi
     exact ⟨q.g,q.n,q.i,q.p⟩
 · rw [h.jU n (Nat.le_refl _)] at hst
   obtain ⟨q1,q2,q3⟩:=hst
   have q:=q3 (aP s j.area (sumP m n 0)-1) (by omega)
   have hl:=h.last (sumP m n 0+(aP s j.area (sumP m n 0)-1)) (by omega) (by omega) q.eg
   have e1:aN s j.area (sumP m n 0+(aP s j.area (sumP m n 0)-1))=n:=q.en
   have e2:aI s j.area (sumP m n 0+(aP s j.area (sumP m n 0)-1))=aP s j.area (sumP m n 0)-1:=q.ei
   have e3:aP s j.area (sumP m n 0+(aP s j.area (sumP m n 0)-1))=aP s j.area (sumP m n 0):=q.ep
   have:=hl.2 e1
   omega
theorem JI.opM (h:JI s j mm n m b) {r:Nat} (hr:r<n):opM s j.area r=m r:=by
 unfold Jn.opM jm
 rw [h.jU r (by omega)]
 have e:aP s j.area (sumP m r 0)=npF (m r):=by
  have:=(h.lay (r:=r) (k:=0) hr (npF_pos _)).p
  rw [Nat.add_zero] at this
  exact this
 have q:cl (fun i=>aL s j.area (sumP m r 0+i)) (npF (m r))=min (npF (m r)*47) (m r):=(cl_congr (L':=pl (m r)) fun i hi=>(h.lay hr hi).l).trans (cl_pl _ _)
 rw [e,q]
 have:=npF_hi (m r);omega
theorem JI.opB (h:JI s j mm n m b) {r:Nat} (hr:r<n) {t:Nat} (ht:t<m r):opB s j.area r t=b r t:=by
 unfold Jn.opB jb
 rw [h.jU r (by omega)]
 have e:aP s j.area (sumP m r 0)=npF (m r):=by
  have:=(h.lay (r:=r) (k:=0) hr (npF_pos _)).p
  rw [Nat.add_zero] at this
  exact this
 rw [e]
 exact cb_pl (M:=m r) (fun i hi=>(h.lay hr hi).l) (fun i hi t ht=>(h.lay hr hi).t t ht) t (by have:=npF_hi (m r);omega)
theorem JI.opJ (h:JI s j mm n m b):opJ s j.area j.gen n=j:=by
 unfold Jn.opJ
 rw [h.jU n (Nat.le_refl _),<-h.room,<-h.dead,<-h.recs]
theorem JI.bg (h:JI s j mm n m b):bgG s=j.gen/\bgA s=j.area:=by
 have h1:=h.hd
 have h2:=h.ha
 have h3:=h.ho
 unfold bgG bgA
 rcases (show j.gen % 2=0\/j.gen % 2=1 by omega) with e | e
 · rw [e] at h1 h2 h3
   have h3:hdG s 1<j.gen:=h3
   rw [lf (by omega:¬hdG s 0<hdG s 1),cond_false,cond_false];exact ⟨h1,h2⟩
 · rw [e] at h1 h2 h3
   have h3:hdG s 0<j.gen:=h3
   rw [lt_ (by omega:hdG s 0<hdG s 1),cond_true,cond_true];exact ⟨h1,h2⟩
theorem JI.open_con (h:JI s j mm n m b):Con PG 20 [.p 0 0] [some s.o] (.tup [.p 1 0,.sv 1 n (recF (Jn.opM s j.area) (Jn.opB s j.area)),.i .i64 0]) [.keep,.set j.o]:=by
 have hb:=h.bg
 have w:=begin_con s h.okm.n h.byt (by rw [hb.1];have:=h.g1;omega)
 rw [hb.1,hb.2] at w
 have k:=openX_con s s j.gen j.area n h.hn h.on (w.post (us':=[.set s.o]) (.refl _) (OVL.refl _)) h.hn h.okm.n h.on h.byt h.area h.rc
 rw [h.opJ] at k
 exact k
end
theorem hd_same {s S:SS} {h:Nat} (e:bB S h=bB s h):hdG S h=hdG s h/\hdA S h=hdA s h:=by
 unfold hdG hdA
 rw [e];exact ⟨rfl,rfl⟩
theorem a_same {s S:SS} {a i:Nat} (e:bB S (2+a*60+i)=bB s (2+a*60+i)):aG S a i=aG s a i/\aN S a i=aN s a i/\aI S a i=aI s a i/\aP S a i=aP s a i:=by
 unfold aG aN aI aP
 rw [e];exact ⟨rfl,rfl,rfl,rfl⟩
def mS (n:Nat) (m:Nat->Nat) (L:Nat) (r:Nat):Nat:=if r=n then L else m r
def bS (n:Nat) (b:Nat->Nat->Nat) (bs:Nat->Nat) (r:Nat):Nat->Nat:=if r=n then bs else b r
theorem mS_lt {n r:Nat} {m:Nat->Nat} {L:Nat} (h:r<n):mS n m L r=m r:=if_neg (by omega)
theorem mS_eq (n:Nat) (m:Nat->Nat) (L:Nat):mS n m L n=L:=if_pos rfl
theorem bS_lt {n r:Nat} {b:Nat->Nat->Nat} {bs:Nat->Nat} (h:r<n):bS n b bs r=b r:=if_neg (by omega)
theorem bS_eq (n:Nat) (b:Nat->Nat->Nat) (bs:Nat->Nat):bS n b bs n=bs:=if_pos rfl
theorem sumP_mS (n:Nat) (m:Nat->Nat) (L:Nat) {r:Nat} (h:r<=n):sumP (mS n m L) r 0=sumP m r 0:=sumP_congr r 0 fun q _ hq=>mS_lt (by omega)
section
variable {s:SS} {j:JS} {mm n:Nat} {m:Nat->Nat} {b:Nat->Nat->Nat}
def JS.more (j:JS) (L:Nat):JS:={ j with recs:=j.recs+1,room:=j.room-ofNat (npF L)}
theorem JI.rm (h:JI s j mm n m b):j.room=ofNat (60-sumP m n 0):=by
 have:=h.room;have:=h.fit
 rw [h.room];simp;omega
theorem JI.apQ (h:JI s j mm n m b):Jn.apQ j (60-sumP m n 0)=2+j.area*60+sumP m n 0:=by
 have:=h.fit
 unfold Jn.apQ;omega
theorem JI.append (h:JI s j mm n m b) {L:Nat} {bs:Nat->Nat} (hL:L<=1128) (hb:∀t,bs t<256) (hf:npF L<=60-sumP m n 0) (e0:apE j (60-sumP m n 0) s L bs=0):JI (apS j (60-sumP m n 0) s L bs) (j.more L) (mm+npF L) (n+1) (mS n m L) (bS n b bs):=by
 have hq:=h.apQ
 have hfit:=h.fit
 have har:=h.area
 have hn:=h.hn
 have s1:sumP (fun _=>L) 1 0=npF L:=sumP1 L
 unfold apE at e0
 unfold apS
 rw [hq,h.recs] at e0⊢
 have hin:2+j.area*60+sumP m n 0+sumP (fun _=>L) 1 0<=s.n:=by rw [s1];omega
 obtain ⟨o1,o2,_⟩:=cmt_on _ _ _ _ _ _ _ e0
 obtain ⟨k1,k2⟩:=cmtS_ok j.gen n 1 mm (fun _=>L) (fun _=>bs) s (2+j.area*60+sumP m n 0) h.okm hin
 have k3:=cmtS_byt j.gen n 1 mm (fun _=>L) (fun _=>bs) (fun _=>hb) s (2+j.area*60+sumP m n 0) h.okm h.byt hin
 have rd:=fun q hq=>cmt_bB j.gen n 1 mm (fun _=>L) (fun _=>bs) s (2+j.area*60+sumP m n 0) h.okm hin h.on e0 q hq
 generalize cmtS j.gen n 1 (fun _=>L) (fun _=>bs) s (2+j.area*60+sumP m n 0)=S at o1 o2 k1 k2 k3 rd
 rw [s1] at k1 rd
 have lo:∀q,q<2+j.area*60+sumP m n 0->bB S q=bB s q:=fun q hq=>(rd q (by omega)).2 (.inl hq)
 have hi:∀q,2+j.area*60+sumP m n 0+npF L<=q->q<s.n->bB S q=bB s q:=fun q hq hq2=>(rd q hq2).2 (.inr hq)
 have hd0:=hd_same (lo (j.gen % 2) (by omega))
 have hd1:=hd_same (lo (1-j.gen % 2) (by omega))
 have hs:sumP (mS n m L) (n+1) 0=sumP m n 0+npF L:=by rw [sumP_at,mS_eq,sumP_mS n m L (Nat.le_refl _)]
 refine { on:=o1,P:=o2,hn:=by rw [k2];exact hn,byt:=k3,okm:=k1,dead:=h.dead,area:=har,g1:=h.g1,g2:=h.g2,hd:=hd0.1.trans h.hd,ha:=hd0.2.trans h.ha,ho:=by rw [show (j.more L).gen=j.gen from rfl,hd1.1];exact h.ho,recs:=by show j.recs+1= _;rw [h.recs],room:=?_,fit:=by rw [hs];omega,len:=?_,parts:=?_,last:=?_}
 · show j.room-ofNat (npF L)=60-ofNat (sumP (mS n m L) (n+1) 0)
   rw [hs,h.room];simp;omega
 · intro r hr
   by_cases c:r=n
   · subst c;rw [mS_eq];exact hL
   · rw [mS_lt (by omega)];exact h.len r (by omega)
 · intro r hr k hk
   show bB S (2+j.area*60+(sumP (mS n m L) r 0+k))=pcB j.gen r _ _ _ k
   rw [sumP_mS n m L (by omega)]
   by_cases c:r=n
   · subst c
     rw [mS_eq] at hk⊢
     rw [bS_eq]
     have:=(rd (2+j.area*60+(sumP m r 0+k)) (by omega)).1 0 k (by decide) hk (by show _=2+j.area*60+sumP m r 0+0+k;omega)
     rw [Nat.add_zero] at this
     exact this
   · have hr':r<n:=by omega
     rw [mS_lt hr'] at hk⊢
     rw [bS_lt hr']
     have h1:=sumP_mono m (show r+1<=n by omega)
     rw [sumP_at] at h1
     rw [lo _ (by omega)]
     exact h.parts r hr' k hk
 · intro i hi1 hi2 hg
   rw [hs] at hi1
   have e:=a_same (s:=s) (S:=S) (a:=j.area) (i:=i) (hi _ (by omega) (by omega))
   have hg':aG S j.area i=j.gen:=hg
   rw [e.1] at hg'
   have hl:=h.last i (by omega) hi2 hg'
   show aN S j.area i<=n+1/\(aN S j.area i=n+1->aI S j.area i+1<aP S j.area i)
   rw [e.2.1]
   exact ⟨by omega,fun h'=>by omega⟩
theorem mxG_ge (G:Nat->Nat) (g:Nat):∀k,g<=mxG G g k/\∀i,i<k->G i<=mxG G g k
 | 0=>⟨Nat.le_refl _,fun i hi=>absurd hi (by omega)⟩
 | k+1=>by
   obtain ⟨h1,h2⟩:=mxG_ge G g k
   show g<=(if G k>mxG G g k then G k else mxG G g k)/\∀i,i<k+1->G i<=(if G k>mxG G g k then G k else mxG G g k)
   refine ⟨by split<;>omega,fun i hi=>?_⟩
   by_cases c:i=k
   · subst c;split<;>omega
   · have:=h2 i (by omega);split<;>omega
theorem nxV_gt (s:SS) (j:JS):j.gen<nxV s j/\nxV s j % 2≠j.gen % 2/\∀i,i<60->aG s (1-j.area) i<nxV s j:=by
 obtain ⟨h1,h2⟩:=mxG_ge (aG s (1-j.area)) j.gen 60
 have e:nxG s j=mxG (aG s (1-j.area)) j.gen 60:=rfl
 unfold nxV
 rw [e]
 generalize mxG (aG s (1-j.area)) j.gen 60=x at h1 h2
 cases c:Nat.beq ((x+1) % 2) (j.gen % 2) with
 | true=>
   rw [cond_true]
   have:=Nat.eq_of_beq_eq_true c
   exact ⟨by omega,by omega,fun i hi=>by have:=h2 i hi;omega⟩
 | false=>
   rw [cond_false]
   have:(x+1) % 2≠j.gen % 2:=fun e=>by rw [e,Nat.beq_refl] at c;exact Bool.noConfusion c
   exact ⟨by omega,this,fun i hi=>by have:=h2 i hi;omega⟩
theorem one_parts (x:Nat):npF 1=1:=by unfold npF;rw [if_neg (by decide)]
theorem head_laid {S:SS} {gen area:Nat} (hg:1<=gen) (hg2:gen<=1073741824) (ha:area<=1) (e:bB S (gen % 2)=pcB gen 0 (npF 1) 1 (fun _=>area % 256) 0):hdG S (gen % 2)=gen/\hdA S (gen % 2)=area:=by
 have l:=laid (gen:=gen) (num:=0) (M:=1) (k:=0) (fun _=>area % 256) hg hg2 (by decide) (by decide) (npF_pos 1)
 have hx:=l.t 0 (by unfold pl;decide)
 have hx':pcB gen 0 (npF 1) 1 (fun _=>area % 256) 0 11=area:=by rw [hx];omega
 have ok:hdOk (bB S (gen % 2)) (gen % 2)=true:=by
  rw [e]
  unfold hdOk hdB
  have e1:pl 1 0=1:=by unfold pl;decide
  rw [l.g,l.n,l.p,l.l,hx',one_parts 0,e1,bt ha,Nat.beq_refl,Nat.beq_refl,Nat.beq_refl]
  rfl
 unfold hdG hdA
 rw [ok,cond_true,cond_true,e,l.g,hx']
 exact ⟨rfl,rfl⟩
theorem JI.rewrite (h:JI s j mm n m b) {n':Nat} {m':Nat->Nat} {b':Nat->Nat->Nat} (hl:∀i,i<n'->m' i<=1128) (hs:sumP m' n' 0<=60) (hb:∀i t,b' i t<256) (hv:nxV s j<=1073741824)
 (e0:rwE s j n' m' b'=0) (e1:nmE (rwS s j n' m' b') (nxV s j) (1-j.area)=0):JI (nmS (rwS s j n' m' b') (nxV s j) (1-j.area)) (rwJ s j n' m') (mm+sumP m' n' 0+1) n' m' b':=by
 obtain ⟨g1,g2,g3⟩:=nxV_gt s j
 have har:=h.area
 have hn:=h.hn
 have hgen:=h.g1
 unfold rwE at e0
 unfold rwS at e1⊢
 unfold nmE at e1
 unfold nmS
 have hin:2+(1-j.area)*60+sumP m' n' 0<=s.n:=by omega
 obtain ⟨o1,o2,_⟩:=cmt_on _ _ _ _ _ _ _ e0
 obtain ⟨k1,k2⟩:=cmtS_ok (nxV s j) 0 n' mm m' b' s (2+(1-j.area)*60) h.okm hin
 have k3:=cmtS_byt (nxV s j) 0 n' mm m' b' hb s (2+(1-j.area)*60) h.okm h.byt hin
 have rd:=fun q hq=>cmt_bB (nxV s j) 0 n' mm m' b' s (2+(1-j.area)*60) h.okm hin h.on e0 q hq
 generalize cmtS (nxV s j) 0 n' m' b' s (2+(1-j.area)*60)=S at o1 o2 k1 k2 k3 rd e1
 have hin2:nxV s j % 2+sumP (fun _=>1) 1 0<=S.n:=by rw [sumP1,one_parts 0,k2];omega
 obtain ⟨p1,p2,_⟩:=cmt_on _ _ _ _ _ _ _ e1
 obtain ⟨q1,q2⟩:=cmtS_ok (nxV s j) 0 1 (mm+sumP m' n' 0) (fun _=>1) (fun _ _=>(1-j.area) % 256) S (nxV s j % 2) k1 hin2
 have q3:=cmtS_byt (nxV s j) 0 1 (mm+sumP m' n' 0) (fun _=>1) (fun _ _=>(1-j.area) % 256) (fun _ _=>by omega) S (nxV s j % 2) k1 k3 hin2
 have rd2:=fun q hq=>cmt_bB (nxV s j) 0 1 (mm+sumP m' n' 0) (fun _=>1) (fun _ _=>(1-j.area) % 256) S (nxV s j % 2) k1 hin2 o1 e1 q hq
 generalize cmtS (nxV s j) 0 1 (fun _=>1) (fun _ _=>(1-j.area) % 256) S (nxV s j % 2)=T at p1 p2 q1 q2 q3 rd2
 rw [sumP1,one_parts 0] at q1 rd2
 have far:∀q,2<=q->q<s.n->bB T q=bB S q:=fun q hq hq2=>(rd2 q (by omega)).2 (.inr (by omega))
 have hh:bB T (nxV s j % 2)=pcB (nxV s j) 0 (npF 1) 1 (fun _=>(1-j.area) % 256) 0:=(rd2 (nxV s j % 2) (by omega)).1 0 0 (by decide) (npF_pos 1) (by show _=nxV s j % 2+0+0;omega)
 have oth:bB T (1-nxV s j % 2)=bB s (1-nxV s j % 2):=by
  have e2:bB T (1-nxV s j % 2)=bB S (1-nxV s j % 2):=by
   refine (rd2 _ (by omega)).2 ?_
   omega
  rw [e2]
  exact (rd _ (by omega)).2 (.inl (by omega))
 have hl1:=head_laid (by omega) hv (show 1-j.area<=1 by omega) hh
 have ho:hdG T (1-nxV s j % 2)=j.gen:=by
  rw [(hd_same oth).1,show 1-nxV s j % 2=j.gen % 2 by omega];exact h.hd
 refine { on:=p1,P:=p2,hn:=by rw [q2,k2];exact hn,byt:=q3,okm:=q1,dead:=h.dead,area:=(by show 1-j.area<=1;omega),g1:=(by show 1<=nxV s j;omega),g2:=hv,hd:=hl1.1,ha:=hl1.2,ho:=(by show hdG T (1-nxV s j % 2)<nxV s j;rw [ho];exact g1),recs:=rfl,room:=rfl,fit:=hs,len:=hl,parts:=?_,last:=?_}
 · intro r hr k hk
   show bB T (2+(1-j.area)*60+(sumP m' r 0+k))=pcB (nxV s j) r _ _ _ k
   have h1:=sumP_mono m' (show r+1<=n' by omega)
   rw [sumP_at] at h1
   rw [far _ (by omega) (by omega)]
   have:=(rd (2+(1-j.area)*60+(sumP m' r 0+k)) (by omega)).1 r k hr hk (by omega)
   rw [Nat.zero_add] at this
   exact this
 · intro i hi1 hi2 hg
   have e:bB T (2+(1-j.area)*60+i)=bB s (2+(1-j.area)*60+i):=by
    rw [far _ (by omega) (by omega)]
    exact (rd _ (by omega)).2 (.inr (by omega))
   have hg':aG T (1-j.area) i=nxV s j:=hg
   rw [(a_same e).1] at hg'
   have:=g3 i hi2
   omega
end
structure Calm (s:SS):Prop where
 on:s.off=false
 un:s.armed=false
theorem Calm.wr {s:SS} (h:Calm s) {q:Nat} (hq:q<s.n) (bs:Nat->Int):s.wrE (ofNat q) 64=0/\Calm (s.wrS (ofNat q) 64 bs):=by
 have hd:decide (0<=ofNat q/\ofNat q<ofNat s.n/\64=64)=true:=by simp;omega
 constructor
 · unfold SS.wrE
   rw [h.on,hd]
   show (s.wrote (ofNat q).toNat fun _=>0).payE=0
   unfold SS.payE
   rw [show (s.wrote (ofNat q).toNat fun _=>0).armed=false from h.un]
 · rw [wrS_on h.on hq]
   unfold SS.pay
   rw [show (s.wrote q bs).armed=false from h.un]
   exact ⟨h.on,h.un⟩
theorem Calm.runW (c:Nat->Nat->Nat):∀(j:Nat) {s:SS} (a k:Nat),Calm s->a+j<=s.n->(Jn.runW c j s a k).1=0/\Calm (Jn.runW c j s a k).2.1/\(Jn.runW c j s a k).2.2=a+j/\(Jn.runW c j s a k).2.1.n=s.n
 | 0,s,a,k,h,_=>⟨rfl,h,rfl,rfl⟩
 | j+1,s,a,k,h,ha=>by
   obtain ⟨w1,w2⟩:=h.wr (q:=a) (by omega) (fun t=>ofNat (c k t))
   have hn:(s.wrS (ofNat a) 64 fun t=>ofNat (c k t)).n=s.n:=wrS_n s _ _
   have ih:=Calm.runW c j (a+1) (k+1) w2 (by rw [hn];omega)
   unfold Jn.runW
   rw [decide_eq_true w1]
   exact ⟨ih.1,ih.2.1,by rw [ih.2.2.1];omega,ih.2.2.2.trans hn⟩
theorem Calm.runR (gen first:Nat) (m:Nat->Nat) (b:Nat->Nat->Nat):∀(j:Nat) {s:SS} (a i:Nat),Calm s->a+sumP m j i<=s.n->(Jn.runR gen first m b j s a i).1=0/\Calm (Jn.runR gen first m b j s a i).2.1
 | 0,s,a,i,h,_=>⟨rfl,h⟩
 | j+1,s,a,i,h,ha=>by
   have ha':a+(npF (m i)+sumP m j (i+1))<=s.n:=ha
   have w:(recW gen first m b s a i).1=0/\Calm (recW gen first m b s a i).2.1/\(recW gen first m b s a i).2.2=a+npF (m i)/\(recW gen first m b s a i).2.1.n=s.n:=Calm.runW _ _ a 0 h (by omega)
   obtain ⟨w1,w2,w3,w4⟩:=w
   have ih:=Calm.runR gen first m b j (recW gen first m b s a i).2.2 (i+1) w2 (by rw [w3,w4];omega)
   unfold Jn.runR
   rw [decide_eq_true w1]
   exact ih
theorem Calm.cmt {s:SS} (h:Calm s) (gen first n:Nat) (m:Nat->Nat) (b:Nat->Nat->Nat) (a:Nat) (ha:a+sumP m n 0<=s.n):cmtE gen first n m b s a=0/\Calm (cmtS gen first n m b s a):=by
 obtain ⟨h1,h2⟩:=Calm.runR gen first m b n a 0 h ha
 unfold cmtE cmtS
 rw [decide_eq_true h1]
 simp only
 generalize (Jn.runR gen first m b n s a 0).2.1=S at h2
 constructor
 · unfold SS.faultE;rw [h2.on];rfl
 · unfold SS.bar;rw [h2.on];exact ⟨h2.on,h2.un⟩
theorem bB_new (n q:Nat) (hq:q<n):bB (SS.new n) q=fun _=>0:=by
 rw [bB_v (s:=SS.new n) rfl hq]
 rfl
theorem hdG_zero {s:SS} {h:Nat} (e:bB s h=fun _=>0):hdG s h=0:=by
 unfold hdG
 rw [e]
 have:hdOk (fun _=>0) h=false:=by
  unfold hdOk hdB
  have:stP (fun _=>0)=0:=by unfold stP;rw [ptB_f zero_bad,cond_false]
  rw [this]
  simp
 rw [this,cond_false]
theorem aG_zero {s:SS} {a i:Nat} (e:bB s (2+a*60+i)=fun _=>0):aG s a i=0:=by
 unfold aG
 rw [e]
 unfold stG
 rw [ptB_f zero_bad,cond_false]
def nS0:SS:=nmS (SS.new 122) 1 0
def nJ0:JS:={ gen:=1,area:=0,recs:=0,room:=60,dead:=false}
theorem new_okm:OkM (SS.new 122) 0:=⟨by decide,Nat.le_refl _,Nat.le_refl _,by decide,fun w hw=>by cases hw⟩
theorem new_byt:Byt (SS.new 122):=⟨fun i j=>⟨0,by decide,rfl⟩,fun w hw=>by cases hw⟩
theorem new_calm:Calm (SS.new 122):=⟨rfl,rfl⟩
theorem new_in:1 % 2+sumP (fun _=>1) 1 0<=(SS.new 122).n:=by rw [sumP1,one_parts 0];decide
theorem new_nmE:nmE (SS.new 122) 1 0=0:=(new_calm.cmt 1 0 1 (fun _=>1) (fun _ _=>0 % 256) (1 % 2) new_in).1
theorem nS0_calm:Calm nS0:=(new_calm.cmt 1 0 1 (fun _=>1) (fun _ _=>0 % 256) (1 % 2) new_in).2
theorem nS0_rd:nS0.n=122/\OkM nS0 1/\Byt nS0/\nS0.P=[]/\bB nS0 1=pcB 1 0 (npF 1) 1 (fun _=>0 % 256) 0/\∀q,q<122->q≠1->bB nS0 q=fun _=>0:=by
 have e0:cmtE 1 0 1 (fun _=>1) (fun _ _=>0 % 256) (SS.new 122) (1 % 2)=0:=new_nmE
 obtain ⟨k1,k2⟩:=cmtS_ok 1 0 1 0 (fun _=>1) (fun _ _=>0 % 256) (SS.new 122) (1 % 2) new_okm new_in
 have k3:=cmtS_byt 1 0 1 0 (fun _=>1) (fun _ _=>0 % 256) (fun _ _=>by decide) (SS.new 122) (1 % 2) new_okm new_byt new_in
 have rd:=fun q hq=>cmt_bB 1 0 1 0 (fun _=>1) (fun _ _=>0 % 256) (SS.new 122) (1 % 2) new_okm new_in rfl e0 q hq
 obtain ⟨o1,o2,_⟩:=cmt_on _ _ _ _ _ _ _ e0
 rw [sumP1,one_parts 0] at k1 rd
 refine ⟨k2,k1,k3,o2,?_,fun q hq h1=>?_⟩
 · exact (rd 1 (by decide)).1 0 0 (by decide) (npF_pos 1) rfl
 · exact ((rd q hq).2 (by omega)).trans (bB_new 122 q hq)
theorem nJI:JI nS0 nJ0 1 0 (fun _=>0) (fun _ _=>0):=by
 obtain ⟨r1,r2,r3,r4,r5,r6⟩:=nS0_rd
 have hl:=head_laid (S:=nS0) (gen:=1) (area:=0) (by decide) (by decide) (by decide) r5
 refine { on:=nS0_calm.on,P:=r4,hn:=by rw [r1];decide,byt:=r3,okm:=r2,dead:=rfl,area:=by decide,g1:=by decide,g2:=by decide,hd:=hl.1,ha:=hl.2,ho:=?_,recs:=rfl,room:=rfl,fit:=by decide,len:=fun r hr=>absurd hr (by omega),parts:=fun r hr=>absurd hr (by omega),last:=?_}
 · show hdG nS0 0<1
   rw [hdG_zero (r6 0 (by decide) (by decide))];decide
 · intro i _ hi hg
   have hg':aG nS0 0 i=1:=hg
   rw [aG_zero (r6 _ (by omega) (by omega))] at hg'
   exact absurd hg' (by decide)
theorem open0_con:Con PG 20 [.p 0 0] [some (SS.new 122).o] (.tup [.p 1 0,.sv 1 0 (recF (fun _=>0) fun _ _=>0),.i .i64 0]) [.set nS0.o,.set nJ0.o]:=by
 have hg:bgG (SS.new 122)=0:=by
  unfold bgG
  rw [hdG_zero (bB_new 122 0 (by decide)),hdG_zero (bB_new 122 1 (by decide))];rfl
 have w:=begin0_con (SS.new 122) 0 new_okm (by decide) (by decide) new_byt hg
 rw [new_nmE] at w
 have h:=nJI
 have k:=openX_con (SS.new 122) nS0 1 0 0 (by decide) rfl w (by rw [nS0_rd.1];decide) (by rw [nS0_rd.1];decide) nS0_calm.on nS0_rd.2.2.1 (by decide) h.rc
 have ej:opJ nS0 0 1 0=nJ0:=h.opJ
 rw [ej] at k
 exact k.post (.tup ⟨.refl _,.sv fun i j hi _=>absurd hi (by omega),.refl _,trivial⟩) (OVL.refl _)
section
variable {s:SS} {j:JS} {mm n:Nat} {m:Nat->Nat} {b:Nat->Nat->Nat}
theorem JI.appendC (h:JI s j mm n m b) (c:Calm s) {L:Nat} {bs:Nat->Nat} (hL:L<=1128) (hb:∀t,bs t<256) (hf:npF L<=60-sumP m n 0):apE j (60-sumP m n 0) s L bs=0/\Calm (apS j (60-sumP m n 0) s L bs)/\JI (apS j (60-sumP m n 0) s L bs) (j.more L) (mm+npF L) (n+1) (mS n m L) (bS n b bs):=by
 have hq:=h.apQ
 have hfit:=h.fit
 have har:=h.area
 have hn:=h.hn
 have e:=c.cmt j.gen j.recs 1 (fun _=>L) (fun _=>bs) (Jn.apQ j (60-sumP m n 0)) (by rw [hq,sumP1];omega)
 exact ⟨e.1,e.2,h.append hL hb hf e.1⟩
end
end Go.Proofs.Jn
namespace Go.Proofs.Cl
open Go Go.Sim Go.Proofs Go.Proofs.Cd Go.Proofs.St Go.Proofs.YthhjjpofenjknaaDoor
theorem OkM.arm {s:SS} {m:Nat} (h:OkM s m) {k:Int} (hk:k<=9223372036854775807):OkM (s.arm k) m:=⟨h.n,h.P,h.wr,by show k.toNat<_;omega,h.at_⟩
theorem Byt.arm {s:SS} (h:Byt s) (k:Int):Byt (s.arm k):=⟨h.dur,h.P⟩
theorem OkM.fail {s:SS} {m:Nat} (h:OkM s m):OkM s.fail m:=⟨h.n,h.P,h.wr,h.left,h.at_⟩
theorem Byt.fail {s:SS} (h:Byt s):Byt s.fail:=⟨h.dur,h.P⟩
theorem lay_byt {s:SS} (h:Byt s) (q:Nat) (b:Bool):Byt (s.lay q (fun _=>0) b):=⟨fun i j=>by
 show ∃n:Nat,n<256/\(bif Nat.beq i q then (fun _=>(0:Int)) else s.dur i) j=ofNat n
 cases Nat.beq i q
 · exact h.dur i j
 · exact ⟨0,by decide,rfl⟩,h.P⟩
theorem revived_or (s:SS) (kk:Int) (tt:Bool):s.revived kk tt=s\/(s.revived kk tt).n=s.n/\(s.revived kk tt).wr=s.wr/\(s.revived kk tt).left=s.left/\(s.revived kk tt).P=[]/\(s.revived kk tt).off=false/\(Byt s->Byt (s.revived kk tt)):=by
 unfold SS.revived
 split
 · exact .inl rfl
 · refine .inr ?_
   split
   · exact ⟨rfl,rfl,rfl,rfl,rfl,fun h=>⟨(lay_byt (h.flush _) _ true).dur,fun w hw=>by cases hw⟩⟩
   · exact ⟨rfl,rfl,rfl,rfl,rfl,fun h=>⟨(h.flush _).dur,fun w hw=>by cases hw⟩⟩
theorem OkM.revived {s:SS} {m:Nat} (h:OkM s m) (kk:Int) (tt:Bool):OkM (s.revived kk tt) m:=by
 rcases revived_or s kk tt with e | ⟨e1,e2,e3,e4,_,_⟩
 · rw [e];exact h
 · exact ⟨by rw [e1];exact h.n,by rw [e4];exact Nat.zero_le _,by rw [e2];exact h.wr,by rw [e3];exact h.left,fun w hw=>by rw [e4] at hw;cases hw⟩
theorem Byt.revived {s:SS} (h:Byt s) (kk:Int) (tt:Bool):Byt (s.revived kk tt):=by
 rcases revived_or s kk tt with e | ⟨_,_,_,_,_,e⟩
 · rw [e];exact h
 · exact e h
end Go.Proofs.Cl
namespace Go.Proofs.Jn
open Go Go.Sim Go.Proofs Go.Proofs.Cd Go.Proofs.St Go.Proofs.Cl Go.Proofs.YthhjjpofenjknaaDoor
def pend (c:Nat->Nat->Nat) (a:Nat):Nat->PW->PW
 | 0,P=>P
 | w+1,P=>(a+w,fun t=>ofNat (c w t)) :: pend c a w P
theorem pend_succ (c:Nat->Nat->Nat) (a:Nat):∀(w:Nat) (P:PW),pend c a (w+1) P=pend (fun i=>c (i+1)) (a+1) w ((a,fun t=>ofNat (c 0 t)) :: P)
 | 0,P=>rfl
 | w+1,P=>by
   show (a+(w+1),_) :: pend c a (w+1) P=(a+1+w,_) :: pend (fun i=>c (i+1)) (a+1) w _
   rw [pend_succ c a w P,show a+(w+1)=a+1+w by omega]
theorem pend_congr {c c':Nat->Nat->Nat} {a:Nat} {P:PW}:∀{w:Nat},(∀i,i<w->c i=c' i)->pend c a w P=pend c' a w P
 | 0,_=>rfl
 | w+1,h=>by
   show (a+w,_) :: pend c a w P=(a+w,_) :: pend c' a w P
   rw [pend_congr fun i hi=>h i (by omega),h w (by omega)]
theorem pend_add (c:Nat->Nat->Nat) (a w1:Nat) (P:PW):∀w2,pend c a (w1+w2) P=pend (fun i=>c (w1+i)) (a+w1) w2 (pend c a w1 P)
 | 0=>rfl
 | w2+1=>by
   show (a+(w1+w2),_) :: pend c a (w1+w2) P=(a+w1+w2,_) :: pend (fun i=>c (w1+i)) (a+w1) w2 _
   rw [pend_add c a w1 P w2,show a+(w1+w2)=a+w1+w2 by omega];rfl
theorem pend_len (c:Nat->Nat->Nat) (a:Nat):∀w,(pend c a w []).length=w
 | 0=>rfl
 | w+1=>by show (pend c a w []).length+1= _;rw [pend_len c a w]
theorem pend_drop (c:Nat->Nat->Nat) (a:Nat):∀(d k:Nat),(pend c a (k+d) []).drop d=pend c a k []
 | 0,k=>rfl
 | d+1,k=>by
   show ((a+(k+d),_) :: pend c a (k+d) []).drop (d+1)= _
   rw [List.drop_succ_cons];exact pend_drop c a d k
theorem pend_lB (c:Nat->Nat->Nat) (a q:Nat):∀w,(∀i,i<w->q=a+i->lB (pend c a w []) q=true/\lbs (pend c a w []) q=fun t=>ofNat (c i t))/\((q<a\/a+w<=q)->lB (pend c a w []) q=false)
 | 0=>⟨fun i hi=>absurd hi (by omega),fun _=>rfl⟩
 | w+1=>by
   obtain ⟨h1,h2⟩:=pend_lB c a q w
   have e1:lB (pend c a (w+1) []) q=bif Nat.beq q (a+w) then true else lB (pend c a w []) q:=rfl
   have e2:lbs (pend c a (w+1) []) q=bif Nat.beq q (a+w) then (fun t=>ofNat (c w t)) else lbs (pend c a w []) q:=rfl
   refine ⟨fun i hi hq=>?_,fun hq=>?_⟩
   · by_cases ci:i=w
     · subst ci;subst hq
       rw [e1,e2,Nat.beq_refl,cond_true,cond_true];exact ⟨rfl,rfl⟩
     · rw [e1,e2,ef (by omega:q≠a+w),cond_false,cond_false]
       exact h1 i (by omega) hq
   · rw [e1,ef (by omega:q≠a+w),cond_false]
     exact h2 (by omega)
structure Wrt (s S:SS) (c:Nat->Nat->Nat) (a w:Nat):Prop where
 P:S.P=pend c a w s.P
 dur:S.dur=s.dur
 torn:S.torn=s.torn
 n:S.n=s.n
theorem wrS_same (s:SS) {q:Nat} (ho:s.off=false) (hq:q<s.n) (bs:Nat->Int):(s.wrS (ofNat q) 64 bs).P=(q,bs) :: s.P/\(s.wrS (ofNat q) 64 bs).dur=s.dur/\(s.wrS (ofNat q) 64 bs).torn=s.torn/\(s.wrS (ofNat q) 64 bs).n=s.n/\((s.wrS (ofNat q) 64 bs).off=true↔s.wrE (ofNat q) 64≠0):=by
 have hd:decide (0<=ofNat q/\ofNat q<ofNat s.n/\64=64)=true:=by simp;omega
 have eE:s.wrE (ofNat q) 64=(s.wrote q fun _=>0).payE:=by unfold SS.wrE;rw [ho,hd];rfl
 rw [wrS_on ho hq,eE]
 obtain ⟨n,dur,torn,P,wr,off,armed,left⟩:=s
 have ho':off=false:=ho
 subst ho'
 unfold SS.pay SS.payE SS.wrote
 cases armed with
 | false=>exact ⟨rfl,rfl,rfl,rfl,by simp⟩
 | true=>
   simp only
   cases e:Nat.beq left 0 with
   | true=>simp only;exact ⟨trivial,trivial,trivial,trivial,by simp⟩
   | false=>simp only;exact ⟨trivial,trivial,trivial,trivial,by simp⟩
theorem runW_p (c:Nat->Nat->Nat):∀(j:Nat) (s:SS) (a k:Nat),s.off=false->a+j<=s.n->∃w,w<=j/\Wrt s (runW c j s a k).2.1 (fun i=>c (k+i)) a w/\((runW c j s a k).1=0->w=j/\(runW c j s a k).2.1.off=false/\(runW c j s a k).2.2=a+j)/\((runW c j s a k).1≠0->(runW c j s a k).2.1.off=true)
 | 0,s,a,k,ho,ha=>⟨0,Nat.le_refl _,⟨rfl,rfl,rfl,rfl⟩,fun _=>⟨rfl,ho,rfl⟩,fun h=>absurd rfl h⟩
 | j+1,s,a,k,ho,ha=>by
   obtain ⟨p1,p2,p3,p4,p5⟩:=wrS_same s ho (show a<s.n by omega) (fun t=>ofNat (c k t))
   have e:runW c (j+1) s a k=(match decide (s.wrE (ofNat a) 64=0) with
    | true=>runW c j (s.wrS (ofNat a) 64 fun t=>ofNat (c k t)) (a+1) (k+1)
    | false=>(s.wrE (ofNat a) 64,s.wrS (ofNat a) 64 (fun t=>ofNat (c k t)),a)):=rfl
   cases d:decide (s.wrE (ofNat a) 64=0) with
   | false=>
     rw [d] at e
     simp only at e
     rw [e]
     have ne:=of_decide_eq_false d
     exact ⟨1,by omega,⟨p1,p2,p3,p4⟩,fun h=>absurd h ne,fun _=>p5.2 ne⟩
   | true=>
     rw [d] at e
     simp only at e
     rw [e]
     have on:(s.wrS (ofNat a) 64 fun t=>ofNat (c k t)).off=false:=by
      cases h:(s.wrS (ofNat a) 64 fun t=>ofNat (c k t)).off with
      | false=>rfl
      | true=>exact absurd (of_decide_eq_true d) (p5.1 h)
     obtain ⟨w,q1,q2,q3,q4⟩:=runW_p c j _ (a+1) (k+1) on (by rw [p4];omega)
     refine ⟨w+1,by omega,⟨?_,q2.dur.trans p2,q2.torn.trans p3,q2.n.trans p4⟩,fun h=>?_,q4⟩
     · rw [q2.P,p1,pend_succ]
       exact pend_congr fun i _=>by show c (k+1+i)=c (k+(i+1));rw [show k+1+i=k+(i+1) by omega]
     · have:=q3 h
       exact ⟨by omega,this.2.1,by omega⟩
def cAll (gen first:Nat) (m:Nat->Nat) (b:Nat->Nat->Nat):Nat->Nat->Nat->Nat->Nat
 | 0,_,_=>fun _=>0
 | j+1,i,x=>if x<npF (m i) then pcB gen (first+i) (npF (m i)) (m i) (b i) x else cAll gen first m b j (i+1) (x-npF (m i))
theorem runR_p (gen first:Nat) (m:Nat->Nat) (b:Nat->Nat->Nat):∀(j:Nat) (s:SS) (a i:Nat),s.off=false->a+sumP m j i<=s.n->∃w,w<=sumP m j i/\Wrt s (runR gen first m b j s a i).2.1 (cAll gen first m b j i) a w/\((runR gen first m b j s a i).1=0->w=sumP m j i/\(runR gen first m b j s a i).2.1.off=false)/\((runR gen first m b j s a i).1≠0->(runR gen first m b j s a i).2.1.off=true)
 | 0,s,a,i,ho,ha=>⟨0,Nat.le_refl _,⟨rfl,rfl,rfl,rfl⟩,fun _=>⟨rfl,ho⟩,fun h=>absurd rfl h⟩
 | j+1,s,a,i,ho,ha=>by
   have ha':a+(npF (m i)+sumP m j (i+1))<=s.n:=ha
   have es:sumP m (j+1) i=npF (m i)+sumP m j (i+1):=rfl
   have hw:∃w,w<=npF (m i)/\Wrt s (recW gen first m b s a i).2.1 (fun x=>pcB gen (first+i) (npF (m i)) (m i) (b i) (0+x)) a w/\((recW gen first m b s a i).1=0->w=npF (m i)/\(recW gen first m b s a i).2.1.off=false/\(recW gen first m b s a i).2.2=a+npF (m i))/\((recW gen first m b s a i).1≠0->(recW gen first m b s a i).2.1.off=true):=runW_p _ _ s a 0 ho (by omega)
   obtain ⟨w,q1,q2,q3,q4⟩:=hw
   have e:runR gen first m b (j+1) s a i=(match decide ((recW gen first m b s a i).1=0) with
    | true=>runR gen first m b j (recW gen first m b s a i).2.1 (recW gen first m b s a i).2.2 (i+1)
    | false=>recW gen first m b s a i):=rfl
   have cl:∀x,x<npF (m i)->pcB gen (first+i) (npF (m i)) (m i) (b i) (0+x)=cAll gen first m b (j+1) i x:=fun x hx=>by
    show _=(if x<npF (m i) then _ else _)
    rw [if_pos hx,Nat.zero_add]
   cases d:decide ((recW gen first m b s a i).1=0) with
   | false=>
     rw [d] at e
     simp only at e
     rw [e]
     have ne:=of_decide_eq_false d
     exact ⟨w,by omega,⟨q2.P.trans (pend_congr fun x hx=>cl x (by omega)),q2.dur,q2.torn,q2.n⟩,fun h=>absurd h ne,q4⟩
   | true=>
     rw [d] at e
     simp only at e
     rw [e]
     obtain ⟨w1,w2,w3⟩:=q3 (of_decide_eq_true d)
     subst w1
     obtain ⟨w',r1,r2,r3,r4⟩:=runR_p gen first m b j (recW gen first m b s a i).2.1 (recW gen first m b s a i).2.2 (i+1) w2 (by rw [w3,q2.n];omega)
     refine ⟨npF (m i)+w',by omega,⟨?_,r2.dur.trans q2.dur,r2.torn.trans q2.torn,r2.n.trans q2.n⟩,fun h=>?_,r4⟩
     · rw [r2.P,q2.P,w3,pend_add]
       rw [pend_congr (c:=fun x=>pcB gen (first+i) (npF (m i)) (m i) (b i) (0+x)) fun x hx=>cl x hx]
       exact pend_congr fun x _=>by
        show cAll gen first m b j (i+1) x=(if npF (m i)+x<npF (m i) then _ else _)
        rw [if_neg (by omega),show npF (m i)+x-npF (m i)=x by omega]
     · have:=r3 h
       exact ⟨by omega,this.2⟩
theorem cAll_at (gen first:Nat) (m:Nat->Nat) (b:Nat->Nat->Nat):∀(j i r k:Nat),r<j->k<npF (m (i+r))->cAll gen first m b j i (sumP m r i+k)=pcB gen (first+(i+r)) (npF (m (i+r))) (m (i+r)) (b (i+r)) k
 | 0,_,_,_,h,_=>absurd h (by omega)
 | j+1,i,0,k,h,hk=>by
   show (if 0+k<npF (m i) then pcB gen (first+i) (npF (m i)) (m i) (b i) (0+k) else _)= _
   have hk':k<npF (m i):=hk
   rw [Nat.zero_add,if_pos hk'];rfl
 | j+1,i,r+1,k,h,hk=>by
   show (if npF (m i)+sumP m r (i+1)+k<npF (m i) then _ else cAll gen first m b j (i+1) (npF (m i)+sumP m r (i+1)+k-npF (m i)))= _
   rw [if_neg (by omega),show npF (m i)+sumP m r (i+1)+k-npF (m i)=sumP m r (i+1)+k by omega]
   have:=cAll_at gen first m b j (i+1) r k (by omega) (by rw [show i+1+r=i+(r+1) by omega];exact hk)
   rw [this,show i+1+r=i+(r+1) by omega]
theorem cmt_off {gen first n:Nat} {m:Nat->Nat} {b:Nat->Nat->Nat} {s:SS} {a:Nat} (on:s.off=false) (ha:a+sumP m n 0<=s.n) (h:cmtE gen first n m b s a≠0):cmtE gen first n m b s a≠0/\(cmtS gen first n m b s a).off=true/\∃w,w<=sumP m n 0/\Wrt s (cmtS gen first n m b s a) (cAll gen first m b n 0) a w:=by
 refine ⟨h,?_⟩
 obtain ⟨w,q1,q2,q3,q4⟩:=runR_p gen first m b n s a 0 on ha
 unfold cmtE at h
 unfold cmtS
 cases d:decide ((runR gen first m b n s a 0).1=0) with
 | false=>exact ⟨q4 (of_decide_eq_false d),w,q1,q2⟩
 | true=>
   rw [d] at h
   have:=(q3 (of_decide_eq_true d)).2
   exact absurd (by show (runR gen first m b n s a 0).2.1.faultE=0;unfold SS.faultE;rw [this];rfl) h
structure Rvd (s T:SS) (c:Nat->Nat->Nat) (a w K:Nat):Prop where
 le:K<=w
 n:T.n=s.n
 on:T.off=false
 P:T.P=[]
 new:∀i,i<K->a+i<s.n->bB T (a+i)=c i
 mid:K<w->a+K<s.n->bB T (a+K)=bB s (a+K)\/bB T (a+K)=fun _=>0
 old:∀q,q<s.n->(q<a\/a+K<q\/(q=a+K/\w<=K))->bB T q=bB s q
theorem bB_dur {s:SS} {q:Nat} (on:s.off=false) (hP:s.P=[]) (hq:q<s.n):bB s q=bif s.torn q then (fun _=>0) else fun t=>(s.dur q t).toNat:=by
 rw [bB_v on hq]
 unfold vwT vwB
 rw [hP]
 rfl
theorem revd {s S:SS} {c:Nat->Nat->Nat} {a w:Nat} (on:s.off=false) (hP:s.P=[]) (off:S.off=true) (h:Wrt s S c a w) (kk:Int) (tt:Bool):∃K,Rvd s (S.revived kk tt) c a w K:=by
 have eP:S.P=pend c a w []:=by rw [h.P,hP]
 have el:S.P.length=w:=by rw [eP];exact pend_len c a w
 have hK:keepN kk w<=w:=Nat.min_le_right _ _
 generalize eK:keepN kk w=K at hK
 have ed:S.P.drop (S.P.length-K)=pend c a K []:=by
  rw [el,eP]
  have:=pend_drop c a (w-K) K
  rw [show K+(w-K)=w by omega] at this
  exact this
 have fd:(S.flush K).dur=durL s.dur (pend c a K []):=by unfold SS.flush;rw [ed,h.dur]
 have ft:(S.flush K).torn=tornL s.torn (pend c a K []):=by unfold SS.flush;rw [ed,h.torn]
 have both:∀q,(∀i,i<K->q=a+i->(S.flush K).torn q=false/\(S.flush K).dur q=fun t=>ofNat (c i t))/\((q<a\/a+K<=q)->(S.flush K).torn q=s.torn q/\(S.flush K).dur q=s.dur q):=by
  intro q
  obtain ⟨h1,h2⟩:=pend_lB c a q K
  rw [fd,ft,durL_v,tornL_v]
  refine ⟨fun i hi hq=>?_,fun hq=>?_⟩
  · obtain ⟨x,y⟩:=h1 i hi hq
    rw [x,cond_true,cond_true,y];exact ⟨rfl,rfl⟩
  · rw [h2 hq,cond_false,cond_false];exact ⟨rfl,rfl⟩
 refine ⟨K,?_⟩
 unfold SS.revived
 rw [off]
 simp only
 rw [el,eK]
 cases ct:(tt && Nat.blt K w) with
 | false=>
   simp only
   have tP:(S.flush K).on.P=[]:=rfl
   have tn:(S.flush K).on.n=s.n:=h.n
   have eB:∀q,q<s.n->bB (S.flush K).on q=bif (S.flush K).torn q then (fun _=>0) else fun t=>((S.flush K).dur q t).toNat:=fun q hq=>bB_dur rfl tP (by rw [tn];exact hq)
   refine ⟨hK,tn,rfl,tP,fun i hi hq=>?_,fun hk hq=>?_,fun q hq hc=>?_⟩
   · obtain ⟨x,y⟩:=(both (a+i)).1 i hi rfl
     rw [eB _ hq,x,y,cond_false];rfl
   · obtain ⟨x,y⟩:=(both (a+K)).2 (.inr (Nat.le_refl _))
     rw [eB _ hq,bB_dur on hP hq,x,y];exact .inl rfl
   · obtain ⟨x,y⟩:=(both q).2 (by omega)
     rw [eB _ hq,bB_dur on hP hq,x,y]
 | true=>
   simp only
   rw [Bool.and_eq_true] at ct
   have hlt:K<w:=by have:=ct.2;rw [Nat.blt_eq] at this;exact this
   have ea:oA S.P K=a+K:=by
    unfold oA nthW
    rw [el,eP]
    have:=pend_drop c a (w-1-K) (K+1)
    rw [show K+1+(w-1-K)=w by omega] at this
    rw [this];rfl
   rw [ea]
   have tP:((S.flush K).lay (a+K) (fun _=>0) true).on.P=[]:=rfl
   have tn:((S.flush K).lay (a+K) (fun _=>0) true).on.n=s.n:=h.n
   have eB:∀q,q<s.n->bB ((S.flush K).lay (a+K) (fun _=>0) true).on q=bif (bif Nat.beq q (a+K) then true else (S.flush K).torn q) then (fun _=>0) else fun t=>((bif Nat.beq q (a+K) then (fun _=>(0:Int)) else (S.flush K).dur q) t).toNat:=fun q hq=>bB_dur rfl tP (by rw [tn];exact hq)
   refine ⟨hK,tn,rfl,tP,fun i hi hq=>?_,fun hk hq=>?_,fun q hq hc=>?_⟩
   · obtain ⟨x,y⟩:=(both (a+i)).1 i hi rfl
     rw [eB _ hq,ef (by omega:a+i≠a+K),cond_false,cond_false,x,y,cond_false];rfl
   · rw [eB _ hq,Nat.beq_refl,cond_true,cond_true];exact .inr rfl
   · obtain ⟨x,y⟩:=(both q).2 (by omega)
     rw [eB _ hq,ef (by omega:q≠a+K),cond_false,cond_false,bB_dur on hP hq,x,y]
section
variable {s:SS} {j:JS} {mm n:Nat} {m:Nat->Nat} {b:Nat->Nat->Nat}
theorem JI.same (h:JI s j mm n m b) {T:SS} {mm':Nat} (on:T.off=false) (hP:T.P=[]) (hn:T.n=s.n) (byt:Byt T) (okm:OkM T mm') (hd:bB T (j.gen % 2)=bB s (j.gen % 2)) (ho:hdG T (1-j.gen % 2)<j.gen)
 (ar:∀i,i<60->bB T (2+j.area*60+i)=bB s (2+j.area*60+i)):JI T j mm' n m b:=by
 refine { on:=on,P:=hP,hn:=by rw [hn];exact h.hn,byt:=byt,okm:=okm,dead:=h.dead,area:=h.area,g1:=h.g1,g2:=h.g2,hd:=(hd_same hd).1.trans h.hd,ha:=(hd_same hd).2.trans h.ha,ho:=ho,recs:=h.recs,room:=h.room,fit:=h.fit,len:=h.len,parts:=fun r hr k hk=>?_,last:=fun i h1 h2 hg=>?_}
 · have h1:=sumP_mono m (show r+1<=n by omega)
   have h2:=h.fit
   rw [sumP_at] at h1
   rw [ar _ (by omega)]
   exact h.parts r hr k hk
 · have e:=a_same (ar i h2)
   rw [e.1] at hg
   rw [e.2.1,e.2.2.1,e.2.2.2]
   exact h.last i h1 h2 hg
theorem JI.part (h:JI s j mm n m b) {T:SS} {mm' L K:Nat} {bs:Nat->Nat} (hL:L<=1128) (hf:npF L<=60-sumP m n 0) (hK:K<npF L) (on:T.off=false) (hP:T.P=[]) (hn:T.n=s.n) (byt:Byt T) (okm:OkM T mm')
 (new:∀i,i<K->bB T (2+j.area*60+sumP m n 0+i)=pcB j.gen n (npF L) L bs i) (mid:bB T (2+j.area*60+sumP m n 0+K)=bB s (2+j.area*60+sumP m n 0+K)\/bB T (2+j.area*60+sumP m n 0+K)=fun _=>0)
 (old:∀q,q<s.n->(q<2+j.area*60+sumP m n 0\/2+j.area*60+sumP m n 0+K<q)->bB T q=bB s q):JI T j mm' n m b:=by
 have hfit:=h.fit
 have har:=h.area
 have hsn:=h.hn
 have hd0:=hd_same (old (j.gen % 2) (by omega) (.inl (by omega)))
 have hd1:=hd_same (old (1-j.gen % 2) (by omega) (.inl (by omega)))
 refine { on:=on,P:=hP,hn:=by rw [hn];exact h.hn,byt:=byt,okm:=okm,dead:=h.dead,area:=har,g1:=h.g1,g2:=h.g2,hd:=hd0.1.trans h.hd,ha:=hd0.2.trans h.ha,ho:=by rw [hd1.1];exact h.ho,recs:=h.recs,room:=h.room,fit:=h.fit,len:=h.len,parts:=fun r hr k hk=>?_,last:=fun i h1 h2 hg=>?_}
 · have h1:=sumP_mono m (show r+1<=n by omega)
   rw [sumP_at] at h1
   rw [old _ (by omega) (.inl (by omega))]
   exact h.parts r hr k hk
 · by_cases c1:i<sumP m n 0+K
   · have e:bB T (2+j.area*60+i)=pcB j.gen n (npF L) L bs (i-sumP m n 0):=by
      have:=new (i-sumP m n 0) (by omega)
      rw [show 2+j.area*60+sumP m n 0+(i-sumP m n 0)=2+j.area*60+i by omega] at this
      exact this
     have l:=laid (gen:=j.gen) (num:=n) (M:=L) (k:=i-sumP m n 0) bs h.g1 h.g2 (by have:=h.few;omega) hL (by omega)
     rw [<-e] at l
     have e1:aN T j.area i=n:=l.n
     have e2:aI T j.area i=i-sumP m n 0:=l.i
     have e3:aP T j.area i=npF L:=l.p
     rw [e1,e2,e3]
     exact ⟨Nat.le_refl _,fun _=>by omega⟩
   · by_cases c2:i=sumP m n 0+K
     · have e0:2+j.area*60+sumP m n 0+K=2+j.area*60+i:=by omega
       rw [e0] at mid
       rcases mid with e | e
       · have e:=a_same (a:=j.area) (i:=i) e
         rw [e.1] at hg
         rw [e.2.1,e.2.2.1,e.2.2.2]
         exact h.last i h1 h2 hg
       · rw [aG_zero e] at hg
         have:=h.g1
         omega
     · have e:=a_same (old (2+j.area*60+i) (by omega) (.inr (by omega)))
       rw [e.1] at hg
       rw [e.2.1,e.2.2.1,e.2.2.2]
       exact h.last i h1 h2 hg
theorem JI.full (h:JI s j mm n m b) {T:SS} {mm' L:Nat} {bs:Nat->Nat} (hL:L<=1128) (hf:npF L<=60-sumP m n 0) (on:T.off=false) (hP:T.P=[]) (hn:T.n=s.n) (byt:Byt T) (okm:OkM T mm')
 (new:∀i,i<npF L->bB T (2+j.area*60+sumP m n 0+i)=pcB j.gen n (npF L) L bs i)
 (old:∀q,q<s.n->(q<2+j.area*60+sumP m n 0\/2+j.area*60+sumP m n 0+npF L<=q)->bB T q=bB s q):JI T (j.more L) mm' (n+1) (mS n m L) (bS n b bs):=by
 have hfit:=h.fit
 have har:=h.area
 have hsn:=h.hn
 have hd0:=hd_same (old (j.gen % 2) (by omega) (.inl (by omega)))
 have hd1:=hd_same (old (1-j.gen % 2) (by omega) (.inl (by omega)))
 have hs:sumP (mS n m L) (n+1) 0=sumP m n 0+npF L:=by rw [sumP_at,mS_eq,sumP_mS n m L (Nat.le_refl _)]
 refine { on:=on,P:=hP,hn:=by rw [hn];exact hsn,byt:=byt,okm:=okm,dead:=h.dead,area:=har,g1:=h.g1,g2:=h.g2,hd:=hd0.1.trans h.hd,ha:=hd0.2.trans h.ha,ho:=by rw [show (j.more L).gen=j.gen from rfl,hd1.1];exact h.ho,recs:=by show j.recs+1= _;rw [h.recs],room:=?_,fit:=by rw [hs];omega,len:=?_,parts:=?_,last:=?_}
 · show j.room-ofNat (npF L)=60-ofNat (sumP (mS n m L) (n+1) 0)
   rw [hs,h.room];simp;omega
 · intro r hr
   by_cases c:r=n
   · subst c;rw [mS_eq];exact hL
   · rw [mS_lt (by omega)];exact h.len r (by omega)
 · intro r hr k hk
   show bB T (2+j.area*60+(sumP (mS n m L) r 0+k))=pcB j.gen r _ _ _ k
   rw [sumP_mS n m L (by omega)]
   by_cases c:r=n
   · subst c
     rw [mS_eq] at hk⊢
     rw [bS_eq]
     have:=new k hk
     rw [Nat.add_assoc] at this
     exact this
   · have hr':r<n:=by omega
     rw [mS_lt hr'] at hk⊢
     rw [bS_lt hr']
     have h1:=sumP_mono m (show r+1<=n by omega)
     rw [sumP_at] at h1
     rw [old _ (by omega) (.inl (by omega))]
     exact h.parts r hr' k hk
 · intro i hi1 hi2 hg
   rw [hs] at hi1
   have e:=a_same (s:=s) (S:=T) (a:=j.area) (i:=i) (old _ (by omega) (.inr (by omega)))
   have hg':aG T j.area i=j.gen:=hg
   rw [e.1] at hg'
   have hl:=h.last i (by omega) hi2 hg'
   show aN T j.area i<=n+1/\(aN T j.area i=n+1->aI T j.area i+1<aP T j.area i)
   rw [e.2.1]
   exact ⟨by omega,fun h'=>by omega⟩
theorem JI.idle (h:JI s j mm n m b) (kk:Int) (tt:Bool):JI (s.fail.revived kk tt) j mm n m b:=by
 obtain ⟨K,r⟩:=revd (s:=s) (S:=s.fail) (c:=fun _ _=>0) (a:=2) (w:=0) h.on h.P rfl ⟨rfl,rfl,rfl,rfl⟩ kk tt
 have k0:K=0:=by have:=r.le;omega
 subst k0
 have hsn:=h.hn
 have har:=h.area
 have all:∀q,q<s.n->bB (s.fail.revived kk tt) q=bB s q:=fun q hq=>r.old q hq (by omega)
 exact h.same r.on r.P r.n (h.byt.fail.revived kk tt) (h.okm.fail.revived kk tt) (all _ (by omega)) (by rw [(hd_same (all (1-j.gen % 2) (by omega))).1];exact h.ho) fun i hi=>all _ (by omega)
theorem JI.appendF (h:JI s j mm n m b) {L:Nat} {bs:Nat->Nat} (hL:L<=1128) (hb:∀t,bs t<256) (hf:npF L<=60-sumP m n 0) (e0:apE j (60-sumP m n 0) s L bs≠0) (kk:Int) (tt:Bool) :
 (apS j (60-sumP m n 0) s L bs).off=true/\(JI ((apS j (60-sumP m n 0) s L bs).revived kk tt) j (mm+npF L) n m b\/JI ((apS j (60-sumP m n 0) s L bs).revived kk tt) (j.more L) (mm+npF L) (n+1) (mS n m L) (bS n b bs)):=by
 have hq:=h.apQ
 have hfit:=h.fit
 have har:=h.area
 have hsn:=h.hn
 have s1:sumP (fun _=>L) 1 0=npF L:=sumP1 L
 unfold apE at e0
 unfold apS
 rw [hq,h.recs] at e0⊢
 have hin:2+j.area*60+sumP m n 0+sumP (fun _=>L) 1 0<=s.n:=by rw [s1];omega
 obtain ⟨_,off,w,hw,wr⟩:=cmt_off h.on hin e0
 have k1:=(cmtS_ok j.gen n 1 mm (fun _=>L) (fun _=>bs) s (2+j.area*60+sumP m n 0) h.okm hin).1
 have k3:=cmtS_byt j.gen n 1 mm (fun _=>L) (fun _=>bs) (fun _=>hb) s (2+j.area*60+sumP m n 0) h.okm h.byt hin
 rw [s1] at hw k1
 refine ⟨off,?_⟩
 obtain ⟨K,r⟩:=revd h.on h.P off wr kk tt
 have cA:∀i,i<npF L->cAll j.gen n (fun _=>L) (fun _=>bs) 1 0 i=pcB j.gen n (npF L) L bs i:=fun i hi=>by
  have:=cAll_at j.gen n (fun _=>L) (fun _=>bs) 1 0 0 i (by decide) hi
  rw [show sumP (fun _=>L) 0 0+i=i from Nat.zero_add i] at this
  exact this
 have hle:=r.le
 by_cases c:K<npF L
 · refine .inl (h.part hL hf c r.on r.P r.n (k3.revived kk tt) (k1.revived kk tt) (bs:=bs) (fun i hi=>?_) ?_ fun q hq hc=>r.old q hq (by omega))
   · rw [r.new i hi (by omega)];exact cA i (by omega)
   · by_cases c2:K<w
     · exact r.mid c2 (by omega)
     · exact .inl (r.old _ (by omega) (.inr (.inr ⟨rfl,by omega⟩)))
 · have hK:K=npF L:=by omega
   subst hK
   exact .inr (h.full hL hf r.on r.P r.n (k3.revived kk tt) (k1.revived kk tt) (fun i hi=>by rw [r.new i hi (by omega)];exact cA i hi) fun q hq hc=>r.old q hq (by omega))
theorem JI.rewriteF1 (h:JI s j mm n m b) {n':Nat} {m':Nat->Nat} {b':Nat->Nat->Nat} (hs:sumP m' n' 0<=60) (hb:∀i t,b' i t<256) (e0:rwE s j n' m' b'≠0) (kk:Int) (tt:Bool) :
 (rwS s j n' m' b').off=true/\JI ((rwS s j n' m' b').revived kk tt) j (mm+sumP m' n' 0) n m b:=by
 have har:=h.area
 have hsn:=h.hn
 unfold rwE at e0
 unfold rwS
 have hin:2+(1-j.area)*60+sumP m' n' 0<=s.n:=by omega
 obtain ⟨_,off,w,hw,wr⟩:=cmt_off h.on hin e0
 have k1:=(cmtS_ok (nxV s j) 0 n' mm m' b' s (2+(1-j.area)*60) h.okm hin).1
 have k3:=cmtS_byt (nxV s j) 0 n' mm m' b' hb s (2+(1-j.area)*60) h.okm h.byt hin
 refine ⟨off,?_⟩
 obtain ⟨K,r⟩:=revd h.on h.P off wr kk tt
 have hle:=r.le
 have far:∀q,q<s.n->(q<2+(1-j.area)*60\/2+(1-j.area)*60+60<=q)->bB ((cmtS (nxV s j) 0 n' m' b' s (2+(1-j.area)*60)).revived kk tt) q=bB s q:=fun q hq hc=>r.old q hq (by omega)
 exact h.same r.on r.P r.n (k3.revived kk tt) (k1.revived kk tt) (far _ (by omega) (by omega)) (by rw [(hd_same (far (1-j.gen % 2) (by omega) (by omega))).1];exact h.ho) fun i hi=>far _ (by omega) (by omega)
theorem JI.rewriteF2 (h:JI s j mm n m b) {n':Nat} {m':Nat->Nat} {b':Nat->Nat->Nat} (hl:∀i,i<n'->m' i<=1128) (hs:sumP m' n' 0<=60) (hb:∀i t,b' i t<256) (hv:nxV s j<=1073741824)
 (e0:rwE s j n' m' b'=0) (e1:nmE (rwS s j n' m' b') (nxV s j) (1-j.area)≠0) (kk:Int) (tt:Bool) :
 (nmS (rwS s j n' m' b') (nxV s j) (1-j.area)).off=true/\(JI ((nmS (rwS s j n' m' b') (nxV s j) (1-j.area)).revived kk tt) j (mm+sumP m' n' 0+1) n m b\/JI ((nmS (rwS s j n' m' b') (nxV s j) (1-j.area)).revived kk tt) (rwJ s j n' m') (mm+sumP m' n' 0+1) n' m' b'):=by
 obtain ⟨g1,g2,g3⟩:=nxV_gt s j
 have har:=h.area
 have hsn:=h.hn
 have hgen:=h.g1
 unfold rwE at e0
 unfold rwS at e1⊢
 unfold nmE at e1
 unfold nmS
 have hin:2+(1-j.area)*60+sumP m' n' 0<=s.n:=by omega
 obtain ⟨o1,o2,_⟩:=cmt_on _ _ _ _ _ _ _ e0
 obtain ⟨k1,k2⟩:=cmtS_ok (nxV s j) 0 n' mm m' b' s (2+(1-j.area)*60) h.okm hin
 have k3:=cmtS_byt (nxV s j) 0 n' mm m' b' hb s (2+(1-j.area)*60) h.okm h.byt hin
 have rd:=fun q hq=>cmt_bB (nxV s j) 0 n' mm m' b' s (2+(1-j.area)*60) h.okm hin h.on e0 q hq
 generalize cmtS (nxV s j) 0 n' m' b' s (2+(1-j.area)*60)=S at o1 o2 k1 k2 k3 rd e1
 have hin2:nxV s j % 2+sumP (fun _=>1) 1 0<=S.n:=by rw [sumP1,one_parts 0,k2];omega
 obtain ⟨_,off,w,hw,wr⟩:=cmt_off o1 hin2 e1
 obtain ⟨q1,q2⟩:=cmtS_ok (nxV s j) 0 1 (mm+sumP m' n' 0) (fun _=>1) (fun _ _=>(1-j.area) % 256) S (nxV s j % 2) k1 hin2
 have q3:=cmtS_byt (nxV s j) 0 1 (mm+sumP m' n' 0) (fun _=>1) (fun _ _=>(1-j.area) % 256) (fun _ _=>by omega) S (nxV s j % 2) k1 k3 hin2
 rw [sumP1,one_parts 0] at q1 hw
 refine ⟨off,?_⟩
 obtain ⟨K,r⟩:=revd o1 o2 off wr kk tt
 have hle:=r.le
 have q1':=q1.revived kk tt
 have q3':=q3.revived kk tt
 generalize (cmtS (nxV s j) 0 1 (fun _=>1) (fun _ _=>(1-j.area) % 256) S (nxV s j % 2)).revived kk tt=T at r q1' q3'
 have far:∀q,q<s.n->q≠nxV s j % 2->bB T q=bB S q:=fun q hq hc=>r.old q (by omega) (by omega)
 have far2:∀q,q<s.n->q≠nxV s j % 2->(q<2+(1-j.area)*60\/2+(1-j.area)*60+60<=q)->bB T q=bB s q:=fun q hq hc hd=>(far q hq hc).trans ((rd q hq).2 (by omega))
 have nT:T.n=s.n:=r.n.trans k2
 by_cases c:K=0
 · subst c
   refine .inl (h.same r.on r.P nT q3' q1' (far2 _ (by omega) (by omega) (by omega)) ?_ fun i hi=>far2 _ (by omega) (by omega) (by omega))
   have e2:bB T (1-j.gen % 2)=bB s (1-j.gen % 2)\/bB T (1-j.gen % 2)=fun _=>0:=by
    have eq:nxV s j % 2+0=1-j.gen % 2:=by omega
    have es:bB S (1-j.gen % 2)=bB s (1-j.gen % 2):=(rd _ (by omega)).2 (.inl (by omega))
    by_cases c2:0<w
    · have:=r.mid c2 (by omega)
      rw [eq,es] at this
      exact this
    · have:=r.old (1-j.gen % 2) (by omega) (.inr (.inr ⟨by omega,by omega⟩))
      exact .inl (this.trans es)
   rcases e2 with e | e
   · rw [(hd_same e).1];exact h.ho
   · rw [hdG_zero e];exact h.g1
 · have hK:K=1:=by omega
   subst hK
   have hh:bB T (nxV s j % 2)=pcB (nxV s j) 0 (npF 1) 1 (fun _=>(1-j.area) % 256) 0:=by
    have:=r.new 0 (by decide) (by omega)
    rw [Nat.add_zero] at this
    rw [this]
    exact cAll_at (nxV s j) 0 (fun _=>1) (fun _ _=>(1-j.area) % 256) 1 0 0 0 (by decide) (npF_pos 1)
   have hl1:=head_laid (by omega) hv (show 1-j.area<=1 by omega) hh
   have oth:bB T (1-nxV s j % 2)=bB s (1-nxV s j % 2):=far2 _ (by omega) (by omega) (by omega)
   have ho:hdG T (1-nxV s j % 2)=j.gen:=by
    rw [(hd_same oth).1,show 1-nxV s j % 2=j.gen % 2 by omega];exact h.hd
   refine .inr { on:=r.on,P:=r.P,hn:=by rw [nT];exact hsn,byt:=q3',okm:=q1',dead:=h.dead,area:=(by show 1-j.area<=1;omega),g1:=(by show 1<=nxV s j;omega),g2:=hv,hd:=hl1.1,ha:=hl1.2,ho:=(by show hdG T (1-nxV s j % 2)<nxV s j;rw [ho];exact g1),recs:=rfl,room:=rfl,fit:=hs,len:=hl,parts:=?_,last:=?_}
   · intro p hp k hk
     show bB T (2+(1-j.area)*60+(sumP m' p 0+k))=pcB (nxV s j) p _ _ _ k
     have h1:=sumP_mono m' (show p+1<=n' by omega)
     rw [sumP_at] at h1
     rw [far _ (by omega) (by omega)]
     have:=(rd (2+(1-j.area)*60+(sumP m' p 0+k)) (by omega)).1 p k hp hk (by omega)
     rw [Nat.zero_add] at this
     exact this
   · intro i hi1 hi2 hg
     have e:bB T (2+(1-j.area)*60+i)=bB s (2+(1-j.area)*60+i):=by
      rw [far _ (by omega) (by omega)]
      exact (rd _ (by omega)).2 (.inr (by omega))
     have hg':aG T (1-j.area) i=nxV s j:=hg
     rw [(a_same e).1] at hg'
     have:=g3 i hi2
     omega
end
end Go.Proofs.Jn
namespace Go.Proofs.Cl
open Go Go.Sim Go.Proofs Go.Proofs.St
def z0 {α:Type} (a b:T α):T α:=T.n none a b
def z1 {α:Type} (v:α) (a b:T α):T α:=T.n (some v) a b
def zl {α:Type} (v:α):T α:=T.n (some v) T.e T.e
end Go.Proofs.Cl
namespace Go.Proofs.Cl
open Go Go.Sim Go.Proofs Go.Proofs.Cd Go.Proofs.St Go.Proofs.YthhjjpofenjknaaDoor
theorem numR_vc (L n i:Nat) (b:Nat->Nat) (K:Res->Orc->Prop):runK PG 1000000 (.code (loopAt PG 66 0) 43 (mkT [(0,.sv 1 L (byF b)),(5,.i .i64 (ofNat n)),(7,.i .i64 (ofNat i))]) (mkH [])) (.s (.s .z (.s .z (.s (.t (.t (.s .z .z))) (.f (.f (.c .z)))))) .z) K=((fun (q11:AV)=>((fun (q10:AV)=>((fun (q9:AV)=>((fun (q8:AV)=>((fun (q7:AV)=>((fun (q6:AV)=>((fun (q5:AV)=>((fun (q4:AV)=>((fun (q3:AV)=>((fun (q2:AV)=>((fun (q1:AV)=>((fun (q0:AV)=>((decide (ofNat i<9)=true->(decide (ofNat i=ofNat L)=true->K (.st .ret (zz1 (.sv 1 L (byF b)) (zz0 (zz1 (.i .i64 0) (zzn i) (zzl (.sv 1 L (byF b)))) (zz1 (inv n) (zzn i) (zzl q6))) (zz1 (.i .i64 0) (zz1 (.i .i64 10) (zzl q7) (zzn L)) (zz1 (inv i) (zzn i) .e))) ⟨.e,0,[]⟩) .z)/\(decide (ofNat i=ofNat L)=false->(0<=ofNat i/\ofNat i<↑L)/\True/\True/\rg (wrapA .u8 ↑(BitVec.toNat (BitVec.ofInt 8 (ofNat (b i)) &&& ~~~BitVec.ofInt 8 128)))/\rg (7*ofNat i)/\(0:Int)<=(7:Int)*ofNat i/\True/\(0<=ofNat i/\ofNat i<↑L)/\True/\(decide (128<=ofNat (b i))=true->rg (ofNat i+1)/\K (.st .nrm (zz1 (.sv 1 L (byF b)) (zz0 (zz0 (zz1 q8 (zzl (.sv 1 L (byF b))) (zzl q1)) (zz1 (.sv 1 L (byF b)) (zzl q3) (zzl (.pv 1 (byF b i))))) (zz1 q0 (zz1 (inv i) (zzl (.pv 1 (byF b i))) (zzl (.sv 1 L (byF b)))) (zz1 q6 (zzn i) (zzl q9)))) (zz0 (zz0 (zz1 q7 (zzn i) (zzl q0)) (zz1 (inv L) (zzl q2) (zzl q4))) (zz1
 (inv i) (zz1 (inv i) (zzl q4) (zz1 (inv i) (zzl q8) .e)) (zz1 (inv n) (zzl q11) .e)))) ⟨.e,0,[]⟩) .z)/\(decide (128<=ofNat (b i))=false->(0<=ofNat i/\ofNat i<↑L)/\True/\(decide (ofNat (b i)=0)=true->decide (ofNat (b i)=0)=true/\decide (ofNat (b i)=0)=true/\(decide (0<ofNat i)=true->K (.st .ret (zz1 (.sv 1 L (byF b)) (zz0 (zz1 (.i .i64 0) (zz1 (inv i) (zz1 (.sv 1 L (byF b)) (zzn i) .e) (zzl q1)) (zz1 (.sv 1 L (byF b)) (zz1 q3 (zzl q5) .e) (zzl (.pv 1 (byF b i))))) (zz1 q0 (zz1 (inv i) (zz1 (.pv 1 (byF b i)) (zzl q4) .e) (zzl (.sv 1 L (byF b)))) (zz1 q6 (zz1 (inv i) (zzl q10) .e) (zzl q9)))) (zz1 (.i .i64 0) (zz1 (.i .i64 11) (zz1 q7 (zz1 (inv i) (zzl (.pv 1 (byF b i))) .e) (zzl q0)) (zz1 (inv L) (zz1 q2 (zzn i) .e) (zzl q4))) (zz1 (inv i) (zz1 (inv i) (zz1 q4 (zzl q5) .e) (zzn i)) (zz1 (inv n) (zz1 q11 (zzl q10) .e) (zzl (.sv 1 L (byF b))))))) ⟨.e,0,[]⟩) .z)/\(decide (0<ofNat i)=false->rg (ofNat i+1)/\K (.st .ret (zz1 (.sv 1 L (byF b)) (zz0 (zz1 q8 (zz1 (inv i) (zz1 (.sv 1 L (byF b)) (zzn i) .e) (zz1 q1 (zzl q0) .e)) (zz1 (.sv 1 L (byF b)) (zz1 q3 (zzl q5) .e) (zzl (.pv 1 (byF b i))))) (zz1 q0 (zz1 (inv i) (zz1 (.pv 1 (byF b i)) (zzl q4) .e) (zz1 (.sv 1 L (byF b)) (zzl q8) .e)) (zz1 q6 (zz1 (inv i) (zzl q10) .e) (zzl q9)))) (zz1 q0 (zz1 (.i .i64 0) (zz1 q7 (zz1 (inv i) (zzl (.pv 1 (byF b i))) .e) (zz1 q0 (zzn i) .e)) (zz1 (inv L) (zz1 q2 (zzn i) .e) (zzl q4))) (zz1 (inv i) (zz1 (inv i) (zz1 q4 (zzl
 q5) .e) (zzn i)) (zz1 (inv n) (zz1 q11 (zzl q10) .e) (zzl (.sv 1 L (byF b))))))) ⟨.e,0,[]⟩) .z))/\(decide (ofNat (b i)=0)=false->decide (ofNat (b i)=0)=false/\decide (ofNat (b i)=0)=false/\rg (ofNat i+1)/\K (.st .ret (zz1 (.sv 1 L (byF b)) (zz0 (zz1 q8 (zz1 (inv i) (zz1 (.sv 1 L (byF b)) (zzn i) .e) (zz1 q1 (zzl q0) .e)) (zz1 (.sv 1 L (byF b)) (zz1 q3 (zzl q5) .e) (zzl (.pv 1 (byF b i))))) (zz1 q0 (zz1 (inv i) (zz1 (.pv 1 (byF b i)) (zzl q4) .e) (zz1 (.sv 1 L (byF b)) (zzl q8) .e)) (zz1 q6 (zz1 (inv i) zzu .e) (zzl q9)))) (zz1 q0 (zz1 (.i .i64 0) (zz1 q7 (zz1 (inv i) (zzl (.pv 1 (byF b i))) .e) (zz1 q0 (zzn i) .e)) (zz1 (inv L) (zz1 q2 zzu .e) (zzl q4))) (zz1 (inv i) (zz1 (inv i) (zz1 q4 (zzl q5) .e) (zzn i)) (zz1 (inv n) (zz1 q11 (zzl (.b false)) .e) (zzl (.sv 1 L (byF b))))))) ⟨.e,0,[]⟩) .z))))/\(decide (ofNat i<9)=false->K (.st (.exit 0) (zz1 (.sv 1 L (byF b)) (zz0 (zz0 (zzn i) .e) (zzn n)) (zz0 (zz0 (zzl q7) .e) .e)) ⟨.e,0,[]⟩) .z))) (.i .i64 (wrapA .i64 ↑(BitVec.toNat (BitVec.ofInt 64 (ofNat n) ||| BitVec.ofInt 64 (wrapA .i64 (wrapA .u8 ↑(BitVec.toNat (BitVec.ofInt 8 (ofNat (b i)) &&& ~~~BitVec.ofInt 8 128))*2 ^ min (Int.toNat (7*ofNat i)) 64)))))))) (.i .i64 (wrapA .i64 (wrapA .u8 ↑(BitVec.toNat (BitVec.ofInt 8 (ofNat (b i)) &&& ~~~BitVec.ofInt 8 128))*2 ^ min (Int.toNat (7*ofNat i)) 64))))) (.i .i64 (wrapA .u8 ↑(BitVec.toNat (BitVec.ofInt 8 (ofNat (b i)) &&& ~~~BitVec.ofInt 8 128))))))
 (.i .u8 (wrapA .u8 ↑(BitVec.toNat (BitVec.ofInt 8 (ofNat (b i)) &&& ~~~BitVec.ofInt 8 128)))))) (.i .u8 (ofNat (b i))))) (.b (decide (ofNat (b i)=0))))) (.b (decide (ofNat i=ofNat L))))) (.b (decide (ofNat i<9))))) (.i .i64 (ofNat i+1)))) (.b (decide (128<=ofNat (b i)))))) (.b (decide (0<ofNat i))))) (.i .i64 (7*ofNat i))):=by kernel_rfl
def nV (b:Nat->Nat):Nat->Nat
 | 0=>0
 | i+1=>nV b i+b i % 128*2 ^ (7*i)
theorem nV_lt (b:Nat->Nat):∀i,nV b i<2 ^ (7*i)
 | 0=>(by decide:0<2 ^ (7*0))
 | i+1=>by
   have h:=nV_lt b i
   have h1:b i % 128<=127:=by omega
   have h2:b i % 128*2 ^ (7*i)<=127*2 ^ (7*i):=Nat.mul_le_mul_right _ h1
   have e:2 ^ (7*(i+1))=128*2 ^ (7*i):=by
    rw [show 7*(i+1)=7*i+7 by omega,Nat.pow_add,Nat.mul_comm]
   show nV b i+b i % 128*2 ^ (7*i)<_
   rw [e];omega
theorem low7 (x:Nat) (h:x<256):(BitVec.ofInt 8 (ofNat x) &&& ~~~BitVec.ofInt 8 (128:Int)).toNat=x % 128:=by
 have key:∀x:Fin 256,(BitVec.ofInt 8 (ofNat x.1) &&& ~~~BitVec.ofInt 8 (128:Int)).toNat=x.1 % 128:=by decide
 exact key ⟨x,h⟩
theorem wrap64 {m:Nat} (h:m<9223372036854775808):wrapA .i64 (ofNat m)=ofNat m:=by
 show (match Nat.blt m 9223372036854775808 with | true=>ofNat m | false=>IntKind.i64.wrap (ofNat m))= _
 rw [show Nat.blt m 9223372036854775808=true by rw [Nat.blt_eq];exact h]
def nvT (n i x:Nat):Int:=wrapA IntKind.i64 ↑(BitVec.toNat (BitVec.ofInt 64 (ofNat n) ||| BitVec.ofInt 64 (wrapA IntKind.i64 (wrapA IntKind.u8 ↑(BitVec.toNat (BitVec.ofInt 8 (ofNat x) &&& ~~~BitVec.ofInt 8 (128:Int)))*(2:Int) ^ min (Int.toNat ((7:Int)*ofNat i)) 64))))
theorem num_step {n i x:Nat} (hi:i<9) (hn:n<2 ^ (7*i)) (hx:x<256) :
 nvT n i x=ofNat (n+x % 128*2 ^ (7*i)):=by
 unfold nvT
 rw [low7 x hx]
 have e1:wrapA IntKind.u8 (↑(x % 128):Int)=ofNat (x % 128):=by
  show ofNat (x % 128 % 256)= _
  rw [Nat.mod_eq_of_lt (by omega)]
 have e2:min (Int.toNat ((7:Int)*ofNat i)) 64=7*i:=by
  have:Int.toNat ((7:Int)*ofNat i)=7*i:=by simp;omega
  rw [this];omega
 have hp:2 ^ (7*i)<=2 ^ 56:=Nat.pow_le_pow_right (by decide) (by omega)
 have hd:x % 128<=127:=by omega
 have hm:x % 128*2 ^ (7*i)<=127*2 ^ (7*i):=Nat.mul_le_mul_right _ hd
 have h56:(2:Nat) ^ 56=72057594037927936:=by decide
 rw [h56] at hp
 have e3:ofNat (x % 128)*(2:Int) ^ (7*i)=ofNat (x % 128*2 ^ (7*i)):=by
  simp [Int.natCast_mul,Int.natCast_pow]
 rw [e1,e2,e3,wrap64 (m:=x % 128*2 ^ (7*i)) (by omega),BitVec.toNat_or,ofInt_nat,ofInt_nat]
 have n1:n % 2 ^ 64=n:=Nat.mod_eq_of_lt (by omega)
 have n2:x % 128*2 ^ (7*i) % 2 ^ 64=x % 128*2 ^ (7*i):=Nat.mod_eq_of_lt (by omega)
 rw [n1,n2]
 have e4:n ||| x % 128*2 ^ (7*i)=n+x % 128*2 ^ (7*i):=by
  rw [Nat.or_comm,Nat.mul_comm,<-Nat.two_pow_add_eq_or_of_lt hn (x % 128)]
  omega
 rw [e4]
 exact wrap64 (by omega)
def nm (b:Nat->Nat) (L:Nat):Nat->Nat->Option (Nat×Nat×Nat)
 | 0,_=>none
 | k+1,i=>match Nat.beq i L with
   | true=>some (0,0,10)
   | false=>match Nat.ble 128 (b i) with
     | true=>nm b L k (i+1)
     | false=>match Nat.beq (b i) 0 && Nat.blt 0 i with
       | true=>some (0,0,11)
       | false=>some (nV b (i+1),i+1,0)
def nmv (b:Nat->Nat) (L:Nat):Nat:=((nm b L 9 0).getD (0,0,11)).1
def nmz (b:Nat->Nat) (L:Nat):Nat:=((nm b L 9 0).getD (0,0,11)).2.1
def nme (b:Nat->Nat) (L:Nat):Nat:=((nm b L 9 0).getD (0,0,11)).2.2
def numI (b:Nat->Nat) (L i:Nat):List (Nat×AV)×List (Option AObj):=([(0,.sv 1 L (byF b)),(5,.i .i64 (ofNat (nV b i))),(7,.i .i64 (ofNat i))],[])
theorem numR_lp (b:Nat->Nat) (L:Nat) (hb:∀k,b k<256) (v z e:Nat) (h:nm b L 9 0=some (v,z,e)) :
 LDoes PG (loopAt PG 66 0) 43 0 (mkT [(0,.sv 1 L (byF b)),(5,.i .i64 0),(7,.i .i64 0)]) [] .ret (mkT [(2,.i .i64 (ofNat v)),(3,.i .i64 (ofNat z)),(4,.i .i64 (ofNat e))]) []:=by
 refine loop_indV (D:=Nat) (l':=[(2,.i .i64 (ofNat v)),(3,.i .i64 (ofNat z)),(4,.i .i64 (ofNat e))]) (numI b L) (fun i=>9-i) (fun i=>i<=9/\i<=L/\nm b L (9-i) i=some (v,z,e)) ?_ 0 ⟨by decide,Nat.zero_le _,h⟩
 rintro i ⟨h9,hL,hr⟩
 refine ⟨Nat.zero_le _,1000000,?_⟩
 have hlt:i<9:=by
  rcases Nat.lt_or_ge i 9 with q | q
  · exact q
  · have:i=9:=by omega
    subst this;cases hr
 rw [show 9-i=(9-(i+1))+1 by omega] at hr
 have hr:(match Nat.beq i L with
  | true=>some (0,0,10)
  | false=>match Nat.ble 128 (b i) with
    | true=>nm b L (9-(i+1)) (i+1)
    | false=>match Nat.beq (b i) 0 && Nat.blt 0 i with
      | true=>some (0,0,11)
      | false=>some (nV b (i+1),i+1,0))=some (v,z,e):=hr
 refine ⟨_,(numR_vc L (nV b i) i b _).mpr ⟨fun _=>⟨fun hq=>?_,fun hq=>?_⟩,fun h0=>absurd (of_decide_eq_false h0) (by simp;omega)⟩⟩
 · have:i=L:=Int.ofNat.inj (of_decide_eq_true hq)
   subst this
   rw [Nat.beq_refl] at hr
   cases hr
   exact .inr ⟨[],[],_,_,[(2,.i .i64 0),(3,.i .i64 0),(4,.i .i64 10)],[],rfl,by simp,st_k [] (by kernel_rfl),.refl _,.refl _⟩
 · have hne:i≠L:=fun q=>of_decide_eq_false hq (by rw [q])
   have hil:i<L:=by omega
   have b1:(0:Int)<=ofNat i/\ofNat i<(L:Int):=⟨by simp,by simp;omega⟩
   rw [show Nat.beq i L=false by rw [Bool.eq_false_iff,ne_eq,Nat.beq_eq];exact hne] at hr
   have hx:=hb i
   have b2:(-9223372036854775808:Int)<=wrapA IntKind.u8 ↑(BitVec.toNat (BitVec.ofInt 8 (ofNat (b i)) &&& ~~~BitVec.ofInt 8 (128:Int)))/\wrapA IntKind.u8 ↑(BitVec.toNat (BitVec.ofInt 8 (ofNat (b i)) &&& ~~~BitVec.ofInt 8 (128:Int)))<=(9223372036854775807:Int):=by
    rw [low7 _ hx]
    show (-9223372036854775808:Int)<=ofNat (b i % 128 % 256)/\ofNat (b i % 128 % 256)<=(9223372036854775807:Int)
    constructor<;>simp<;>omega
   have b3:(-9223372036854775808:Int)<=(7:Int)*ofNat i/\(7:Int)*ofNat i<=(9223372036854775807:Int):=⟨by simp;omega,by simp;omega⟩
   have b4:(0:Int)<=(7:Int)*ofNat i:=by simp;omega
   have b5:(-9223372036854775808:Int)<=ofNat i+1/\ofNat i+1<=(9223372036854775807:Int):=⟨by simp;omega,by simp;omega⟩
   have st:=num_step (n:=nV b i) hlt (nV_lt b i) hx
   refine ⟨b1,trivial,trivial,b2,b3,b4,trivial,b1,trivial,fun hg=>?_,fun hg=>⟨b1,trivial,fun hz=>⟨hz,hz,fun hp=>?_,fun hp=>⟨b5,?_⟩⟩,fun hz=>⟨hz,hz,b5,?_⟩⟩⟩
   · have:128<=b i:=by have:=of_decide_eq_true hg;simp at this;omega
     rw [Nat.ble_eq_true_of_le this] at hr
     refine ⟨b5,.inl ⟨i+1,[],[],_,_,[(0,.sv 1 L (byF b)),(5,.i .i64 (nvT (nV b i) i (b i))),(7,.i .i64 (ofNat i+1))],[],⟨by omega,by omega,hr⟩,by show 9-(i+1)<9-i;omega,rfl,st_k [] (by kernel_rfl),?_,.refl _⟩⟩
     rw [st];exact .refl _
   all_goals
    have hlo:¬128<=b i:=by have:=of_decide_eq_false hg;simp at this;omega
    rw [show Nat.ble 128 (b i)=false by rw [Bool.eq_false_iff,ne_eq,Nat.ble_eq];exact hlo] at hr
   · have h0:b i=0:=by have:=of_decide_eq_true hz;simpa using this
     have hp':0<i:=by have:=of_decide_eq_true hp;simpa using this
     rw [h0,show Nat.blt 0 i=true by rw [Nat.blt_eq];exact hp'] at hr
     cases hr
     exact .inr ⟨[],[],_,_,[(2,.i .i64 0),(3,.i .i64 0),(4,.i .i64 11)],[],rfl,by simp,st_k [] (by kernel_rfl),.refl _,.refl _⟩
   · have hp':¬0<i:=by have:=of_decide_eq_false hp;simpa using this
     rw [show Nat.blt 0 i=false by rw [Bool.eq_false_iff,ne_eq,Nat.blt_eq];exact hp',Bool.and_false] at hr
     cases hr
     refine .inr ⟨[],[],_,_,[(2,.i .i64 (nvT (nV b i) i (b i))),(3,.i .i64 (ofNat i+1)),(4,.i .i64 0)],[],rfl,by simp,st_k [] (by kernel_rfl),?_,.refl _⟩
     rw [st];exact .refl _
   · have h0:b i≠0:=by have:=of_decide_eq_false hz;simpa using this
     rw [show Nat.beq (b i) 0=false by rw [Bool.eq_false_iff,ne_eq,Nat.beq_eq];exact h0,Bool.false_and] at hr
     cases hr
     refine .inr ⟨[],[],_,_,[(2,.i .i64 (nvT (nV b i) i (b i))),(3,.i .i64 (ofNat i+1)),(4,.i .i64 0)],[],rfl,by simp,st_k [] (by kernel_rfl),?_,.refl _⟩
     rw [st];exact .refl _
theorem numX_lp (b:Nat->Nat) (L:Nat) (hb:∀k,b k<256) (h:nm b L 9 0=none) :
 LDoes PG (loopAt PG 66 0) 43 0 (mkT [(0,.sv 1 L (byF b)),(5,.i .i64 0),(7,.i .i64 0)]) [] (.exit 0) (mkT []) []:=by
 refine loop_indV (D:=Nat) (l':=[]) (numI b L) (fun i=>9-i) (fun i=>i<=9/\i<=L/\nm b L (9-i) i=none) ?_ 0 ⟨by decide,Nat.zero_le _,h⟩
 rintro i ⟨h9,hL,hr⟩
 refine ⟨Nat.zero_le _,1000000,?_⟩
 by_cases hlt:i<9
 · rw [show 9-i=(9-(i+1))+1 by omega] at hr
   have hr:(match Nat.beq i L with
    | true=>some (0,0,10)
    | false=>match Nat.ble 128 (b i) with
      | true=>nm b L (9-(i+1)) (i+1)
      | false=>match Nat.beq (b i) 0 && Nat.blt 0 i with
        | true=>some (0,0,11)
        | false=>some (nV b (i+1),i+1,0))=none:=hr
   have hne:i≠L:=fun q=>by
    rw [q,Nat.beq_refl] at hr;cases hr
   rw [show Nat.beq i L=false by rw [Bool.eq_false_iff,ne_eq,Nat.beq_eq];exact hne] at hr
   have h128:128<=b i:=by
    rcases Nat.lt_or_ge (b i) 128 with q | q
    · rw [show Nat.ble 128 (b i)=false by rw [Bool.eq_false_iff,ne_eq,Nat.ble_eq];omega] at hr
      cases hz:(Nat.beq (b i) 0 && Nat.blt 0 i)<;>rw [hz] at hr<;>cases hr
    · exact q
   rw [Nat.ble_eq_true_of_le h128] at hr
   have hx:=hb i
   have b1:(0:Int)<=ofNat i/\ofNat i<(L:Int):=⟨by simp,by simp;omega⟩
   have b2:(-9223372036854775808:Int)<=wrapA IntKind.u8 ↑(BitVec.toNat (BitVec.ofInt 8 (ofNat (b i)) &&& ~~~BitVec.ofInt 8 (128:Int)))/\wrapA IntKind.u8 ↑(BitVec.toNat (BitVec.ofInt 8 (ofNat (b i)) &&& ~~~BitVec.ofInt 8 (128:Int)))<=(9223372036854775807:Int):=by
    rw [low7 _ hx]
    show (-9223372036854775808:Int)<=ofNat (b i % 128 % 256)/\ofNat (b i % 128 % 256)<=(9223372036854775807:Int)
    constructor<;>simp<;>omega
   have b3:(-9223372036854775808:Int)<=(7:Int)*ofNat i/\(7:Int)*ofNat i<=(9223372036854775807:Int):=⟨by simp;omega,by simp;omega⟩
   have b4:(0:Int)<=(7:Int)*ofNat i:=by simp;omega
   have b5:(-9223372036854775808:Int)<=ofNat i+1/\ofNat i+1<=(9223372036854775807:Int):=⟨by simp;omega,by simp;omega⟩
   have st:=num_step (n:=nV b i) hlt (nV_lt b i) hx
   refine ⟨_,(numR_vc L (nV b i) i b _).mpr ⟨fun _=>⟨fun hq=>absurd (Int.ofNat.inj (of_decide_eq_true hq)) hne,fun hq=>?_⟩,fun h0=>absurd (of_decide_eq_false h0) (by simp;omega)⟩⟩
   refine ⟨b1,trivial,trivial,b2,b3,b4,trivial,b1,trivial,fun hg=>?_,fun hg=>absurd (of_decide_eq_false hg) (by simp;omega)⟩
   refine ⟨b5,.inl ⟨i+1,[],[],_,_,[(0,.sv 1 L (byF b)),(5,.i .i64 (nvT (nV b i) i (b i))),(7,.i .i64 (ofNat i+1))],[],⟨by omega,by omega,hr⟩,by show 9-(i+1)<9-i;omega,rfl,st_k [] (by kernel_rfl),?_,.refl _⟩⟩
   rw [st];exact .refl _
 · exact ⟨_,(numR_vc L (nV b i) i b _).mpr ⟨fun h0=>absurd (of_decide_eq_true h0) (by simp;omega),fun h0=>.inr ⟨[],[],_,_,[],[],rfl,by simp,st_k [] (by kernel_rfl),.refl _,.refl _⟩⟩⟩
end Go.Proofs.Cl
namespace Go.Proofs.Cl
open Go Go.Sim Go.Proofs Go.Proofs.Cd Go.Proofs.St
def rdO (L:Nat) (b:Nat->Nat) (e:Int):AObj:=.cells 130 2 [] (setAll .e 0 [.sv 1 L (byF b),.i .i64 e])
def shB (z:Nat) (b:Nat->Nat):Nat->Nat:=fun k=>b (z+k)
end Go.Proofs.Cl
namespace Go.Proofs.Cl
open Go Go.Sim Go.Proofs Go.Proofs.Cd Go.Proofs.St Go.Proofs.YthhjjpofenjknaaDoor
theorem numA_vc (L:Nat) (b:Nat->Nat) (K:Res->Orc->Prop):runK PG 1000000 (.call 66 [.sv 1 L (byF b)] (mkH [])) (.lop [] [0,5,7] 0 .ret [(2,.i .i64 (ofNat (nmv b L))),(3,.i .i64 (ofNat (nmz b L))),(4,.i .i64 (ofNat (nme b L)))] [] .z) K=(LDoes PG (loopAt PG 66 0) 43 0 (mkT [(0,.sv 1 L (byF b)),(5,.i .i64 0),(7,.i .i64 0)]) [] .ret (mkT [(2,.i .i64 (ofNat (nmv b L))),(3,.i .i64 (ofNat (nmz b L))),(4,.i .i64 (ofNat (nme b L)))]) []/\K (.rv (.tup [inv (nmv b L),inv (nmz b L),inv (nme b L)]) ⟨.e,0,[]⟩) .z):=by kernel_rfl
theorem numB_vc (L:Nat) (b:Nat->Nat) (K:Res->Orc->Prop):runK PG 1000000 (.call 66 [.sv 1 L (byF b)] (mkH [])) (.lop [] [0,5,7] 0 (.exit 0) [] [] .z) K=(LDoes PG (loopAt PG 66 0) 43 0 (mkT [(0,.sv 1 L (byF b)),(5,.i .i64 0),(7,.i .i64 0)]) [] (.exit 0) (mkT []) []/\K (.rv (.tup [.i .i64 0,.i .i64 0,.i .i64 11]) ⟨.e,0,[]⟩) .z):=by kernel_rfl
theorem cloneS_vc (m:Nat) (b:Nat->Nat) (K:Res->Orc->Prop):runK PG 1000000 (.call 65 [.sv 1 (m+1) (byF b)] (mkH [])) (.c (.s .z .z)) K=(True/\((1=1/\0+(m+1)<=m+1)/\True/\True/\0+(m+1)<=140737488355328/\(3*(0+(m+1))+1536)*1<=562949953421312)/\K (.rv (.sv 1 (m+1) fun k x=>CV.i .u8 (ofNat (b k))) ⟨zz0 (zz0 .e .e) .e,2,[1,1,0,0]⟩) .z):=by kernel_rfl
theorem clone0_vc (K:Res->Orc->Prop):runK PG 1000000 (.call 65 [.l0] (mkH [])) (.c .z) K=(True/\K (.rv .l0 ⟨.e,0,[]⟩) .z):=by kernel_rfl
theorem clonez_vc (K:Res->Orc->Prop):runK PG 1000000 (.call 65 [.lz] (mkH [])) (.c .z) K=(True/\K (.rv (.l 0 0 0 0 1 true) ⟨zzl (AObj.cells 5 0 [] .e),1,[0,0]⟩) .z):=by kernel_rfl
theorem rdNum_vc (L:Nat) (b:Nat->Nat) (e:Int) (K:Res->Orc->Prop):runK PG 1000000 (.call 44 [.p 0 0] (mkH [some (rdO L b e)])) (.inl (.c (.s .z (.cal [] (.tup [inv (nmv b L),inv (nmz b L),inv (nme b L)]) [] .z)))) K=(True/\True/\((!decide (e=0))=true->K (.rv (.i .i64 0) ⟨zzl (AObj.cells 130 2 [] (zz1 (.sv 1 L (byF b)) (zzl (.i .i64 e)) .e)),1,[]⟩) .z)/\((!decide (e=0))=false->True/\Con PG 66 [.sv 1 L (byF b)] [] (.tup [inv (nmv b L),inv (nmz b L),inv (nme b L)]) []/\True/\True/\(0<=ofNat (nmz b L)/\True/\nmz b L<=L/\L<=L)/\True/\K (.rv (inv (nmv b L)) ⟨zzl (AObj.cells 130 2 [] (zz1 (.sv 1 (L-nmz b L) (shiftF (nmz b L) (byF b))) (zzn (nme b L)) .e)),1,[0,0]⟩) .z)):=by kernel_rfl
theorem nm_le (b:Nat->Nat) (L:Nat):∀k i v z e,i<=L->nm b L k i=some (v,z,e)->z<=L
 | 0,i,v,z,e,_,h=>by cases h
 | k+1,i,v,z,e,hi,h=>by
   have h:(match Nat.beq i L with
    | true=>some (0,0,10)
    | false=>match Nat.ble 128 (b i) with
      | true=>nm b L k (i+1)
      | false=>match Nat.beq (b i) 0 && Nat.blt 0 i with
        | true=>some (0,0,11)
        | false=>some (nV b (i+1),i+1,0))=some (v,z,e):=h
   cases h1:Nat.beq i L with
   | true=>rw [h1] at h;cases h;exact Nat.zero_le _
   | false=>
     have hne:i≠L:=fun q=>by rw [q,Nat.beq_refl] at h1;cases h1
     rw [h1] at h
     cases h2:Nat.ble 128 (b i) with
     | true=>rw [h2] at h;exact nm_le b L k (i+1) v z e (by omega) h
     | false=>
       rw [h2] at h
       cases h3:(Nat.beq (b i) 0 && Nat.blt 0 i) with
       | true=>rw [h3] at h;cases h;exact Nat.zero_le _
       | false=>rw [h3] at h;cases h;omega
theorem nmz_le (b:Nat->Nat) (L:Nat):nmz b L<=L:=by
 unfold nmz
 cases h:nm b L 9 0 with
 | none=>exact Nat.zero_le _
 | some q=>obtain ⟨v,z,e⟩:=q;exact nm_le b L 9 0 v z e (Nat.zero_le _) h
theorem num_con (b:Nat->Nat) (L:Nat) (hb:∀k,b k<256):Con PG 66 [.sv 1 L (byF b)] [] (.tup [.i .i64 (ofNat (nmv b L)),.i .i64 (ofNat (nmz b L)),.i .i64 (ofNat (nme b L))]) []:=by
 cases h:nm b L 9 0 with
 | none=>
   have e1:nmv b L=0:=by unfold nmv;rw [h];rfl
   have e2:nmz b L=0:=by unfold nmz;rw [h];rfl
   have e3:nme b L=11:=by unfold nme;rw [h];rfl
   rw [e1,e2,e3]
   exact con_plain rfl ((numB_vc L b _).mpr ⟨numX_lp b L hb h,_,_,rfl,rfl⟩)
 | some q=>
   obtain ⟨v,z,e⟩:=q
   have e1:nmv b L=v:=by unfold nmv;rw [h];rfl
   have e2:nmz b L=z:=by unfold nmz;rw [h];rfl
   have e3:nme b L=e:=by unfold nme;rw [h];rfl
   have lp:=numR_lp b L hb v z e h
   rw [<-e1,<-e2,<-e3] at lp
   exact con_plain rfl ((numA_vc L b _).mpr ⟨lp,_,_,rfl,rfl⟩)
theorem cloneB_con (L:Nat) (b:Nat->Nat) (hL:L<=1073741824):Con PG 65 [.sv 1 L (byF b)] [] (.sv 1 L (byF b)) []:=by
 cases L with
 | succ m=>exact con_of_run [] [] ((cloneS_vc m b _).mpr ⟨trivial,⟨⟨rfl,by omega⟩,trivial,trivial,by omega,by omega⟩,_,_,rfl,ret_k (by kernel_rfl)⟩)
 | zero=>
   have h0:Con PG 65 [.l0] [] (.sv 1 0 (byF b)) []:=by
    have h:=con_of_run (v:=.l0) (us:=[]) [] [] ((clone0_vc _).mpr ⟨trivial,_,_,rfl,ret_k (by kernel_rfl)⟩)
    exact h.post (VW.nil _ _) trivial
   have hz:Con PG 65 [.lz] [] (.sv 1 0 (byF b)) []:=by
    have h:=con_of_run (v:=.sv 1 0 (listF 1 [] 0)) (us:=[]) [0] [] ((clonez_vc _).mpr ⟨trivial,_,_,rfl,ret_fz [0] ((0+0*1<=0)/\True) (by kernel_rfl) (by kernel_rfl) ⟨by omega,trivial⟩ (by kernel_rfl) rfl (by kernel_rfl) (by kernel_rfl) rfl trivial⟩)
    exact h.post (VW.sv fun i j hi=>absurd hi (Nat.not_lt_zero i)) trivial
   intro ρ w args' hv hh hoff
   cases hv with | cons _ _ v' _ h1 h2=>
   cases h1 with | sv _ _ _ _ hc=>
   cases hc with
   | sv0=>exact h0 ρ w _ (.cons _ _ _ _ .l0 h2) hh hoff
   | svz _ _ a c=>exact hz ρ w _ (.cons _ _ _ _ (.lz a c) h2) hh hoff
   | sv _ _ _ B o cap g q1 q2 q3=>exact hz ρ w _ (.cons _ _ _ _ (.lz _ cap) h2) hh hoff
theorem rdNum_con (L:Nat) (b:Nat->Nat) (hb:∀k,b k<256):Con PG 44 [.p 0 0] [some (rdO L b 0)] (.i .i64 (ofNat (nmv b L))) [.set (rdO (L-nmz b L) (shB (nmz b L) b) (ofNat (nme b L)))]:=by
 have k:Con PG 44 [.p 0 0] [some (rdO L b 0)] (.i .i64 (ofNat (nmv b L))) [.set (.cells 130 2 [] (setAll .e 0 [.sv 1 (L-nmz b L) (shiftF (nmz b L) (byF b)),.i .i64 (ofNat (nme b L))]))]:=
  con_of_run [] [] ((rdNum_vc L b 0 _).mpr ⟨trivial,trivial,fun h=>(by cases h),fun _=>⟨trivial,num_con b L hb,trivial,trivial,⟨by simp,trivial,nmz_le b L,Nat.le_refl _⟩,trivial,_,_,rfl,ret_k (by kernel_rfl)⟩⟩)
 have e:shiftF (nmz b L) (byF b)=byF (shB (nmz b L) b):=by
  funext i j
  rw [shiftF_eq];rfl
 rw [e] at k
 exact k
end Go.Proofs.Cl
namespace Go.Proofs.Cl
open Go Go.Sim Go.Proofs Go.Proofs.Cd Go.Proofs.St
def w0O:AObj:=.cells 117 2 [.p0,.i .i64 0] .e
def wO (k:Nat):AObj:=.cells 117 2 [.p0,.i .i64 0] (setAll .e 0 [.p 1 0,.i .i64 (ofNat k)])
def shO (A k:Nat):AObj:=.cells 142 1 [] (setAll .e 0 [.lr A 1 0 k false])
def lyB (g:Nat->Int) (k:Nat) (x:Int):Nat->Int:=fun i=>bif Nat.blt i k then g i else x
def iF (b:Nat->Int):Nat->Nat->CV:=fun k _=>.i .u8 (b k)
end Go.Proofs.Cl
namespace Go.Proofs.Cl
open Go Go.Sim Go.Proofs Go.Proofs.Cd Go.Proofs.St Go.Proofs.YthhjjpofenjknaaDoor
theorem lay0_vc (x:Int) (K:Res->Orc->Prop):runK PG 1000000 (.call 73 [.p 0 0,.i .u8 x] (mkH [some w0O])) (oc 15 (.inl (oc 7 .z))) K=(True/\True/\True/\True/\True/\True/\True/\True/\True/\True/\True/\rg (1)/\True/\K (.rv (.tup []) ⟨zz1 (AObj.cells 117 2 [.p0,.i .i64 0] (zz1 (.p 1 0) (zzl (.i .i64 1)) .e)) (zz1 (AObj.cells 142 1 [] (zzl (.l 3 0 1 1 1 false))) (zzl (AObj.cells 5 1 [] (zzl (.i .u8 x)))) .e) (zzl (AObj.cells 5 1 [] (zzl (.i .u8 x)))),4,[0,1,3,2,0,1]⟩) .z):=by kernel_rfl
theorem layR_vc (x:Int) (k:Nat) (g:Nat->Int) (h:decide (ofNat k<ofNat k)=false) (K:Res->Orc->Prop):runK PG 1000000 (.call 73 [.p 0 0,.i .u8 x] (mkH [some (wO k),some (shO 2 k),some (.rows 5 1 k (Cl.iF g))])) (oc 14 (.f .z)) K=(True/\True/\True/\True/\True/\decide (ofNat k<ofNat k)=false/\True/\True/\True/\(0+k<=k/\True/\k+1<=140737488355328/\(3*(k+1)+1536)*1<=562949953421312)/\True/\True/\rg (ofNat k+1)/\True/\K (.rv (.tup []) ⟨zz1 (AObj.cells 117 2 [.p0,.i .i64 0] (zz1 (.p 1 0) (zzl (.i .i64 (ofNat k+1))) .e)) (zz1 (AObj.cells 142 1 [] (zzl (.lr 4 1 0 (addN k 1) false))) (zzl (AObj.cells 5 1 [] (zzl (.i .u8 x)))) .e) (zz0 (zzl (AObj.rows 5 1 (addN k 1) (appZ k (fun k x=>CV.i .u8 (g k)) fun x_1 j=>List.getD [CV.i .u8 x] j CV.p0))) .e),5,[0,1,4,2,3]⟩) .z):=by kernel_rfl
theorem w0_vc (n:Nat) (K:Res->Orc->Prop):runK PG 1000000 (.code (loopAt PG 53 0) 21 (mkT [(0,.p 0 0),(1,.i .i64 (ofNat n))]) (mkH [some w0O])) (.s (.cal [0] (.tup []) [.set (wO 1),.set (shO 2 1),.set (AObj.rows 5 1 1 (iF fun x=>wrapA .u8 ↑(BitVec.toNat (BitVec.ofInt 8 (wrapA .u8 (ofNat n)) ||| BitVec.ofInt 8 128))))] .z) .z) K=((fun (q0:AV)=>((decide (128<=ofNat n)=true->True/\True/\Con PG 73 [.p 0 0,.i .u8 (wrapA .u8 ↑(BitVec.toNat (BitVec.ofInt 8 (wrapA .u8 (ofNat n)) ||| BitVec.ofInt 8 128)))] [some w0O] (.tup []) [.set (wO 1),.set (shO 2 1),.set (AObj.rows 5 1 1 (iF fun x=>wrapA .u8 ↑(BitVec.toNat (BitVec.ofInt 8 (wrapA .u8 (ofNat n)) ||| BitVec.ofInt 8 128))))]/\(0:Int)<=(7:Int)/\K (.st .nrm (zz1 (.p 0 0) (zz1 q0 (zz0 (zz0 (zzl (.i .u8 (wrapA .u8 ↑(BitVec.toNat (BitVec.ofInt 8 (wrapA .u8 (ofNat n)) ||| BitVec.ofInt 8 128))))) .e) (zzl q0)) (zz0 (zzl (.b (decide (128<=ofNat n)))) (zzn n))) (zz0 (zz0 (zz1 (inv n) zzu .e) (zzl (.p 0 0))) (zz0 (zzn n) (zzl (.i .u8 (wrapA .u8 (ofNat n))))))) ⟨zz1 (AObj.cells 117 2 [.p0,.i .i64 0] (zz1 (.p 1 0) (zzl (.i .i64 1)) .e)) (zzl (AObj.cells 142 1 [] (zzl (.lr 2 1 0 1 false)))) (zzl (AObj.rows 5 1 1 (iF fun x=>wrapA .u8 ↑(BitVec.toNat (BitVec.ofInt 8 (wrapA .u8 (ofNat n)) ||| BitVec.ofInt 8 128))))),2+1,[2,1,0]⟩) .z)/\(decide (128<=ofNat n)=false->K (.st (.exit 0) (zz1 (.p 0 0) (zz1 (inv n) .e (zz0 (zzl (.b (decide (128<=ofNat n)))) .e))
 (zz0 (zz0 (zzn n) .e) .e)) ⟨zzl (AObj.cells 117 2 [.p0,.i .i64 0] .e),1,[]⟩) .z))) (.i .i64 (Int.fdiv (ofNat n) 128))):=by kernel_rfl
theorem wR_vc (n k:Nat) (g:Nat->Int) (K:Res->Orc->Prop):runK PG 1000000 (.code (loopAt PG 53 0) 21 (mkT [(0,.p 0 0),(1,.i .i64 (ofNat n))]) (mkH [some (wO k),some (shO 2 k),some (.rows 5 1 k (Cl.iF g))])) (.s (.cal [0,1,2] (.tup []) [.set (wO (k+1)),.set (shO 3 (k+1)),.gone,.set (AObj.rows 5 1 (k+1) (iF (lyB g k (wrapA .u8 ↑(BitVec.toNat (BitVec.ofInt 8 (wrapA .u8 (ofNat n)) ||| BitVec.ofInt 8 128))))))] .z) .z) K=((fun (q1:AV)=>((fun (q0:Nat->Nat->CV)=>((decide (128<=ofNat n)=true->True/\True/\Con PG 73 [.p 0 0,.i .u8 (wrapA .u8 ↑(BitVec.toNat (BitVec.ofInt 8 (wrapA .u8 (ofNat n)) ||| BitVec.ofInt 8 128)))] [some (wO k),some (shO 2 k),some (.rows 5 1 k (iF g))] (.tup []) [.set (wO (k+1)),.set (shO 3 (k+1)),.gone,.set (AObj.rows 5 1 (k+1) q0)]/\(0:Int)<=(7:Int)/\K (.st .nrm (zz1 (.p 0 0) (zz1 q1 (zz0 (zz0 (zzl (.i .u8 (wrapA .u8 ↑(BitVec.toNat (BitVec.ofInt 8 (wrapA .u8 (ofNat n)) ||| BitVec.ofInt 8 128))))) .e) (zzl q1)) (zz0 (zzl (.b (decide (128<=ofNat n)))) (zzn n))) (zz0 (zz0 (zz1 (inv n) zzu .e) (zzl (.p 0 0))) (zz0 (zzn n) (zzl (.i .u8 (wrapA .u8 (ofNat n))))))) ⟨zz1 (AObj.cells 117 2 [.p0,.i .i64 0] (zz1 (.p 1 0) (zzn (k+1)) .e)) (zz1 (AObj.cells 142 1 [] (zzl (.lr 3 1 0 (k+1) false))) (zzl (AObj.rows 5 1 (k+1) q0)) .e) (zz0 .e .e),3+1,[3,2,1,0]⟩) .z)/\(decide (128<=ofNat n)=false->K (.st (.exit 0) (zz1 (.p 0 0) (zz1 (inv n) .e (zz0 (zzl (.b (decide (128
 <=ofNat n)))) .e)) (zz0 (zz0 (zzn n) .e) .e)) ⟨zz1 (AObj.cells 117 2 [.p0,.i .i64 0] (zz1 (.p 1 0) (zzn k) .e)) (zzl (AObj.cells 142 1 [] (zzl (.lr 2 1 0 k false)))) (zzl (AObj.rows 5 1 k (iF g))),3,[]⟩) .z))) (iF (lyB g k (wrapA .u8 ↑(BitVec.toNat (BitVec.ofInt 8 (wrapA .u8 (ofNat n)) ||| BitVec.ofInt 8 128))))))) (.i .i64 (Int.fdiv (ofNat n) 128))):=by kernel_rfl
theorem lay0_con (x:Int):Con PG 73 [.p 0 0,.i .u8 x] [some w0O] (.tup []) [.set (wO 1),.set (shO 2 1),.set (.rows 5 1 1 (Cl.iF fun _=>x))]:=by
 have k:Con PG 73 [.p 0 0,.i .u8 x] [some w0O] (.tup []) [.set (wO 1),.set (.cells 142 1 [] (setAll .e 0 [.l 2 0 1 1 1 false])),.set (cellsO 5 [.i .u8 x])]:=
  con_of_run [] [1,3] ((lay0_vc x _).mpr (by
   repeat' first | exact trivial | apply And.intro | decide | exact ⟨_,_,rfl,ret_is (by kernel_rfl) rfl (by kernel_rfl) (by kernel_rfl) rfl (by refine ⟨?_,?_,?_,?_,?_,?_,trivial⟩<;>kernel_rfl)⟩))
 refine k.post (.refl _) ⟨.refl _,.cellsD (dflt:=[]) (l:=[.l 2 0 1 1 1 false]) (l':=[.lr 2 1 0 1 false]) ⟨⟨fun _=>rfl,fun ρ x h=>h.l_lr⟩,trivial⟩,.x (OX.cellsRows (f:=fun i=>Cl.iF (fun _=>x) i 0) rfl fun i hi=>?_),trivial⟩
 have:i=0:=by omega
 subst this
 exact ⟨_,rfl,fun ρ y h=>by cases h;exact .i _ _⟩
theorem lay_app (g:Nat->Int) (k:Nat) (x:Int) (i j:Nat) (hi:i<k+1) (hj:j<1):CW (appZ k (Cl.iF g) (fun _ j=>List.getD [CV.i .u8 x] j .p0) i j) (Cl.iF (lyB g k x) i j):=by
 have:j=0:=by omega
 subst this
 have h:=appZ_i (n:=k) (f:=Cl.iF g) (g:=fun _ j=>List.getD [CV.i .u8 x] j .p0) (i:=i) (j:=0) (k:=.u8) (a:=g i) (b:=x) rfl rfl
 refine .of ?_
 rw [h]
 unfold Cl.iF lyB
 by_cases q:i<k
 · rw [if_pos q,show Nat.blt i k=true by rw [Nat.blt_eq];exact q];rfl
 · rw [if_neg q,show Nat.blt i k=false by rw [Bool.eq_false_iff,ne_eq,Nat.blt_eq];exact q];rfl
theorem layR_con (x:Int) (k:Nat) (g:Nat->Int) (hk:k<=1073741824):Con PG 73 [.p 0 0,.i .u8 x] [some (wO k),some (shO 2 k),some (.rows 5 1 k (Cl.iF g))] (.tup []) [.set (wO (k+1)),.set (shO 3 (k+1)),.gone,.set (.rows 5 1 (k+1) (Cl.iF (lyB g k x)))]:=by
 have d:decide (ofNat k<ofNat k)=false:=decide_eq_false (by simp)
 have sz:0+k<=k/\True/\k+1<=140737488355328/\(3*(k+1)+1536)*1<=562949953421312:=⟨by omega,trivial,by omega,by omega⟩
 have b:(-9223372036854775808:Int)<=ofNat k+1/\ofNat k+1<=(9223372036854775807:Int):=⟨by simp;omega,by simp;omega⟩
 have q:Con PG 73 [.p 0 0,.i .u8 x] [some (wO k),some (shO 2 k),some (.rows 5 1 k (Cl.iF g))] (.tup []) [.set (wO (k+1)),.set (shO 3 (addN k 1)),.gone,.set (.rows 5 1 (addN k 1) (appZ k (Cl.iF g) fun _ j=>List.getD [CV.i .u8 x] j .p0))]:=
  con_of_run [] [4] ((layR_vc x k g d _).mpr (by
   repeat' first | exact trivial | assumption | apply And.intro | exact ⟨_,_,rfl,ret_is (by kernel_rfl) rfl (by kernel_rfl) (by kernel_rfl) rfl (by refine ⟨?_,?_,?_,?_,?_,?_,trivial⟩<;>kernel_rfl)⟩))
 rw [addN_eq] at q
 exact q.post (.refl _) ⟨.refl _,.refl _,.refl _,.rowsW fun i j hi hj=>lay_app g k x i j hi hj,trivial⟩
def chN (n:Nat):Int:=wrapA IntKind.u8 ↑(BitVec.toNat (BitVec.ofInt 8 (wrapA IntKind.u8 (ofNat n)) ||| BitVec.ofInt 8 (128:Int)))
theorem chN_eq (n:Nat):chN n=ofNat (n % 128+128):=by
 have key:∀x:Fin 256,(BitVec.ofInt 8 (ofNat x.1) ||| BitVec.ofInt 8 (128:Int)).toNat=x.1 % 128+128:=by decide
 have e:wrapA IntKind.u8 (ofNat n)=ofNat (n % 256):=rfl
 unfold chN
 rw [e,key ⟨n % 256,Nat.mod_lt _ (by decide)⟩]
 show ofNat ((n % 256 % 128+128) % 256)= _
 congr 1
 omega
theorem fdiv128 (n:Nat):Int.fdiv (ofNat n) (128:Int)=ofNat (n / 128):=by
 cases n<;>rfl
def fW (n:Nat):Nat->Int:=fun i=>chN (n / 128 ^ i)
def gW (g:Nat->Int) (k n:Nat):Nat->Int:=fun i=>bif Nat.blt i k then g i else chN (n / 128 ^ (i-k))
def mRf:Nat->Nat->Nat
 | 0,_=>0
 | f+1,n=>match Nat.blt n 128 with
   | true=>0
   | false=>mRf f (n / 128)+1
def mR (n:Nat):Nat:=mRf 10 n
def lst (n:Nat):Nat:=n / 128 ^ mR n
theorem mRf_ok:∀(f n:Nat),n<128 ^ (f+1)->mRf f n<=f/\(∀j,j<mRf f n->128<=n / 128 ^ j)/\n / 128 ^ mRf f n<128
 | 0,n,h=>⟨Nat.le_refl _,fun j hj=>absurd hj (Nat.not_lt_zero j),by show n / 1<128;rw [Nat.div_one];simpa using h⟩
 | f+1,n,h=>by
   cases hb:Nat.blt n 128 with
   | true=>
     have e:mRf (f+1) n=0:=by show (match Nat.blt n 128 with | true=>0 | false=>_)=0;rw [hb]
     have:n<128:=by rwa [Nat.blt_eq] at hb
     rw [e]
     exact ⟨Nat.zero_le _,fun j hj=>absurd hj (Nat.not_lt_zero j),by show n / 1<128;rw [Nat.div_one];exact this⟩
   | false=>
     have e:mRf (f+1) n=mRf f (n / 128)+1:=by show (match Nat.blt n 128 with | true=>0 | false=>mRf f (n / 128)+1)= _;rw [hb]
     have hn:¬n<128:=by rw [Bool.eq_false_iff,ne_eq,Nat.blt_eq] at hb;exact hb
     have hd:n / 128<128 ^ (f+1):=by
      rw [Nat.div_lt_iff_lt_mul (by decide),<-Nat.pow_succ];exact h
     obtain ⟨i1,i2,i3⟩:=mRf_ok f (n / 128) hd
     have ed:∀j,n / 128 / 128 ^ j=n / 128 ^ (j+1):=fun j=>by rw [Nat.div_div_eq_div_mul,Nat.pow_succ,Nat.mul_comm]
     rw [e]
     refine ⟨by omega,fun j hj=>?_,?_⟩
     · cases j with
       | zero=>show 128<=n / 1;rw [Nat.div_one];omega
       | succ j=>rw [<-ed];exact i2 j (by omega)
     · rw [<-ed];exact i3
theorem mR_ok {n:Nat} (h:n<9223372036854775808):mR n<=10/\(∀j,j<mR n->128<=n / 128 ^ j)/\n / 128 ^ mR n<128:=mRf_ok 10 n (Nat.lt_of_lt_of_le h (by decide))
theorem le_dec {x:Nat} (h:decide ((128:Int)<=ofNat x)=true):128<=x:=by
 have:=of_decide_eq_true h
 simp at this;omega
theorem lt_dec {x:Nat} (h:decide ((128:Int)<=ofNat x)=false):x<128:=by
 have:=of_decide_eq_false h
 simp at this;omega
theorem div_s (n j:Nat):n / 128 ^ j / 128=n / 128 ^ (j+1):=by rw [Nat.div_div_eq_div_mul,Nat.pow_succ]
def wI (n k:Nat) (g:Nat->Int) (j:Nat):List (Nat×AV)×List (Option AObj):=([(0,.p 0 0),(1,.i .i64 (ofNat (n / 128 ^ j)))],[some (wO (k+j)),some (shO 2 (k+j)),some (.rows 5 1 (k+j) (Cl.iF (gW g k n)))])
theorem lpC (n k:Nat) (g:Nat->Int) (hn:n<9223372036854775808) (hk:k<=1073741000) (s:Nat) (hs:s<=mR n) :
 LDoes PG (loopAt PG 53 0) 21 2 (mkT (wI n k g s).1) (wI n k g s).2 (.exit 0) (mkT [(0,.p 0 0),(1,.i .i64 (ofNat (lst n)))]) [some (wO (k+mR n)),some (shO 2 (k+mR n)),some (.rows 5 1 (k+mR n) (Cl.iF (gW g k n)))]:=by
 obtain ⟨m10,mge,mlt⟩:=mR_ok hn
 refine loop_indV (D:=Nat) (l':=[(0,.p 0 0),(1,.i .i64 (ofNat (lst n)))]) (wI n k g) (fun j=>mR n-j) (fun j=>j<=mR n) ?_ s hs
 intro j hj
 refine ⟨by simp [wI],1000000,?_⟩
 refine ⟨_,(wR_vc (n / 128 ^ j) (k+j) (gW g k n) _).mpr ⟨fun h0=>?_,fun h0=>?_⟩⟩
 · have hlt:j<mR n:=by
    rcases Nat.lt_or_ge j (mR n) with q | q
    · exact q
    · have:j=mR n:=by omega
      subst this
      have:=le_dec h0
      omega
   have c:=layR_con (chN (n / 128 ^ j)) (k+j) (gW g k n) (by omega)
   refine ⟨trivial,trivial,c,by decide,.inl ⟨j+1,[0,1,3],[],_,_,[(0,.p 0 0),(1,.i .i64 (Int.fdiv (ofNat (n / 128 ^ j)) 128))],[some (wO (k+j+1)),some (shO 2 (k+j+1)),some (.rows 5 1 (k+j+1) (Cl.iF (lyB (gW g k n) (k+j) (chN (n / 128 ^ j)))))],hlt,by show mR n-(j+1)<mR n-j;omega,rfl,
    st_is [0,1,3] (by kernel_rfl) rfl rfl rfl (by refine ⟨?_,?_,?_,?_,?_,?_,trivial⟩<;>kernel_rfl) rfl,?_,.refl _,.refl _,.rowsW fun i z hi hz=>.of ?_,trivial⟩⟩
   · rw [fdiv128,div_s];exact .refl _
   · show CV.i .u8 (bif Nat.blt i (k+j) then gW g k n i else chN (n / 128 ^ j))=CV.i .u8 (gW g k n i)
     by_cases q:i<k+j
     · rw [show Nat.blt i (k+j)=true by rw [Nat.blt_eq];exact q];rfl
     · have:i=k+j:=by have hi:i<k+j+1:=hi;omega
       subst this
       rw [show Nat.blt (k+j) (k+j)=false by rw [Bool.eq_false_iff,ne_eq,Nat.blt_eq];omega]
       unfold gW
       rw [show Nat.blt (k+j) k=false by rw [Bool.eq_false_iff,ne_eq,Nat.blt_eq];omega,Nat.add_sub_cancel_left]
       rfl
 · have:j=mR n:=by
    have h0:=lt_dec h0
    rcases Nat.lt_or_ge j (mR n) with q | q
    · have:=mge j q
      omega
    · omega
   subst this
   exact .inr ⟨[0,1,2],[],_,_,[(0,.p 0 0),(1,.i .i64 (ofNat (n / 128 ^ mR n)))],[some (wO (k+mR n)),some (shO 2 (k+mR n)),some (.rows 5 1 (k+mR n) (Cl.iF (gW g k n)))],rfl,by simp,
    st_is [0,1,2] (by kernel_rfl) rfl rfl rfl (by refine ⟨?_,?_,?_,?_,?_,?_,trivial⟩<;>kernel_rfl) rfl,.refl _,.refl _⟩
theorem wnA_vc (n:Nat) (K:Res->Orc->Prop):runK PG 1000000 (.call 53 [.p 0 0,inv n] (mkH [some w0O])) (.c (.lop [0] [0,1] 1 (.exit 0) [(0,.p 0 0),(1,.i .i64 (ofNat (lst n)))] [some (wO (mR n)),some (shO 2 (mR n)),some (.rows 5 1 (mR n) (iF (fW n)))] (.cal [0,1,2] (.tup []) [.set (wO (mR n+1)),.set (shO 3 (mR n+1)),.gone,.set (AObj.rows 5 1 (mR n+1) (iF (lyB (fW n) (mR n) (wrapA .u8 (ofNat (lst n))))))] .z))) K=((fun (q1:Nat->Nat->CV)=>((fun (q0:List (Option AObj))=>(True/\LDoes PG (loopAt PG 53 0) 21 1 (mkT [(0,.p 0 0),(1,.i .i64 (if 0>ofNat n then 0 else ofNat n))]) [some w0O] (.exit 0) (mkT [(0,.p 0 0),(1,.i .i64 (ofNat (lst n)))]) q0/\True/\Con PG 73 [.p 0 0,.i .u8 (wrapA .u8 (ofNat (lst n)))] q0 (.tup []) [.set (wO (mR n+1)),.set (shO 3 (mR n+1)),.gone,.set (AObj.rows 5 1 (mR n+1) q1)]/\K (.rv (.tup []) ⟨zz1 (AObj.cells 117 2 [.p0,.i .i64 0] (zz1 (.p 1 0) (zzn (mR n+1)) .e)) (zz1 (AObj.cells 142 1 [] (zzl (.lr 3 1 0 (mR n+1) false))) (zzl (AObj.rows 5 1 (mR n+1) q1)) .e) (zz0 .e .e),4,[3,2,1,0,2,1,0]⟩) .z)) [some (wO (mR n)),some (shO 2 (mR n)),some (.rows 5 1 (mR n) (iF (fW n)))])) (iF (lyB (fW n) (mR n) (wrapA .u8 (ofNat (lst n)))))):=by kernel_rfl
theorem wnB_vc (n:Nat) (K:Res->Orc->Prop):runK PG 1000000 (.call 53 [.p 0 0,inv n] (mkH [some w0O])) (.c (.lop [0] [0,1] 1 (.exit 0) [(0,.p 0 0),(1,.i .i64 (if 0>ofNat n then 0 else ofNat n))] [some w0O] (.cal [0] (.tup []) [.set (wO 1),.set (shO 2 1),.set (AObj.rows 5 1 1 (iF fun x=>wrapA .u8 (if 0>ofNat n then 0 else ofNat n)))] .z))) K=((fun (q0:Int)=>(True/\LDoes PG (loopAt PG 53 0) 21 1 (mkT [(0,.p 0 0),(1,.i .i64 q0)]) [some w0O] (.exit 0) (mkT [(0,.p 0 0),(1,.i .i64 q0)]) [some w0O]/\True/\Con PG 73 [.p 0 0,.i .u8 (wrapA .u8 q0)] [some w0O] (.tup []) [.set (wO 1),.set (shO 2 1),.set (AObj.rows 5 1 1 (iF fun x=>wrapA .u8 q0))]/\K (.rv (.tup []) ⟨zz1 (AObj.cells 117 2 [.p0,.i .i64 0] (zz1 (.p 1 0) (zzl (.i .i64 1)) .e)) (zzl (AObj.cells 142 1 [] (zzl (.lr 2 1 0 1 false)))) (zzl (AObj.rows 5 1 1 (iF fun x=>wrapA .u8 q0))),3,[2,1,0,0]⟩) .z)) (if 0>ofNat n then 0 else ofNat n)):=by kernel_rfl
theorem wnC_vc (n k:Nat) (g:Nat->Int) (K:Res->Orc->Prop):runK PG 1000000 (.call 53 [.p 0 0,inv n] (mkH [some (wO k),some (shO 2 k),some (.rows 5 1 k (Cl.iF g))])) (.c (.lop [0,1,2] [0,1] 2 (.exit 0) [(0,.p 0 0),(1,.i .i64 (ofNat (lst n)))] [some (wO (k+mR n)),some (shO 2 (k+mR n)),some (.rows 5 1 (k+mR n) (iF (gW g k n)))] (.cal [0,1,3] (.tup []) [.set (wO (k+mR n+1)),.set (shO 3 (k+mR n+1)),.gone,.set (AObj.rows 5 1 (k+mR n+1) (iF (lyB (gW g k n) (k+mR n) (wrapA .u8 (ofNat (lst n))))))] .z))) K=((fun (q1:Nat->Nat->CV)=>((fun (q0:List (Option AObj))=>(True/\LDoes PG (loopAt PG 53 0) 21 2 (mkT [(0,.p 0 0),(1,.i .i64 (if 0>ofNat n then 0 else ofNat n))]) [some (wO k),some (shO 2 k),some (.rows 5 1 k (iF g))] (.exit 0) (mkT [(0,.p 0 0),(1,.i .i64 (ofNat (lst n)))]) q0/\True/\Con PG 73 [.p 0 0,.i .u8 (wrapA .u8 (ofNat (lst n)))] q0 (.tup []) [.set (wO (k+mR n+1)),.set (shO 3 (k+mR n+1)),.gone,.set (AObj.rows 5 1 (k+mR n+1) q1)]/\K (.rv (.tup []) ⟨zz1 (AObj.cells 117 2 [.p0,.i .i64 0] (zz1 (.p 1 0) (zzn (k+mR n+1)) .e)) (zz1 (AObj.cells 142 1 [] (zzl (.lr 4 1 0 (k+mR n+1) false))) (zz0 .e .e) .e) (zz0 (zzl (AObj.rows 5 1 (k+mR n+1) q1)) .e),5,[4,3,1,0,3,2,1,0]⟩) .z)) [some (wO (k+mR n)),some (shO 2 (k+mR n)),some (.rows 5 1 (k+mR n) (iF (gW g k n)))])) (iF (lyB (gW g k n) (k+mR n) (wrapA .u8 (ofNat (lst n)))))):=by kernel_rfl
def aI (n:Nat):Nat->List (Nat×AV)×List (Option AObj)
 | 0=>([(0,.p 0 0),(1,.i .i64 (ofNat n))],[some w0O])
 | j+1=>([(0,.p 0 0),(1,.i .i64 (ofNat (n / 128 ^ (j+1))))],[some (wO (j+1)),some (shO 2 (j+1)),some (.rows 5 1 (j+1) (Cl.iF (fW n)))])
theorem lpA (n:Nat) (hn:n<9223372036854775808) (h128:128<=n) :
 LDoes PG (loopAt PG 53 0) 21 1 (mkT [(0,.p 0 0),(1,.i .i64 (ofNat n))]) [some w0O] (.exit 0) (mkT [(0,.p 0 0),(1,.i .i64 (ofNat (lst n)))]) [some (wO (mR n)),some (shO 2 (mR n)),some (.rows 5 1 (mR n) (Cl.iF (fW n)))]:=by
 obtain ⟨m10,mge,mlt⟩:=mR_ok hn
 have m1:1<=mR n:=by
  rcases Nat.eq_zero_or_pos (mR n) with q | q
  · rw [q] at mlt
    have:n / 128 ^ 0=n:=Nat.div_one n
    omega
  · exact q
 refine loop_indV (D:=Nat) (l':=[(0,.p 0 0),(1,.i .i64 (ofNat (lst n)))]) (aI n) (fun j=>mR n-j) (fun j=>j<=mR n) ?_ 0 (Nat.zero_le _)
 intro j hj
 cases j with
 | zero=>
   refine ⟨by simp [aI],1000000,_,(w0_vc n _).mpr ⟨fun _=>⟨trivial,trivial,lay0_con (chN n),by decide,?_⟩,fun h0=>absurd (lt_dec h0) (by omega)⟩⟩
   refine .inl ⟨1,[0,1,2],[],_,_,[(0,.p 0 0),(1,.i .i64 (Int.fdiv (ofNat n) 128))],[some (wO 1),some (shO 2 1),some (.rows 5 1 1 (Cl.iF fun _=>chN n))],m1,by show mR n-1<mR n-0;omega,rfl,
    st_is [0,1,2] (by kernel_rfl) rfl rfl rfl (by refine ⟨?_,?_,?_,?_,?_,?_,trivial⟩<;>kernel_rfl) rfl,?_,.refl _,.refl _,.rowsW fun i z hi hz=>.of ?_,trivial⟩
   · rw [fdiv128]
     show TVL _ [(0,.p 0 0),(1,.i .i64 (ofNat (n / 128 ^ 1)))]
     rw [Nat.pow_one];exact .refl _
   · have:i=0:=by omega
     subst this
     show CV.i .u8 (chN n)=CV.i .u8 (chN (n / 128 ^ 0))
     rw [show n / 128 ^ 0=n from Nat.div_one n]
 | succ j=>
   refine ⟨by simp [aI],1000000,_,(wR_vc (n / 128 ^ (j+1)) (j+1) (fW n) _).mpr ⟨fun h0=>?_,fun h0=>?_⟩⟩
   · have hlt:j+1<mR n:=by
      rcases Nat.lt_or_ge (j+1) (mR n) with q | q
      · exact q
      · have:j+1=mR n:=by omega
        rw [this] at h0
        have:=le_dec h0
        omega
     have c:=layR_con (chN (n / 128 ^ (j+1))) (j+1) (fW n) (by omega)
     refine ⟨trivial,trivial,c,by decide,.inl ⟨j+1+1,[0,1,3],[],_,_,[(0,.p 0 0),(1,.i .i64 (Int.fdiv (ofNat (n / 128 ^ (j+1))) 128))],[some (wO (j+1+1)),some (shO 2 (j+1+1)),some (.rows 5 1 (j+1+1) (Cl.iF (lyB (fW n) (j+1) (chN (n / 128 ^ (j+1))))))],hlt,by show mR n-(j+1+1)<mR n-(j+1);omega,rfl,
      st_is [0,1,3] (by kernel_rfl) rfl rfl rfl (by refine ⟨?_,?_,?_,?_,?_,?_,trivial⟩<;>kernel_rfl) rfl,?_,.refl _,.refl _,.rowsW fun i z hi hz=>.of ?_,trivial⟩⟩
     · rw [fdiv128,div_s];exact .refl _
     · show CV.i .u8 (bif Nat.blt i (j+1) then fW n i else chN (n / 128 ^ (j+1)))=CV.i .u8 (fW n i)
       by_cases q:i<j+1
       · rw [show Nat.blt i (j+1)=true by rw [Nat.blt_eq];exact q];rfl
       · have:i=j+1:=by have hi:i<j+1+1:=hi;omega
         subst this
         rw [show Nat.blt (j+1) (j+1)=false by rw [Bool.eq_false_iff,ne_eq,Nat.blt_eq];omega];rfl
   · have e:j+1=mR n:=by
      have h0:=lt_dec h0
      rcases Nat.lt_or_ge (j+1) (mR n) with q | q
      · have:=mge (j+1) q
        omega
      · omega
     refine .inr ⟨[0,1,2],[],_,_,[(0,.p 0 0),(1,.i .i64 (ofNat (n / 128 ^ (j+1))))],[some (wO (j+1)),some (shO 2 (j+1)),some (.rows 5 1 (j+1) (Cl.iF (fW n)))],rfl,by simp,
      st_is [0,1,2] (by kernel_rfl) rfl rfl rfl (by refine ⟨?_,?_,?_,?_,?_,?_,trivial⟩<;>kernel_rfl) rfl,?_,?_⟩
     · unfold lst;rw [e];exact .refl _
     · rw [e];exact .refl _
theorem lpB (n:Nat) (h:n<128) (x:Int) (hx:x=ofNat n):LDoes PG (loopAt PG 53 0) 21 1 (mkT [(0,.p 0 0),(1,.i .i64 x)]) [some w0O] (.exit 0) (mkT [(0,.p 0 0),(1,.i .i64 x)]) [some w0O]:=by
 subst hx
 refine loop_indV (D:=Unit) (l':=[(0,.p 0 0),(1,.i .i64 (ofNat n))]) (fun _=>([(0,.p 0 0),(1,.i .i64 (ofNat n))],[some w0O])) (fun _=>0) (fun _=>True) ?_ () trivial
 intro _ _
 exact ⟨by simp,1000000,_,(w0_vc n _).mpr ⟨fun h0=>absurd (le_dec h0) (by omega),fun _=>.inr ⟨[0],[],_,_,[(0,.p 0 0),(1,.i .i64 (ofNat n))],[some w0O],rfl,by simp,st_k [0] (by kernel_rfl),.refl _,.refl _⟩⟩⟩
def wl (n:Nat):Nat:=mR n+1
def wB (n:Nat):Nat->Int:=fun i=>bif Nat.blt i (mR n) then chN (n / 128 ^ i) else ofNat (lst n)
def wG (g:Nat->Int) (k n:Nat):Nat->Int:=fun i=>bif Nat.blt i k then g i else wB n (i-k)
theorem max0 (n:Nat):(if (0:Int)>ofNat n then (0:Int) else ofNat n)=ofNat n:=if_neg (by simp)
theorem u8_lo {n:Nat} (h:n<256):wrapA IntKind.u8 (ofNat n)=ofNat n:=by
 show ofNat (n % 256)= _
 rw [Nat.mod_eq_of_lt h]
theorem wnum0_con (n:Nat) (hn:n<9223372036854775808):Con PG 53 [.p 0 0,.i .i64 (ofNat n)] [some w0O] (.tup []) [.set (wO (wl n)),.set (shO 2 (wl n)),.set (.rows 5 1 (wl n) (Cl.iF (wB n)))]:=by
 obtain ⟨m10,mge,mlt⟩:=mR_ok hn
 by_cases h128:n<128
 · have e0:mR n=0:=by
    rcases Nat.eq_zero_or_pos (mR n) with q | q
    · exact q
    · have:=mge 0 q
      have e:n / 128 ^ 0=n:=Nat.div_one n
      omega
   have k:Con PG 53 [.p 0 0,.i .i64 (ofNat n)] [some w0O] (.tup []) [.set (wO 1),.set (shO 2 1),.set (.rows 5 1 1 (Cl.iF fun _=>wrapA IntKind.u8 (if (0:Int)>ofNat n then (0:Int) else ofNat n)))]:=
    con_of_run [] [1,2] ((wnB_vc n _).mpr ⟨trivial,lpB n h128 _ (max0 n),trivial,lay0_con _,_,_,rfl,ret_is (by kernel_rfl) rfl (by kernel_rfl) (by kernel_rfl) rfl (by refine ⟨?_,?_,?_,?_,?_,?_,trivial⟩<;>kernel_rfl)⟩)
   unfold wl
   rw [e0]
   refine k.post (.refl _) ⟨.refl _,.refl _,.rowsW fun i j hi hj=>.of ?_,trivial⟩
   have:i=0:=by omega
   subst this
   show CV.i .u8 (wrapA IntKind.u8 (if (0:Int)>ofNat n then (0:Int) else ofNat n))=CV.i .u8 (bif Nat.blt 0 (mR n) then chN (n / 128 ^ 0) else ofNat (n / 128 ^ mR n))
   rw [e0,max0,u8_lo (by omega),show n / 128 ^ 0=n from Nat.div_one n];rfl
 · have lp:=lpA n hn (by omega)
   rw [<-max0 n] at lp
   have k:Con PG 53 [.p 0 0,.i .i64 (ofNat n)] [some w0O] (.tup []) [.set (wO (mR n+1)),.set (shO 2 (mR n+1)),.set (.rows 5 1 (mR n+1) (Cl.iF (lyB (fW n) (mR n) (wrapA IntKind.u8 (ofNat (lst n))))))]:=
    con_of_run [] [1,3] ((wnA_vc n _).mpr ⟨trivial,lp,trivial,layR_con _ _ _ (by omega),_,_,rfl,ret_is (by kernel_rfl) rfl (by kernel_rfl) (by kernel_rfl) rfl (by refine ⟨?_,?_,?_,?_,?_,?_,trivial⟩<;>kernel_rfl)⟩)
   refine k.post (.refl _) ⟨.refl _,.refl _,.rowsW fun i j hi hj=>.of ?_,trivial⟩
   show CV.i .u8 (bif Nat.blt i (mR n) then fW n i else wrapA IntKind.u8 (ofNat (lst n)))=CV.i .u8 (bif Nat.blt i (mR n) then chN (n / 128 ^ i) else ofNat (lst n))
   rw [u8_lo (show lst n<256 by unfold lst;omega)];rfl
theorem wnumR_con (n k:Nat) (g:Nat->Int) (hn:n<9223372036854775808) (hk:k<=1073741000):Con PG 53 [.p 0 0,.i .i64 (ofNat n)] [some (wO k),some (shO 2 k),some (.rows 5 1 k (Cl.iF g))] (.tup [])
 [.set (wO (k+wl n)),.set (shO 3 (k+wl n)),.gone,.set (.rows 5 1 (k+wl n) (Cl.iF (wG g k n)))]:=by
 obtain ⟨m10,mge,mlt⟩:=mR_ok hn
 have lp0:LDoes PG (loopAt PG 53 0) 21 2 (mkT [(0,.p 0 0),(1,.i .i64 (ofNat n))]) [some (wO k),some (shO 2 k),some (.rows 5 1 k (Cl.iF g))] (.exit 0) (mkT [(0,.p 0 0),(1,.i .i64 (ofNat (lst n)))]) [some (wO (k+mR n)),some (shO 2 (k+mR n)),some (.rows 5 1 (k+mR n) (Cl.iF (gW g k n)))]:=by
  have h:=lpC n k g hn hk 0 (Nat.zero_le _)
  unfold wI at h
  rw [show n / 128 ^ 0=n from Nat.div_one n] at h
  refine h.ovl ⟨.refl _,.refl _,.rowsW fun i j hi hj=>.of ?_,trivial⟩
  show CV.i .u8 (g i)=CV.i .u8 (bif Nat.blt i k then g i else chN (n / 128 ^ (i-k)))
  rw [show Nat.blt i k=true by rw [Nat.blt_eq];exact hi];rfl
 have lp:=lp0
 rw [<-max0 n] at lp
 have q:Con PG 53 [.p 0 0,.i .i64 (ofNat n)] [some (wO k),some (shO 2 k),some (.rows 5 1 k (Cl.iF g))] (.tup [])
  [.set (wO (k+mR n+1)),.set (shO 3 (k+mR n+1)),.gone,.set (.rows 5 1 (k+mR n+1) (Cl.iF (lyB (gW g k n) (k+mR n) (wrapA IntKind.u8 (ofNat (lst n))))))]:=
  con_of_run [] [4] ((wnC_vc n k g _).mpr ⟨trivial,lp,trivial,layR_con _ _ _ (by omega),_,_,rfl,ret_is (by kernel_rfl) rfl (by kernel_rfl) (by kernel_rfl) rfl (by refine ⟨?_,?_,?_,?_,?_,?_,trivial⟩<;>kernel_rfl)⟩)
 refine q.post (.refl _) ⟨.refl _,.refl _,.refl _,.rowsW fun i j hi hj=>.of ?_,trivial⟩
 show CV.i .u8 (bif Nat.blt i (k+mR n) then (bif Nat.blt i k then g i else chN (n / 128 ^ (i-k))) else wrapA IntKind.u8 (ofNat (lst n)))=CV.i .u8 (bif Nat.blt i k then g i else (bif Nat.blt (i-k) (mR n) then chN (n / 128 ^ (i-k)) else ofNat (lst n)))
 rw [u8_lo (show lst n<256 by unfold lst;omega)]
 by_cases h1:i<k
 · rw [show Nat.blt i k=true by rw [Nat.blt_eq];exact h1,show Nat.blt i (k+mR n)=true by rw [Nat.blt_eq];omega];rfl
 · rw [show Nat.blt i k=false by rw [Bool.eq_false_iff,ne_eq,Nat.blt_eq];exact h1]
   by_cases h2:i<k+mR n
   · rw [show Nat.blt i (k+mR n)=true by rw [Nat.blt_eq];exact h2,show Nat.blt (i-k) (mR n)=true by rw [Nat.blt_eq];omega];rfl
   · rw [show Nat.blt i (k+mR n)=false by rw [Bool.eq_false_iff,ne_eq,Nat.blt_eq];exact h2,show Nat.blt (i-k) (mR n)=false by rw [Bool.eq_false_iff,ne_eq,Nat.blt_eq];omega];rfl
theorem cloneSI_vc (m:Nat) (g:Nat->Int) (K:Res->Orc->Prop):runK PG 1000000 (.call 65 [.sv 1 (m+1) (Cl.iF g)] (mkH [])) (.c (.s .z .z)) K=(True/\((1=1/\0+(m+1)<=m+1)/\True/\True/\0+(m+1)<=140737488355328/\(3*(0+(m+1))+1536)*1<=562949953421312)/\K (.rv (.sv 1 (m+1) fun k x=>CV.i .u8 (g k)) ⟨zz0 (zz0 .e .e) .e,2,[1,1,0,0]⟩) .z):=by kernel_rfl
theorem wby_vc (k:Nat) (g:Nat->Int) (K:Res->Orc->Prop):runK PG 1000000 (.call 55 [.p 0 0] (mkH [some (wO k),some (shO 2 k),some (.rows 5 1 k (Cl.iF g))])) (oc 7 (.cal [2] (.sv 1 k (iF g)) [.gone] .z)) K=(True/\True/\True/\True/\True/\True/\(True/\0<=ofNat k/\0<=k/\k<=k/\(0=0\/0<k))/\Con PG 65 [.lr 0 1 0 k false] [some (.rows 5 1 k (iF g))] (.sv 1 k (iF g)) [.gone]/\K (.rv (.sv 1 k (iF g)) ⟨zz1 (AObj.cells 117 2 [.p0,.i .i64 0] (zz1 (.p 1 0) (zzn k) .e)) (zzl (AObj.cells 142 1 [] (zzl (.lr 2 1 0 k false)))) (zz0 .e .e),3,[2]⟩) .z):=by kernel_rfl
theorem cloneI_con (L:Nat) (g:Nat->Int) (hL:L<=1073741824):Con PG 65 [.sv 1 L (Cl.iF g)] [] (.sv 1 L (Cl.iF g)) []:=by
 cases L with
 | succ m=>exact con_of_run [] [] ((cloneSI_vc m g _).mpr ⟨trivial,⟨⟨rfl,by omega⟩,trivial,trivial,by omega,by omega⟩,_,_,rfl,ret_k (by kernel_rfl)⟩)
 | zero=>
   have k:=cloneB_con 0 (fun _=>0) (by decide)
   exact (k.pre (pargs':=[.sv 1 0 (Cl.iF g)]) ⟨.sv fun i j hi=>absurd hi (Nat.not_lt_zero i),trivial⟩).post (.sv fun i j hi=>absurd hi (Nat.not_lt_zero i)) trivial
theorem cloneLI_con (L:Nat) (g:Nat->Int) (hL:L<=1073741824):Con PG 65 [.lr 0 1 0 L false] [some (.rows 5 1 L (Cl.iF g))] (.sv 1 L (Cl.iF g)) [.gone]:=
 ((cloneI_con L g hL).slot rfl (by kernel_rfl) (by kernel_rfl)).thaw (us0:=[.gone]) 0 (e:=5) (sz:=1) (n:=L) (f:=Cl.iF g) rfl ⟨rfl,trivial⟩ ⟨.inr ⟨by kernel_rfl,⟨rfl,by omega⟩,rfl⟩,trivial⟩ rfl
theorem wby_con (k:Nat) (g:Nat->Int) (hk:k<=1073741824):Con PG 55 [.p 0 0] [some (wO k),some (shO 2 k),some (.rows 5 1 k (Cl.iF g))] (.sv 1 k (Cl.iF g)) [.keep,.keep,.gone]:=by
 refine con_of_run [] [] ((wby_vc k g _).mpr ?_)
 have c:=cloneLI_con k g hk
 repeat' first | exact trivial | assumption | exact Nat.zero_le _ | exact Nat.le_refl _ | exact .inl rfl | (simp;done) | apply And.intro | exact ⟨_,_,rfl,ret_is (by kernel_rfl) rfl (by kernel_rfl) (by kernel_rfl) rfl (by refine ⟨?_,?_,?_,?_,trivial⟩<;>kernel_rfl)⟩
theorem wl_le {n:Nat} (hn:n<9223372036854775808):wl n<=11:=by
 have:=(mR_ok hn).1
 unfold wl;omega
theorem wB_nn {n:Nat} (i:Nat):∃m:Nat,wB n i=ofNat m:=by
 unfold wB
 cases Nat.blt i (mR n) with
 | true=>exact ⟨_,chN_eq _⟩
 | false=>exact ⟨_,rfl⟩
theorem wG_nn {g:Nat->Int} {k n:Nat} (h:∀i,∃m:Nat,g i=ofNat m) (i:Nat):∃m:Nat,wG g k n i=ofNat m:=by
 unfold wG
 cases Nat.blt i k with
 | true=>exact h i
 | false=>exact wB_nn _
end Go.Proofs.Cl
namespace Go.Proofs.Cl
open Go Go.Sim Go.Proofs Go.Proofs.Cd Go.Proofs.YthhjjpofenjknaaDoor
theorem txR_lq (k:Nat) (g:Nat->Int) (t:List Nat) (i:Nat) (h:decide (ofNat i<ofNat t.length)=true):LD PG (loopAt PG 74 0) 16 2 [(0,.s t),(1,.fn (.func 73) [.p 0 0] []),(6,.i .i64 (ofNat t.length)),(7,.i .i64 (ofNat i))] [some (wO k),some (shO 2 k),some (.rows 5 1 k (Cl.iF g))] (.t (.cal [0,1,2] (.tup []) [.set (wO (k+1)),.set (shO 3 (k+1)),.gone,.set (AObj.rows 5 1 (k+1) (iF (lyB g k (ofNat (List.getD t i 0)))))] .z)) .nrm [0,1,3] [(0,.s t),(1,.fn (.func 73) [.p 0 0] []),(6,.i .i64 (ofNat t.length)),(7,.i .i64 (ofNat i+1))] [some (wO (k+1)),some (shO 2 (k+1)),some (.rows 5 1 (k+1) (Cl.iF (lyB g k (ofNat (List.getD t i 0)))))] 4 (fun Lf=>decide (ofNat i<ofNat (List.length t))=true/\(0<=ofNat i/\ofNat i<↑(List.length t))/\Con PG 73 [.p 0 0,.i .u8 (ofNat (List.getD t i 0))] [some (wO k),some (shO 2 k),some (AObj.rows 5 1 k (iF g))] (.tup []) [.set (wO (k+1)),.set (shO 3 (k+1)),.gone,.set (AObj.rows 5 1 (k+1) (iF (lyB g k (ofNat (List.getD t i 0)))))]/\rg (ofNat i+1)/\Lf):=by unfold LD LQ;kernel_rfl
theorem txE_lq (k:Nat) (g:Nat->Int) (t:List Nat) (i:Nat) (h:decide (ofNat i<ofNat t.length)=false):LD PG (loopAt PG 74 0) 16 2 [(0,.s t),(1,.fn (.func 73) [.p 0 0] []),(6,.i .i64 (ofNat t.length)),(7,.i .i64 (ofNat i))] [some (wO k),some (shO 2 k),some (.rows 5 1 k (Cl.iF g))] (.f .z) (.exit 0) [0,1,2] [] [some (wO k),some (shO 2 k),some (.rows 5 1 k (Cl.iF g))] 3 (fun Lf=>decide (ofNat i<ofNat (List.length t))=false/\Lf):=by unfold LD LQ;kernel_rfl
theorem tx_vq (k:Nat) (g:Nat->Int) (t:List Nat) (KK:Nat) (G H:Nat->Int):VD PG 54 [.p 0 0,.s t] [some (wO k),some (shO 2 k),some (.rows 5 1 k (Cl.iF g))] (.c (.cal [0,1,2] (.tup []) [.set (wO KK),.set (shO 3 KK),.gone,.set (AObj.rows 5 1 KK (iF G))] (.inl (.lop [0,1,3] [0,1,6,7] 2 (.exit 0) [] [some (wO (KK+List.length t)),some (shO 2 (KK+List.length t)),some (AObj.rows 5 1 (KK+List.length t) (iF H))] .z)))) (.tup []) [.set (wO (KK+t.length)),.set (shO 3 (KK+t.length)),.gone,.set (.rows 5 1 (KK+t.length) (Cl.iF H))] [4] 5 (fun Lf=>True/\Con PG 53 [.p 0 0,.i .i64 (ofNat (List.length t))] [some (wO k),some (shO 2 k),some (AObj.rows 5 1 k (iF g))] (.tup []) [.set (wO KK),.set (shO 3 KK),.gone,.set (AObj.rows 5 1 KK (iF G))]/\LDoes PG (loopAt PG 74 0) 16 2 (mkT [(0,.s t),(1,AV.fn (Fn.func 73) [.p 0 0] []),(6,.i .i64 (ofNat (List.length t))),(7,.i .i64 0)]) [some (wO KK),some (shO 2 KK),some (AObj.rows 5 1 KK (iF G))] (.exit 0) (mkT []) [some (wO (KK+List.length t)),some (shO 2 (KK+List.length t)),some (AObj.rows 5 1 (KK+List.length t) (iF H))]/\Lf):=by unfold VD VQ;kernel_rfl
def txG (g:Nat->Int) (K:Nat) (t:List Nat):Nat->Int:=fun j=>bif Nat.blt j K then g j else ofNat (t.getD (j-K) 0)
theorem txG_lo {g:Nat->Int} {K:Nat} {t:List Nat} {j:Nat} (h:j<K):txG g K t j=g j:=by
 unfold txG;rw [show Nat.blt j K=true by rw [Nat.blt_eq];exact h];rfl
theorem txG_hi {g:Nat->Int} {K:Nat} {t:List Nat} (j:Nat):txG g K t (K+j)=ofNat (t.getD j 0):=by
 unfold txG;rw [show Nat.blt (K+j) K=false by rw [Bool.eq_false_iff,ne_eq,Nat.blt_eq];omega,cond_false,Nat.add_sub_cancel_left]
theorem tx_lp (K:Nat) (g:Nat->Int) (t:List Nat) (hk:K+t.length<=1073741000):LDoes PG (loopAt PG 74 0) 16 2 (mkT [(0,.s t),(1,.fn (.func 73) [.p 0 0] []),(6,.i .i64 (ofNat t.length)),(7,.i .i64 0)]) [some (wO K),some (shO 2 K),some (.rows 5 1 K (Cl.iF g))] (.exit 0) (mkT []) [some (wO (K+t.length)),some (shO 2 (K+t.length)),some (.rows 5 1 (K+t.length) (Cl.iF (txG g K t)))]:=by
 refine LDoes.ovl (objs:=[some (wO K),some (shO 2 K),some (.rows 5 1 K (Cl.iF (txG g K t)))]) ?_ ⟨.refl _,.refl _,.rowsW fun i j hi hj=>.of (by show CV.i .u8 _=CV.i .u8 _;rw [txG_lo hi]),trivial⟩
 refine loop_q (fun i:Nat=>([(0,.s t),(1,.fn (.func 73) [.p 0 0] []),(6,.i .i64 (ofNat t.length)),(7,.i .i64 (ofNat i))],[some (wO (K+i)),some (shO 2 (K+i)),some (.rows 5 1 (K+i) (Cl.iF (txG g K t)))])) (fun i=>t.length-i) (fun i=>i<=t.length) (fun _=>by show 2<=3;decide) ?_ 0 (Nat.zero_le _)
 intro i hi
 rcases Nat.lt_or_ge i t.length with hlt | q
 · have h1:decide (ofNat i<ofNat t.length)=true:=decide_eq_true (by simp;omega)
   have bi:(0:Int)<=ofNat i/\ofNat i<(↑t.length:Int):=⟨by simp,by simp;omega⟩
   have ri:rg (ofNat i+1):=⟨by simp<;>omega,by simp<;>omega⟩
   have ly:=layR_con (ofNat (List.getD t i 0)) (K+i) (txG g K t) (by omega)
   refine rd_nrm (txR_lq (K+i) (txG g K t) t i h1) ⟨h1,bi,ly,ri,rfl⟩ (i+1) hlt (by show t.length-(i+1)<t.length-i;omega) rfl (.refl _) ⟨.refl _,.refl _,.rowsW fun j z hj hz=>.of ?_,trivial⟩
   show CV.i .u8 (lyB (txG g K t) (K+i) (ofNat (List.getD t i 0)) j)=CV.i .u8 (txG g K t j)
   unfold lyB
   cases e:Nat.blt j (K+i) with
   | true=>rfl
   | false=>
     have:¬j<K+i:=by rw [<-Nat.blt_eq,e];decide
     obtain rfl:j=K+i:=by omega
     rw [cond_false,txG_hi]
 · obtain rfl:i=t.length:=Nat.le_antisymm hi q
   exact rd_out (txE_lq (K+t.length) (txG g K t) t t.length (decide_eq_false (by simp))) ⟨decide_eq_false (by simp),rfl⟩ rfl rfl (.refl _) (.refl _)
def wtG (g:Nat->Int) (k:Nat) (t:List Nat):Nat->Int:=txG (wG g k t.length) (k+wl t.length) t
theorem wtext_con (k:Nat) (g:Nat->Int) (t:List Nat) (ht:t.length<=1000000) (hk:k<=1000000):Con PG 54 [.p 0 0,.s t] [some (wO k),some (shO 2 k),some (.rows 5 1 k (Cl.iF g))] (.tup [])
 [.set (wO (k+wl t.length+t.length)),.set (shO 3 (k+wl t.length+t.length)),.gone,.set (.rows 5 1 (k+wl t.length+t.length) (Cl.iF (wtG g k t)))]:=by
 have w:=wl_le (n:=t.length) (by omega)
 exact con_d (tx_vq k g t (k+wl t.length) (wG g k t.length) (wtG g k t)) ⟨trivial,wnumR_con t.length k g (by omega) (by omega),tx_lp _ _ _ (by omega),rfl⟩
end Go.Proofs.Cl
