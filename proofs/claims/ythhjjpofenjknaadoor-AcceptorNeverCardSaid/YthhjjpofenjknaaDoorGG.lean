/- Runs over unknown values, told by the kernel: part GG. -/
import Derived.Test.YthhjjpofenjknaaDoorGF
noncomputable section
open Int (ofNat)
set_option linter.unusedSimpArgs false
set_option linter.unusedVariables false
set_option maxRecDepth 20000
namespace Go.Proofs.Cl
open Go Go.Sim Go.Proofs Go.Proofs.Cd Go.Proofs.St Go.Proofs.YthhjjpofenjknaaDoor
open Go.Proofs.Jn hiding rg
structure KI (t0:List Nat) (k:AK):Prop where
 p:k.p<=1099511627776
 d:k.d<=1099511627776
 pb:k.pb<=k.p
 v0:k.pb=0->k.pv=[]
 v1:0<k.pb->1<=k.pv.length/\k.pv.length<=100
 vb:∀y∈k.pv,y<256
 s0:k.d=0->k.st=t0
 sl:k.st.length<=1100
 sb:∀y∈k.st,y<256
theorem KI.zero (t0:List Nat) (h:t0.length<=1100) (b:∀y∈t0,y<256):KI t0 (k0 t0):=⟨by show 0<=_;omega,by show 0<=_;omega,Nat.le_refl _,fun _=>rfl,fun q=>absurd q (Nat.lt_irrefl _),(fun y hy=>absurd hy (by simp)),fun _=>rfl,h,b⟩
theorem take_1 (k:AK) (r:Rc) (h:r.k=1):k.take r={ k with p:=r.x}:=by unfold AK.take;rw [h];rfl
theorem take_2 (k:AK) (r:Rc) (h:r.k=2):k.take r={ k with p:=r.x,pb:=r.x,pv:=r.t}:=by unfold AK.take;rw [h];rfl
theorem take_3 (k:AK) (r:Rc) (h:r.k=3):k.take r={ k with d:=r.x,st:=r.t,pb:=0,pv:=[]}:=by unfold AK.take;rw [h];rfl
theorem KI.take {t0:List Nat} {k:AK} (h:KI t0 k) {r:Rc} (t:Tk k r):KI t0 (k.take r):=by
 have hx:=t.ok.x
 rcases t.ok.k with ⟨e,_⟩ | e | e
 · rw [take_1 k r e]
   have:=t.p (by omega)
   have:=h.pb
   exact ⟨hx.2,h.d,by show k.pb<=r.x;omega,h.v0,h.v1,h.vb,h.s0,h.sl,h.sb⟩
 · rw [take_2 k r e]
   exact ⟨hx.2,h.d,Nat.le_refl _,(fun q=>by have q:r.x=0:=q;omega),fun _=>t.v e,t.ok.t,h.s0,h.sl,h.sb⟩
 · rw [take_3 k r e]
   exact ⟨h.p,hx.2,Nat.zero_le _,fun _=>rfl,(fun q=>absurd q (Nat.lt_irrefl _)),(fun y hy=>absurd hy (by simp)),(fun q=>by have q:r.x=0:=q;omega),t.ok.l,t.ok.t⟩
theorem KI.run {t0:List Nat} (h:t0.length<=1100) (b:∀y∈t0,y<256) (R:Nat->Rc):∀n,(∀i,i<n->Tk ((k0 t0).run R i) (R i))->KI t0 ((k0 t0).run R n)
 | 0,_=>KI.zero t0 h b
 | n+1,t=>(KI.run h b R n fun i hi=>t i (by omega)).take (t n (by omega))
structure Few (t0:List Nat) (k:AK):Prop where
 n:(rl k).length<=3
 tk:∀i,i<(rl k).length->Tk ((k0 t0).run (rlR k) i) (rlR k i)
 ke:(k0 t0).run (rlR k) (rl k).length=k
 fit:sumP (fun i=>(rlR k i).L) (rl k).length 0<=28
theorem npL1 {x:Nat} (h:x<=1099511627776) (t:List Nat):npF (Rc.mk 1 x t).L<=1:=by
 have e:(Rc.mk 1 x t).L=wl 1+wl x:=rfl
 have w1:wl 1=1:=wl_1 (by omega)
 have w2:=wl6 (n:=x) (by omega)
 rw [e];unfold npF;split<;>omega
theorem npL2 {x:Nat} (h:x<=1099511627776) {t:List Nat} (ht:t.length<=100):npF (Rc.mk 2 x t).L<=3:=by
 have e:(Rc.mk 2 x t).L=wl 2+wl x+wl t.length+t.length:=rfl
 have w1:wl 2=1:=wl_1 (by omega)
 have w2:=wl6 (n:=x) (by omega)
 have w3:wl t.length=1:=wl_1 (by omega)
 rw [e];unfold npF;split<;>omega
theorem ok1 {x:Nat} (a:1<=x) (b:x<=1099511627776):(Rc.mk 1 x []).ok:=⟨.inl ⟨rfl,rfl⟩,⟨a,b⟩,(fun y hy=>absurd hy (by simp)),by show 0<=_;omega⟩
theorem few (t0:List Nat) (k:AK) (h:KI t0 k):Few t0 k:=by
 obtain ⟨p,d,st,pb,pv⟩:=k
 obtain ⟨hp,hd,hpb,v0,v1,vb,s0,sl,sb⟩:=h
 simp only at hp hd hpb v0 v1 vb s0 sl sb
 have T1:∀kk:AK,kk.p<=p->1<=p->Tk kk ⟨1,p,[]⟩:=fun kk a b=>⟨ok1 b hp,fun _=>a,(fun q=>by cases q),(fun q=>by cases q)⟩
 have T2:∀kk:AK,kk.p<=pb->1<=pb->Tk kk ⟨2,pb,pv⟩:=fun kk a b=>⟨⟨.inr (.inl rfl),⟨b,by show pb<=_;omega⟩,vb,by have:=v1 b;show pv.length<=_;omega⟩,fun _=>a,fun _=>v1 b,(fun q=>by cases q)⟩
 have T3:∀kk:AK,kk.d<d->Tk kk ⟨3,d,st⟩:=fun kk a=>⟨⟨.inr (.inr rfl),⟨by show 1<=d;omega,hd⟩,sb,sl⟩,(fun q=>by have q:3<=2:=q;omega),(fun q=>by cases q),fun _=>a⟩
 have n1:npF (Rc.mk 1 p []).L<=1:=npL1 hp _
 have n3:∀t,t=st->npF (Rc.mk 3 d t).L<=24:=fun t e=>by
  subst e
  by_cases c:1<=d
  · exact npF_24 (Rc.L_le (T3 (k0 []) c).ok)
  · obtain rfl:d=0:=by omega
    have e:(Rc.mk 3 0 t).L=wl 3+wl 0+wl t.length+t.length:=rfl
    have w1:wl 3=1:=wl_1 (by omega)
    have w2:wl 0=1:=wl_1 (by omega)
    have w3:=wl2 (n:=t.length) (by omega)
    exact npF_24 (by rw [e];omega)
 have n3:=n3 st rfl
 rcases Nat.eq_zero_or_pos d with d0 | d1
 · have c1:decide (0<ofNat d)=false:=decide_eq_false (by simp;omega)
   have es:=s0 d0
   subst es d0
   rcases Nat.eq_zero_or_pos pb with b0 | b1
   · have ev:=v0 b0
     subst b0 ev
     rcases Nat.eq_zero_or_pos p with p0 | p1
     · subst p0
       have e:rl ⟨0,0,st,0,[]⟩=[]:=rfl
       exact ⟨by rw [e];exact Nat.zero_le _,fun i hi=>absurd hi (by rw [e];exact Nat.not_lt_zero _),by rw [e];rfl,by rw [e];exact Nat.zero_le _⟩
     · have c3:decide (0<ofNat p)=true:=decide_eq_true (by simp;omega)
       have e:rl ⟨p,0,st,0,[]⟩=[⟨1,p,[]⟩]:=by unfold rl;rw [c3];rfl
       have eR:rlR ⟨p,0,st,0,[]⟩=fun i=>[Rc.mk 1 p []].getD i ⟨1,1,[]⟩:=by unfold rlR;rw [e]
       refine ⟨by rw [e];show 1<=3;omega,?_,by rw [e,eR];rfl,by rw [e,eR];exact Nat.le_trans (show npF (Rc.mk 1 p []).L+0<=1 by omega) (by omega)⟩
       rw [e,eR]
       intro i hi
       obtain rfl:i=0:=by have hi:i<1:=hi;omega
       exact T1 (k0 st) (Nat.zero_le _) p1
   · have p1:0<p:=by omega
     have c2:decide (0<ofNat pb)=true:=decide_eq_true (by simp;omega)
     have c3:decide (0<ofNat p)=true:=decide_eq_true (by simp;omega)
     have n2:npF (Rc.mk 2 pb pv).L<=3:=npL2 (by omega) (v1 b1).2
     have e:rl ⟨p,0,st,pb,pv⟩=[⟨2,pb,pv⟩,⟨1,p,[]⟩]:=by unfold rl;rw [c2,c3];rfl
     have eR:rlR ⟨p,0,st,pb,pv⟩=fun i=>[Rc.mk 2 pb pv,Rc.mk 1 p []].getD i ⟨1,1,[]⟩:=by unfold rlR;rw [e]
     refine ⟨by rw [e];show 2<=3;omega,?_,by rw [e,eR];rfl,by rw [e,eR];exact Nat.le_trans (show npF (Rc.mk 2 pb pv).L+(npF (Rc.mk 1 p []).L+0)<=4 by omega) (by omega)⟩
     rw [e,eR]
     intro i hi
     have hi:i<2:=hi
     rcases (by omega:i=0\/i=1) with rfl | rfl
     · exact T2 (k0 st) (Nat.zero_le _) b1
     · exact T1 ⟨pb,0,st,pb,pv⟩ hpb p1
 · have c1:decide (0<ofNat d)=true:=decide_eq_true (by simp;omega)
   rcases Nat.eq_zero_or_pos pb with b0 | b1
   · have ev:=v0 b0
     subst b0 ev
     rcases Nat.eq_zero_or_pos p with p0 | p1
     · subst p0
       have e:rl ⟨0,d,st,0,[]⟩=[⟨3,d,st⟩]:=by unfold rl;rw [c1];rfl
       have eR:rlR ⟨0,d,st,0,[]⟩=fun i=>[Rc.mk 3 d st].getD i ⟨1,1,[]⟩:=by unfold rlR;rw [e]
       refine ⟨by rw [e];show 1<=3;omega,?_,by rw [e,eR];rfl,by rw [e,eR];exact Nat.le_trans (show npF (Rc.mk 3 d st).L+0<=24 by omega) (by omega)⟩
       rw [e,eR]
       intro i hi
       obtain rfl:i=0:=by have hi:i<1:=hi;omega
       exact T3 (k0 t0) d1
     · have c3:decide (0<ofNat p)=true:=decide_eq_true (by simp;omega)
       have e:rl ⟨p,d,st,0,[]⟩=[⟨3,d,st⟩,⟨1,p,[]⟩]:=by unfold rl;rw [c1,c3];rfl
       have eR:rlR ⟨p,d,st,0,[]⟩=fun i=>[Rc.mk 3 d st,Rc.mk 1 p []].getD i ⟨1,1,[]⟩:=by unfold rlR;rw [e]
       refine ⟨by rw [e];show 2<=3;omega,?_,by rw [e,eR];rfl,by rw [e,eR];exact Nat.le_trans (show npF (Rc.mk 3 d st).L+(npF (Rc.mk 1 p []).L+0)<=25 by omega) (by omega)⟩
       rw [e,eR]
       intro i hi
       have hi:i<2:=hi
       rcases (by omega:i=0\/i=1) with rfl | rfl
       · exact T3 (k0 t0) d1
       · exact T1 ⟨0,d,st,0,[]⟩ (Nat.zero_le _) p1
   · have p1:0<p:=by omega
     have c2:decide (0<ofNat pb)=true:=decide_eq_true (by simp;omega)
     have c3:decide (0<ofNat p)=true:=decide_eq_true (by simp;omega)
     have n2:npF (Rc.mk 2 pb pv).L<=3:=npL2 (by omega) (v1 b1).2
     have e:rl ⟨p,d,st,pb,pv⟩=[⟨3,d,st⟩,⟨2,pb,pv⟩,⟨1,p,[]⟩]:=by unfold rl;rw [c1,c2,c3];rfl
     have eR:rlR ⟨p,d,st,pb,pv⟩=fun i=>[Rc.mk 3 d st,Rc.mk 2 pb pv,Rc.mk 1 p []].getD i ⟨1,1,[]⟩:=by unfold rlR;rw [e]
     refine ⟨by rw [e];show 3<=3;omega,?_,by rw [e,eR];rfl,by rw [e,eR];exact Nat.le_trans (show npF (Rc.mk 3 d st).L+(npF (Rc.mk 2 pb pv).L+(npF (Rc.mk 1 p []).L+0))<=28 by omega) (by omega)⟩
     rw [e,eR]
     intro i hi
     have hi:i<3:=hi
     rcases (by omega:i=0\/i=1\/i=2) with rfl | rfl | rfl
     · exact T3 (k0 t0) d1
     · exact T2 ⟨0,d,st,0,[]⟩ (Nat.zero_le _) b1
     · exact T1 ⟨pb,d,st,pb,pv⟩ hpb p1
end Go.Proofs.Cl
namespace Go.Proofs.Jn
open Go Go.Sim Go.Proofs Go.Proofs.Cd Go.Proofs.St Go.Proofs.YthhjjpofenjknaaDoor
theorem JI.mono {s:SS} {j:JS} {mm n:Nat} {m:Nat->Nat} {b:Nat->Nat->Nat} (h:JI s j mm n m b) {mm':Nat} (hm:mm<=mm'):JI s j mm' n m b:={ h with okm:=h.okm.mono hm}
end Go.Proofs.Jn
namespace Go.Proofs.Cl
open Go Go.Sim Go.Proofs Go.Proofs.Cd Go.Proofs.St Go.Proofs.YthhjjpofenjknaaDoor
open Go.Proofs.Jn hiding rg
theorem rlR_ok {t0:List Nat} {k:AK} (f:Few t0 k) (i:Nat):(rlR k i).ok:=by
 rcases Nat.lt_or_ge i (rl k).length with q | q
 · exact (f.tk i q).ok
 · have e:rlR k i=⟨1,1,[]⟩:=by unfold rlR;rw [List.getD_eq_getElem?_getD,List.getElem?_eq_none q];rfl
   rw [e];exact ok1 (by omega) (by omega)
theorem AI.ki {t0:List Nat} {s:SS} {j:JS} {k:AK} {mm n:Nat} {R:Nat->Rc} (a:AI t0 s j k mm n R) (b:∀y∈t0,y<256):KI t0 k:=by
 have:=KI.run a.t0 b R n a.tk
 rw [a.ke] at this
 exact this
theorem AI.some1 {t0:List Nat} {s:SS} {j:JS} {k:AK} {mm n:Nat} {R:Nat->Rc} (a:AI t0 s j k mm n R) (b:∀y∈t0,y<256) (h:0<n):Some1 k:=by
 refine ⟨?_,(a.ki b).pb⟩
 obtain ⟨m,rfl⟩:∃m,n=m+1:=⟨n-1,by omega⟩
 have t:=a.tk m (by omega)
 have e:((k0 t0).run R m).take (R m)=k:=a.ke
 have hx:=t.ok.x
 rcases t.ok.k with ⟨q,_⟩ | q | q
 · rw [take_1 _ _ q] at e;rw [<-e];exact .inl (by show 0<(R m).x;omega)
 · rw [take_2 _ _ q] at e;rw [<-e];exact .inl (by show 0<(R m).x;omega)
 · rw [take_3 _ _ q] at e;rw [<-e];exact .inr (by show 0<(R m).x;omega)
def Nx (t0:List Nat) (k k':AK) (S:SS) (M:Nat):Prop:=∀(kk:Int) (tt:Bool),∃j3 k3 mm2 n2 R2,(k3=k\/k3=k')/\mm2<=M/\AI t0 (S.revived kk tt) j3 k3 mm2 n2 R2
theorem Nx.mono {t0:List Nat} {k k':AK} {S:SS} {M N:Nat} (h:Nx t0 k k' S M) (q:M<=N):Nx t0 k k' S N:=fun kk tt=>by
 obtain ⟨j3,k3,mm2,n2,R2,a,b,c⟩:=h kk tt
 exact ⟨j3,k3,mm2,n2,R2,a,by omega,c⟩
theorem AI.again {t0:List Nat} {s:SS} {j:JS} {k:AK} {mm n:Nat} {R:Nat->Rc} (a:AI t0 s j k mm n R) {m:Nat->Nat} {b:Nat->Nat->Nat} (hm:∀i,i<n->m i=(R i).L) (hb:∀i,i<n->IsRc (R i) (b i)) {s2:SS} {j2:JS} {mm2:Nat} (ji:JI s2 j2 mm2 n m b):AI t0 s2 j2 k mm2 n R:=
 ⟨⟨m,b,ji,hm,hb⟩,a.tk,a.ke,a.t0⟩
theorem AI.app {t0:List Nat} {s:SS} {j:JS} {k:AK} {mm n:Nat} {R:Nat->Rc} (a:AI t0 s j k mm n R) (r:Rc) (h:Tk k r) {m:Nat->Nat} {b:Nat->Nat->Nat} (ji:JI s j mm n m b) (hm1:∀i,i<n->m i=(R i).L) (hb1:∀i,i<n->IsRc (R i) (b i)) (hf:npF r.L<=60-sumP m n 0) (hm:mm<1000000000) :
 ∃E S J,Con PG 34 [.p 1 0,.sv 1 r.L (byF r.B)] [some s.o,some (aO j k)] (.i .i64 E) [.set S.o,.set (aO J k)]/\
  ((E=0/\∃R2,AI t0 S J (k.take r) (mm+24) (n+1) R2)\/(E=13/\S.off=true/\OkM S (mm+24)/\Nx t0 k (k.take r) S (mm+24))):=by
 have hL:=Rc.L_le h.ok
 have n24:=npF_24 hL
 have hrm:=ji.rm
 have hfit:=ji.fit
 have hn:=ji.hn
 have har:=ji.area
 have ap:=appenda_con k j (60-sumP m n 0) s r.L mm r.B ji.dead hrm (by omega) ji.area (by rw [ji.recs];have:=ji.few;omega) ji.okm (by omega) ji.hn (Rc.B_lt h.ok) hL hf
 have more:∀{S:SS} {M:Nat},JI S (j.more r.L) M (n+1) (mS n m r.L) (bS n b r.B)->AI t0 S (j.more r.L) (k.take r) M (n+1) (rS n R r):=fun ji2=>
  a.more r h ji2 (fun i hi=>⟨by rw [mS_lt hi];exact hm1 i hi,by rw [bS_lt hi];exact hb1 i hi⟩) ⟨mS_eq _ _ _,by rw [bS_eq];exact fun _ _=>rfl⟩
 by_cases e0:apE j (60-sumP m n 0) s r.L r.B=0
 · unfold apJ at ap
   rw [decide_eq_true e0,cond_true,cond_true] at ap
   have ji2:=ji.append hL (Rc.B_lt h.ok) hf e0
   exact ⟨0,_,j.more r.L,ap,.inl ⟨rfl,_,more (ji2.mono (by omega))⟩⟩
 · rw [decide_eq_false e0,cond_false] at ap
   have hok:OkM (apS j (60-sumP m n 0) s r.L r.B) (mm+npF r.L):=by
    have q:=(cmtS_ok j.gen j.recs 1 mm (fun _=>r.L) (fun _=>r.B) s (apQ j (60-sumP m n 0)) ji.okm (by rw [sumP1,ji.apQ];omega)).1
    rw [sumP1] at q
    exact q
   refine ⟨13,_,_,ap,.inr ⟨rfl,(ji.appendF hL (Rc.B_lt h.ok) hf e0 0 false).1,hok.mono (by omega),fun kk tt=>?_⟩⟩
   rcases (ji.appendF hL (Rc.B_lt h.ok) hf e0 kk tt).2 with q | q
   · exact ⟨j,k,mm+24,n,R,.inl rfl,Nat.le_refl _,a.again hm1 hb1 (q.mono (by omega))⟩
   · exact ⟨j.more r.L,k.take r,mm+24,n+1,rS n R r,.inr rfl,Nat.le_refl _,more (q.mono (by omega))⟩
inductive Put (t0:List Nat) (s:SS) (j:JS) (k:AK) (M:Nat) (k1:AK) (s2:SS) (j2:JS) (k2:AK):Int->Prop
 | ok (ek:k2=k1) (mm n:Nat) (R:Nat->Rc) (hm:mm<=M) (a:AI t0 s2 j2 k2 mm n R):Put t0 s j k M k1 s2 j2 k2 0
 | worn (es:s2=s) (ej:j2=j) (ek:k2=k):Put t0 s j k M k1 s2 j2 k2 15
 | pow (off:s2.off=true) (okS:OkM s2 M) (nx:Nx t0 k k1 s2 M):Put t0 s j k M k1 s2 j2 k2 13
theorem AI.anew {t0:List Nat} {s:SS} {j:JS} {k:AK} {mm n:Nat} {R:Nat->Rc} (a:AI t0 s j k mm n R) (hb:∀y∈t0,y<256) (hn:0<n) (r:Rc) (h:Tk k r) (hm:mm<900000000) :
 ∃E s2 j2,Con PG 36 [.p 1 0,rcV r.k r.x r.t] [some s.o,some (aO j k)] (.i .i64 E) [.set s2.o,.set (aO j2 k)]/\
  ((E=0/\∃mm2 n2 R2,mm2<=mm+90/\AI t0 s2 j2 (k.take r) mm2 n2 R2)\/(E=15/\s2=s/\j2=j)\/(E=13/\s2.off=true/\OkM s2 (mm+90)/\Nx t0 k (k.take r) s2 (mm+90))):=by
 obtain ⟨m,b,ji,hm1,hb1⟩:=a.ji
 have f:=few t0 k (a.ki hb)
 have rc:=records_con s j k (a.some1 hb hn)
 have hok:=rlR_ok f
 have by_:=bytes_con r h.ok
 have hL:=Rc.L_le h.ok
 have n24:=npF_24 hL
 have hfit:=f.fit
 have h60:(rl k).length<=60:=by have:=f.n;omega
 have hsn:=ji.hn
 have har:=ji.area
 have lp:=wa_lp s j k r (rl k).length (rlR k) (fun i=>(rlR k i).L) (fun i=>(rlR k i).B) h60 fun i hi=>bytes_con _ (hok i)
 have fl:∀i,i<(rl k).length->(rlR k i).L<=1128:=fun i hi=>Rc.L_le (hok i)
 have fb:∀i t,(rlR k i).B t<256:=fun i t=>Rc.B_lt (hok i) t
 by_cases w:1073741824<=j.gen\/1073741824<nxV s j
 · have rw_:=rwaRow (S1:=s) (j1:=j) (by kernel_rfl) (by kernel_rfl) ((rewriteaWorn_con k s j (rl k).length (fun i=>(rlR k i).L) (fun i=>(rlR k i).B) ji.dead fl (by omega) ji.area ji.on ji.hn ji.okm.n ji.byt w).post (.refl _) (OVL.refl _))
   exact ⟨15,s,j,con_d (waA_vq s j k s j 15 (rl k).length (rlR k) _ _ r (by decide)) (by
    repeat' first | exact trivial | exact rc | exact lp | exact rw_ | exact rfl | (decide;done) | apply And.intro),.inr (.inl ⟨rfl,rfl,rfl⟩)⟩
 · have hg:j.gen<1073741824:=by omega
   have hv:nxV s j<=1073741824:=by omega
   have q:=rewritea_con k s j (rl k).length mm (fun i=>(rlR k i).L) (fun i=>(rlR k i).B) ji.dead fl (by omega) hg hv ji.area ji.on ji.hn ji.byt ji.okm (by omega) fb
   have kS:=cmtS_ok (nxV s j) 0 (rl k).length mm (fun i=>(rlR k i).L) (fun i=>(rlR k i).B) s (2+(1-j.area)*60) ji.okm (by omega)
   have kN:OkM (nmS (rwS s j (rl k).length (fun i=>(rlR k i).L) (fun i=>(rlR k i).B)) (nxV s j) (1-j.area)) (mm+sumP (fun i=>(rlR k i).L) (rl k).length 0+1):=by
    have e:=(cmtS_ok (nxV s j) 0 1 (mm+sumP (fun i=>(rlR k i).L) (rl k).length 0) (fun _=>1) (fun _ _=>(1-j.area) % 256) (rwS s j (rl k).length (fun i=>(rlR k i).L) (fun i=>(rlR k i).B)) (nxV s j % 2) kS.1 (by
     rw [sumP1];have:=kS.2;unfold rwS;rw [this];have:npF 1=1:=rfl;omega)).1
    rw [sumP1] at e
    exact e
   by_cases e0:rwE s j (rl k).length (fun i=>(rlR k i).L) (fun i=>(rlR k i).B)=0
   · by_cases e1:nmE (rwS s j (rl k).length (fun i=>(rlR k i).L) (fun i=>(rlR k i).B)) (nxV s j) (1-j.area)=0
     · rw [decide_eq_true e0,decide_eq_true e1,cond_true,cond_true,cond_true,cond_true,cond_true] at q
       have j2:=ji.rewrite fl (by omega) fb hv e0 e1
       have a2:AI t0 _ (rwJ s j (rl k).length fun i=>(rlR k i).L) k (mm+sumP (fun i=>(rlR k i).L) (rl k).length 0+1) (rl k).length (rlR k):=⟨⟨_,_,j2,fun _ _=>rfl,fun _ _ _ _=>rfl⟩,f.tk,f.ke,a.t0⟩
       obtain ⟨E,S,J,ap,out⟩:=a2.app r h j2 (fun _ _=>rfl) (fun _ _ _ _=>rfl) (by omega) (by omega)
       have rw_:=rwaRow (by kernel_rfl) (by kernel_rfl) q
       refine ⟨E,S,J,con_d (waB_vq s j k _ _ S J 0 E (rl k).length (rlR k) _ _ r r.L r.B (by decide)) (by
        repeat' first | exact trivial | exact rc | exact lp | exact rw_ | exact by_ | exact ap | exact rfl | (decide;done) | apply And.intro),?_⟩
       rcases out with ⟨e,R2,a3⟩ | ⟨e,off,ok,nx⟩
       · exact .inl ⟨e,_,_,R2,by omega,a3⟩
       · exact .inr (.inr ⟨e,off,ok.mono (by omega),nx.mono (by omega)⟩)
     · rw [decide_eq_true e0,decide_eq_false e1,cond_true,cond_false,cond_true,cond_true,cond_false] at q
       have rw_:=rwaRow (by kernel_rfl) (by kernel_rfl) q
       refine ⟨13,_,_,con_d (waA_vq s j k _ _ 13 (rl k).length (rlR k) _ _ r (by decide)) (by
        repeat' first | exact trivial | exact rc | exact lp | exact rw_ | exact rfl | (decide;done) | apply And.intro),.inr (.inr ⟨rfl,(ji.rewriteF2 fl (by omega) fb hv e0 e1 0 false).1,kN.mono (by omega),fun kk tt=>?_⟩)⟩
       rcases (ji.rewriteF2 fl (by omega) fb hv e0 e1 kk tt).2 with q | q
       · exact ⟨j,k,_,n,R,.inl rfl,by omega,a.again hm1 hb1 q⟩
       · exact ⟨_,k,_,_,rlR k,.inl rfl,by omega,⟨⟨_,_,q,fun _ _=>rfl,fun _ _ _ _=>rfl⟩,f.tk,f.ke,a.t0⟩⟩
   · rw [decide_eq_false e0,cond_false,cond_false,cond_false] at q
     have rw_:=rwaRow (by kernel_rfl) (by kernel_rfl) q
     refine ⟨13,_,_,con_d (waA_vq s j k _ _ 13 (rl k).length (rlR k) _ _ r (by decide)) (by
      repeat' first | exact trivial | exact rc | exact lp | exact rw_ | exact rfl | (decide;done) | apply And.intro),.inr (.inr ⟨rfl,(ji.rewriteF1 (by omega) fb e0 0 false).1,OkM.mono kS.1 (by omega),fun kk tt=>?_⟩)⟩
     exact ⟨j,k,_,n,R,.inl rfl,by omega,a.again hm1 hb1 (ji.rewriteF1 (by omega) fb e0 kk tt).2⟩
theorem AI.put {t0:List Nat} {s:SS} {j:JS} {k:AK} {mm n:Nat} {R:Nat->Rc} (a:AI t0 s j k mm n R) (hb:∀y∈t0,y<256) (r:Rc) (h:Tk k r) (hm:mm<900000000) :
 ∃E s2 j2 k2,Con PG 24 [.p 1 0,rcV r.k r.x r.t] [some s.o,some (aO j k)] (.i .i64 E) [.set s2.o,.set (aO j2 k2)]/\Put t0 s j k (mm+90) (k.take r) s2 j2 k2 E:=by
 obtain ⟨m,b,ji,hm1,hb1⟩:=a.ji
 have by_:=bytes_con r h.ok
 have hL:=Rc.L_le h.ok
 have n24:=npF_24 hL
 by_cases hf:npF r.L<=60-sumP m n 0
 · obtain ⟨E,S,J,ap,out⟩:=a.app r h ji hm1 hb1 hf (by omega)
   rcases out with ⟨rfl,R2,a3⟩ | ⟨rfl,off,ok,nx⟩
   · have tk:=take_con S J k r h
     exact ⟨0,S,J,k.take r,con_d (wrA_vq s j k S J (k.take r) 0 r.L r.B r.k r.x r.t (by decide) (by decide)) (by
      repeat' first | exact trivial | exact by_ | exact ap | exact tk | exact rfl | (decide;done) | apply And.intro),.ok rfl _ _ R2 (by omega) a3⟩
   · exact ⟨13,S,J,k,con_d (wrB_vq s j k S J 13 r.L r.B r.k r.x r.t (by decide) (by decide)) (by
      repeat' first | exact trivial | exact by_ | exact ap | exact rfl | (decide;done) | apply And.intro),.pow off (ok.mono (by omega)) (nx.mono (by omega))⟩
 · have hn:0<n:=by
    rcases Nat.eq_zero_or_pos n with e | e
    · subst e
      have:sumP m 0 0=0:=rfl
      omega
    · exact e
   have ap:=appendaSpace_con k j s r.L r.B ji.dead hL (by rw [ji.rm];simp;omega)
   obtain ⟨E,s2,j2,wa,out⟩:=a.anew hb hn r h hm
   rcases out with ⟨rfl,mm2,n2,R2,hm2,a3⟩ | ⟨rfl,rfl,rfl⟩ | ⟨rfl,off,ok,nx⟩
   · have tk:=take_con s2 j2 k r h
     exact ⟨0,s2,j2,k.take r,con_d (wrC_vq s j k s2 j2 (k.take r) 0 0 r r.L r.B (by decide)) (by
      repeat' first | exact trivial | exact by_ | exact ap | exact wa | exact tk | exact rfl | (decide;done) | apply And.intro),.ok rfl _ _ R2 hm2 a3⟩
   · exact ⟨15,_,_,k,con_d (wrD_vq _ _ k _ _ 15 0 r r.L r.B (by decide)) (by
      repeat' first | exact trivial | exact by_ | exact ap | exact wa | exact rfl | (decide;done) | apply And.intro),.worn rfl rfl rfl⟩
   · exact ⟨13,s2,j2,k,con_d (wrD_vq s j k s2 j2 13 0 r r.L r.B (by decide)) (by
      repeat' first | exact trivial | exact by_ | exact ap | exact wa | exact rfl | (decide;done) | apply And.intro),.pow off ok nx⟩
end Go.Proofs.Cl
namespace Go.Proofs.Cl
open Go Go.Sim Go.Proofs Go.Proofs.Cd Go.Proofs.St Go.Proofs.Jn
def opF (KK BB ZZ:Nat->Int) (XX:Nat->List Nat) (TT:Nat->Bool) (i j:Nat):CV:=
 Nat.rec (.i .i64 (KK i)) (fun j _=>Nat.rec (.i .i64 (BB i)) (fun j _=>Nat.rec (.i .i64 (ZZ i)) (fun j _=>Nat.rec (.s (XX i)) (fun _ _=>.b (TT i)) j) j) j) j
end Go.Proofs.Cl
