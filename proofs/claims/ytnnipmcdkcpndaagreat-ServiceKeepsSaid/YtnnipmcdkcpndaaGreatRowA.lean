/- Runs over unknown values, told by the kernel: part RowA. -/
import Derived.Test.YtnnipmcdkcpndaaGreatGJ
import Derived.Test.YtnnipmcdkcpndaaGreatRows
noncomputable section
open Int (ofNat)
set_option linter.unusedSimpArgs false
set_option linter.unusedVariables false
set_option maxRecDepth 20000
namespace Go.Proofs.Lk
open Go Go.Sim Go.Proofs Go.Proofs.YtnnipmcdkcpndaaGreat
theorem u3:Tryz.prog.underlying 3=some (.int .i64):=by kernel_rfl
theorem u34:Tryz.prog.underlying 34=some (.int .i64):=by kernel_rfl
def CLs (f:Nat->CV):Nat->List CV->Prop
 | _,[]=>True
 | k,a :: l=>CLe (f k) a/\CLs f (k+1) l
theorem CLs.app {f:Nat->CV}:∀{k:Nat} {a b:List CV},CLs f k a->CLs f (k+a.length) b->CLs f k (a ++ b)
 | _,[],_,_,h=>h
 | k,x :: a,b,⟨h1,h2⟩,h=>⟨h1,CLs.app h2 (by rw [show k+1+a.length=k+(x :: a).length by simp;omega];exact h)⟩
theorem CLs.get {f:Nat->CV}:∀{l:List CV} {k:Nat},CLs f k l->∀j,j<l.length->CLe (f (k+j)) (l.getD j .p0)
 | [],_,_,j,h=>absurd h (by simp)
 | a :: l,k,⟨h1,h2⟩,0,_=>h1
 | a :: l,k,⟨h1,h2⟩,j+1,h=>by
   have:=CLs.get h2 j (by simpa using h)
   rw [show k+1+j=k+(j+1) by omega] at this
   exact this
theorem CLs.rec {f:Nat->CV} {g:Nat->List CV} {sz k:Nat} (hg:∀l,(g l).length=sz):∀n,(∀l,l<n->CLs f (k+l*sz) (g l))->CLs f k (Nat.rec [] (fun l ih=>ih ++ g l) n:List CV)/\(Nat.rec [] (fun l ih=>ih ++ g l) n:List CV).length=n*sz
 | 0,_=>⟨trivial,(Nat.zero_mul sz).symm⟩
 | n+1,h=>by
   obtain ⟨a,b⟩:=CLs.rec hg n fun l hl=>h l (by omega)
   refine ⟨a.app ?_,?_⟩
   · rw [b];exact h n (by omega)
   · show (_ ++ g n).length= _
     rw [List.length_append,b,hg,Nat.succ_mul]
theorem shpInts {d:Nat} {f:Nat->CV} (h:Shp Tryz.prog (d+2) 22 f):∃(n:Nat) (g:Nat->Int),CLe (f 0) (isC n g)/\n*8<=reachBytes:=by
 have us:Tryz.prog.underlying 22=some (.slice 3):=by kernel_rfl
 have b:Tryz.prog.bytesOf 3=8:=by kernel_rfl
 have c:Tryz.prog.cellsOf 3=1:=by kernel_rfl
 obtain ⟨n,g,hg,_,hb,hi⟩:=Shp.slice (d+1) rfl h us
 rw [c] at hg
 rw [b] at hb
 obtain ⟨W,hW⟩:=Classical.axiomOfChoice (r:=fun (i:Nat) (q:Int)=>i<n->g i 0=.i .i64 q) (fun i=>by
  by_cases q:i<n
  · obtain ⟨x,hx,_⟩:=Shp.int d rfl (hi i q) u3
    exact ⟨x,fun _=>hx⟩
  · exact ⟨0,fun h=>absurd h q⟩)
 refine ⟨n,W,?_,hb⟩
 rw [hg]
 refine CLe.sv fun i j a b=>?_
 obtain rfl:j=0:=by omega
 exact .of (hW i a)
theorem shpThree {d:Nat} {f:Nat->CV} {t e e1 e2:TypeId} (us:Tryz.prog.underlying t=some (.slice e)) (b:Tryz.prog.bytesOf e=24) (c:Tryz.prog.cellsOf e=3) (f0:fld Tryz.prog e 0=some (3,0)) (f1:fld Tryz.prog e 1=some (e1,1)) (f2:fld Tryz.prog e 2=some (e2,2))
 (u1:Tryz.prog.underlying e1=some (.int .i64)) (u2:Tryz.prog.underlying e2=some (.int .i64)) (h:Shp Tryz.prog (d+3) t f):∃(n:Nat) (A M W:Nat->Int),CLe (f 0) (svC n A M W)/\n*24<=reachBytes:=by
 obtain ⟨n,g,hg,_,hb,hi⟩:=Shp.slice (d+2) rfl h us
 rw [c] at hg
 rw [b] at hb
 obtain ⟨W,hW⟩:=Classical.axiomOfChoice (r:=fun (i:Nat) (q:Int×Int×Int)=>i<n->g i 0=.i .i64 q.1/\g i 1=.i .i64 q.2.1/\g i 2=.i .i64 q.2.2) (fun i=>by
  by_cases q:i<n
  · obtain ⟨x,hx,_⟩:=Shp.int d rfl (Shp.field (d+1) rfl (hi i q) f0) u3
    obtain ⟨y,hy,_⟩:=Shp.int d rfl (Shp.field (d+1) rfl (hi i q) f1) u1
    obtain ⟨z,hz,_⟩:=Shp.int d rfl (Shp.field (d+1) rfl (hi i q) f2) u2
    exact ⟨(x,y,z),fun _=>⟨by simpa using hx,by simpa using hy,by simpa using hz⟩⟩
  · exact ⟨(0,0,0),fun h=>absurd h q⟩)
 refine ⟨n,fun i=>(W i).1,fun i=>(W i).2.1,fun i=>(W i).2.2,?_,hb⟩
 rw [hg]
 refine CLe.sv fun i j a b=>?_
 match j,b with
 | 0,_=>exact .of (hW i a).1
 | 1,_=>exact .of (hW i a).2.1
 | 2,_=>exact .of (hW i a).2.2
theorem shpHolds {d:Nat} {f:Nat->CV} (h:Shp Tryz.prog (d+3) 27 f):∃(n:Nat) (A M W:Nat->Int),CLe (f 0) (svC n A M W)/\n*24<=reachBytes:=
 shpThree (e:=80) (e1:=34) (e2:=34) (by kernel_rfl) (by kernel_rfl) (by kernel_rfl) (by kernel_rfl) (by kernel_rfl) (by kernel_rfl) u34 u34 h
theorem shpDead {d:Nat} {f:Nat->CV} (h:Shp Tryz.prog (d+3) 28 f):∃(n:Nat) (A M W:Nat->Int),CLe (f 0) (svC n A M W)/\n*24<=reachBytes:=
 shpThree (e:=82) (e1:=3) (e2:=3) (by kernel_rfl) (by kernel_rfl) (by kernel_rfl) (by kernel_rfl) (by kernel_rfl) (by kernel_rfl) u3 u3 h
theorem shpConfig {d:Nat} {f:Nat->CV} (h:Shp Tryz.prog (d+3) 24 f):∃(e:Int) (mn:Nat) (mf:Nat->Int) (sn:Nat) (sf:Nat->Int),f 0=.i .i64 e/\CLe (f 1) (isC mn mf)/\CLe (f 2) (isC sn sf)/\mn*8<=reachBytes/\sn*8<=reachBytes:=by
 obtain ⟨e,he,_⟩:=Shp.int (d+1) rfl (Shp.field (i:=0) (e:=3) (o:=0) (d+2) rfl h (by kernel_rfl)) u3
 obtain ⟨mn,mf,hm,bm⟩:=shpInts (Shp.field (i:=1) (e:=22) (o:=1) (d+2) rfl h (by kernel_rfl))
 obtain ⟨sn,sf,hs,bs⟩:=shpInts (Shp.field (i:=2) (e:=22) (o:=2) (d+2) rfl h (by kernel_rfl))
 exact ⟨e,mn,mf,sn,sf,he,hm,hs,bm,bs⟩
theorem shpMember {f:Nat->CV} (h:Shp Tryz.prog 5 32 f):∃b:Mb,CLs f 0 (mbC b)/\b.mn*8<=reachBytes/\b.sn*8<=reachBytes/\b.hn*24<=reachBytes/\b.dn*24<=reachBytes:=by
 have u25:Tryz.prog.underlying 25=some (.int .i64):=by kernel_rfl
 have u26:Tryz.prog.underlying 26=some (.int .i64):=by kernel_rfl
 obtain ⟨x0,h0,_⟩:=Shp.int 3 rfl (Shp.field (i:=0) (e:=25) (o:=0) 4 rfl h (by kernel_rfl)) u25
 obtain ⟨x1,h1,_⟩:=Shp.int 3 rfl (Shp.field (i:=1) (e:=3) (o:=1) 4 rfl h (by kernel_rfl)) u3
 obtain ⟨x2,h2,_⟩:=Shp.int 3 rfl (Shp.field (i:=2) (e:=3) (o:=2) 4 rfl h (by kernel_rfl)) u3
 obtain ⟨x3,h3,_⟩:=Shp.int 3 rfl (Shp.field (i:=3) (e:=3) (o:=3) 4 rfl h (by kernel_rfl)) u3
 obtain ⟨x4,h4,_⟩:=Shp.int 3 rfl (Shp.field (i:=4) (e:=3) (o:=4) 4 rfl h (by kernel_rfl)) u3
 obtain ⟨x5,h5,_⟩:=Shp.int 3 rfl (Shp.field (i:=5) (e:=3) (o:=5) 4 rfl h (by kernel_rfl)) u3
 have hv:=Shp.field (i:=6) (e:=30) (o:=6) 4 rfl h (by kernel_rfl)
 obtain ⟨x6,h6,_⟩:=Shp.int 2 rfl (Shp.field (i:=0) (e:=26) (o:=0) 3 rfl hv (by kernel_rfl)) u26
 obtain ⟨x7,h7,_⟩:=Shp.int 2 rfl (Shp.field (i:=1) (e:=3) (o:=1) 3 rfl hv (by kernel_rfl)) u3
 obtain ⟨x8,mn,mf,sn,sf,h8,h9,h10,b1,b2⟩:=shpConfig (d:=0) (Shp.field (i:=2) (e:=24) (o:=2) 3 rfl hv (by kernel_rfl))
 obtain ⟨hn,hA,hM,hW,h11,b3⟩:=shpHolds (d:=0) (Shp.field (i:=3) (e:=27) (o:=5) 3 rfl hv (by kernel_rfl))
 obtain ⟨dn,dA,dM,dW,h12,b4⟩:=shpDead (d:=0) (Shp.field (i:=4) (e:=28) (o:=6) 3 rfl hv (by kernel_rfl))
 exact ⟨⟨fun i=>[x0,x1,x2,x3,x4,x5,x6,x7,x8].getD i 0,mn,mf,sn,sf,hn,hA,hM,hW,dn,dA,dM,dW⟩,⟨.of h0,.of h1,.of h2,.of h3,.of h4,.of h5,.of h6,.of h7,.of h8,h9,h10,h11,h12,trivial⟩,b1,b2,b3,b4⟩
theorem CLs.shift {f:Nat->CV} {o:Nat}:∀{l:List CV} {k:Nat},CLs (fun j=>f (o+j)) k l->CLs f (o+k) l
 | [],_,_=>trivial
 | a :: l,k,⟨h1,h2⟩=>⟨h1,CLs.shift (k:=k+1) h2⟩
def listQ (n:Nat) (A M W:Nat->Int):List HQ:=(List.range n).map fun i=>⟨A i,M i,W i⟩
theorem listQ_len (n:Nat) (A M W:Nat->Int):(listQ n A M W).length=n:=by simp [listQ]
theorem listQ_at {n:Nat} {A M W:Nat->Int} {i:Nat} (h:i<n):(listQ n A M W).getD i hz=⟨A i,M i,W i⟩:=by
 unfold listQ
 rw [List.getD_eq_getElem?_getD,List.getElem?_map,List.getElem?_range h];rfl
theorem CLe.trans {a b c:CV} (h1:CLe a b) (h2:CLe b c):CLe a c:=fun ro v h=>h2 ro v (h1 ro v h)
theorem listQ_cle (n:Nat) (A M W:Nat->Int):CLe (svC n A M W) (svC (listQ n A M W).length (qA (listQ n A M W)) (qM (listQ n A M W)) (qW (listQ n A M W))):=by
 rw [listQ_len]
 unfold svC
 refine CLe.sv fun i j a b=>.of ?_
 have e:=listQ_at (A:=A) (M:=M) (W:=W) a
 have eA:qA (listQ n A M W) i=A i:=by unfold qA;rw [e]
 have eM:qM (listQ n A M W) i=M i:=by unfold qM;rw [e]
 have eW:qW (listQ n A M W) i=W i:=by unfold qW;rw [e]
 match j,b with
 | 0,_=>show CV.i .i64 (A i)=.i .i64 (qA _ i);rw [eA]
 | 1,_=>show CV.i .i64 (M i)=.i .i64 (qM _ i);rw [eM]
 | 2,_=>show CV.i .i64 (W i)=.i .i64 (qW _ i);rw [eW]
def rsOf (x0 x1 x2:Int) (mn:Nat) (mf:Nat->Int) (sn:Nat) (sf:Nat->Int) (m0 m1 m2:Mb):Rs:=⟨fun i=>Nat.rec x0 (fun i _=>Nat.rec x1 (fun _ _=>x2) i) i,mn,mf,sn,sf,fun i=>Nat.rec m0 (fun i _=>Nat.rec m1 (fun _ _=>m2) i) i⟩
theorem rsOf_mb {x0 x1 x2:Int} {mn:Nat} {mf:Nat->Int} {sn:Nat} {sf:Nat->Int} {m0 m1 m2:Mb} (p:Mb->Prop) (h0:p m0) (h1:p m1) (h2:p m2):∀i,p ((rsOf x0 x1 x2 mn mf sn sf m0 m1 m2).s i)
 | 0=>h0
 | 1=>h1
 | _+2=>h2
def stOf (r:Rs) (H:Nat->Int×Int×Int) (Q:Nat->List HQ):LS:=⟨r,fun l=>⟨fun j=>bif Nat.beq j 0 then (H l).1 else bif Nat.beq j 1 then (H l).2.1 else (H l).2.2,if l<19 then Q l else []⟩⟩
theorem tsC_len2 (t:TS):(tsC t).length=120:=by kernel_rfl
theorem rsC_len2 (r:Rs):(rsC r).length=44:=by kernel_rfl
def hL (t:TS):List CV:=Nat.rec [] (fun l ih=>ih ++ [hF t.h l 0,hF t.h l 1,hF t.h l 2]) 19
def qL (t:TS):List CV:=Nat.rec [] (fun l ih=>ih ++ [quF t.n t.A t.M t.W l]) 19
theorem tsC_eq (t:TS):tsC t=rsC t.r ++ hL t ++ qL t:=rfl
theorem hL_cls {f:Nat->CV} {t:TS} (h:∀l,l<19->CLs f (44+l*3) [hF t.h l 0,hF t.h l 1,hF t.h l 2]):CLs f 44 (hL t)/\(hL t).length=57:=CLs.rec (sz:=3) (g:=fun l=>[hF t.h l 0,hF t.h l 1,hF t.h l 2]) (fun _=>rfl) 19 h
theorem qL_cls {f:Nat->CV} {t:TS} (h:∀l,l<19->CLs f (101+l*1) [quF t.n t.A t.M t.W l]):CLs f 101 (qL t)/\(qL t).length=19:=CLs.rec (sz:=1) (g:=fun l=>[quF t.n t.A t.M t.W l]) (fun _=>rfl) 19 h
theorem tsC_cls {f:Nat->CV} {t:TS} (hr:CLs f 0 (rsC t.r)) (a:CLs f 44 (hL t)/\(hL t).length=57) (b:CLs f 101 (qL t)/\(qL t).length=19):CLs f 0 (tsC t):=by
 rw [tsC_eq]
 generalize hL t=x at a
 generalize qL t=y at b
 have e:=rsC_len2 t.r
 generalize rsC t.r=z at hr e
 refine CLs.app (CLs.app hr ?_) ?_
 · rw [e];exact a.1
 · rw [List.length_append,e,a.2];exact b.1
theorem stOf_cls {f:Nat->CV} {r:Rs} {H:Nat->Int×Int×Int} {Q:Nat->List HQ} (hr:CLs f 0 (rsC r)) (hH:∀l,l<19->f (44+(l*3+0))=.i .i64 (H l).1/\f (44+(l*3+1))=.i .i64 (H l).2.1/\f (44+(l*3+2))=.i .i64 (H l).2.2)
 (hQ:∀l,l<19->CLe (f (101+(l*1+0))) (svC (Q l).length (qA (Q l)) (qM (Q l)) (qW (Q l)))):CLs f 0 (tsC (stOf r H Q).ts):=by
 refine tsC_cls hr (hL_cls fun l hl=>?_) (qL_cls fun l hl=>?_)
 · obtain ⟨a,b,c⟩:=hH l hl
   exact ⟨.of a,.of b,.of c,trivial⟩
 · refine ⟨?_,trivial⟩
   have a:=hQ l hl
   have e:(if l<19 then Q l else [])=Q l:=if_pos hl
   show CLe (f (101+l*1)) (svC (if l<19 then Q l else []).length (qA (if l<19 then Q l else [])) (qM (if l<19 then Q l else [])) (qW (if l<19 then Q l else [])))
   rw [e]
   exact a
theorem shpState {f:Nat->CV} (h:Shp Tryz.prog 7 39 f):∃s:LS,s.ok/\∀j,j<120->CLe (f j) ((tsC s.ts).getD j .p0):=by
 have hr:reachBytes=140737488351232:=rfl
 obtain ⟨x0,h0,_⟩:=Shp.int 5 rfl (Shp.field (i:=0) (e:=3) (o:=0) 6 rfl h (by kernel_rfl)) u3
 obtain ⟨x1,h1,_⟩:=Shp.int 5 rfl (Shp.field (i:=1) (e:=3) (o:=1) 6 rfl h (by kernel_rfl)) u3
 obtain ⟨x2,mn,mf,sn,sf,h2,h3,h4,b1,b2⟩:=shpConfig (d:=3) (Shp.field (i:=2) (e:=24) (o:=2) 6 rfl h (by kernel_rfl))
 have hs:=Shp.field (i:=3) (e:=33) (o:=5) 6 rfl h (by kernel_rfl)
 have c32:Tryz.prog.cellsOf 32=13:=by kernel_rfl
 have mem:∀i,i<3->∃b:Mb,CLs f (5+i*13) (mbC b)/\b.mn*8<=reachBytes/\b.sn*8<=reachBytes/\b.hn*24<=reachBytes/\b.dn*24<=reachBytes:=by
  intro i hi
  obtain ⟨b,k,r⟩:=shpMember (Shp.elem (n:=3) (e:=32) 5 rfl hs (by kernel_rfl) hi)
  refine ⟨b,?_,r⟩
  rw [c32] at k
  have k2:=CLs.shift (f:=fun j=>f (5+j)) (o:=i*13) k
  have k3:=CLs.shift (f:=f) (o:=5) k2
  exact k3
 obtain ⟨m0,k0,q0⟩:=mem 0 (by decide)
 obtain ⟨m1,k1,q1⟩:=mem 1 (by decide)
 obtain ⟨m2,k2,q2⟩:=mem 2 (by decide)
 have hh:=Shp.field (i:=4) (e:=36) (o:=44) 6 rfl h (by kernel_rfl)
 have c35:Tryz.prog.cellsOf 35=3:=by kernel_rfl
 have c34:Tryz.prog.cellsOf 34=1:=by kernel_rfl
 obtain ⟨H,hH⟩:=Classical.axiomOfChoice (r:=fun (l:Nat) (q:Int×Int×Int)=>l<19->f (44+(l*3+0))=.i .i64 q.1/\f (44+(l*3+1))=.i .i64 q.2.1/\f (44+(l*3+2))=.i .i64 q.2.2) (fun l=>by
  by_cases q:l<19
  · have hl:=Shp.elem (n:=19) (e:=35) 5 rfl hh (by kernel_rfl) q
    obtain ⟨x,hx,_⟩:=Shp.int 3 rfl (Shp.elem (n:=3) (e:=34) 4 rfl hl (by kernel_rfl) (show 0<3 by decide)) u34
    obtain ⟨y,hy,_⟩:=Shp.int 3 rfl (Shp.elem (n:=3) (e:=34) 4 rfl hl (by kernel_rfl) (show 1<3 by decide)) u34
    obtain ⟨z,hz,_⟩:=Shp.int 3 rfl (Shp.elem (n:=3) (e:=34) 4 rfl hl (by kernel_rfl) (show 2<3 by decide)) u34
    rw [c35,c34] at hx hy hz
    exact ⟨(x,y,z),fun _=>⟨hx,hy,hz⟩⟩
  · exact ⟨(0,0,0),fun h=>absurd h q⟩)
 have hq:=Shp.field (i:=5) (e:=37) (o:=101) 6 rfl h (by kernel_rfl)
 have c27:Tryz.prog.cellsOf 27=1:=by kernel_rfl
 obtain ⟨Q,hQ⟩:=Classical.axiomOfChoice (r:=fun (l:Nat) (q:List HQ)=>l<19->CLe (f (101+(l*1+0))) (svC q.length (qA q) (qM q) (qW q))/\q.length*24<=reachBytes) (fun l=>by
  by_cases q:l<19
  · obtain ⟨n,A,M,W,k,b⟩:=shpHolds (d:=2) (Shp.elem (n:=19) (e:=27) 5 rfl hq (by kernel_rfl) q)
    rw [c27] at k
    exact ⟨listQ n A M W,fun _=>⟨CLe.trans k (listQ_cle n A M W),by rw [listQ_len];exact b⟩⟩
  · exact ⟨[],fun h=>absurd h q⟩)
 have ok:(stOf (rsOf x0 x1 x2 mn mf sn sf m0 m1 m2) H Q).ok:=by
  refine ⟨⟨?_,?_⟩,?_,?_⟩
  · show mn<=_;omega
  · show sn<=_;omega
  · exact rsOf_mb (fun b=>b.mn<=17592186044416/\b.sn<=17592186044416/\b.hn<=5864062014805/\b.dn<=5864062014805) ⟨by omega,by omega,by omega,by omega⟩ ⟨by omega,by omega,by omega,by omega⟩ ⟨by omega,by omega,by omega,by omega⟩
  · intro l
    show (if l<19 then Q l else []).length<=_
    split
    · rename_i c;have:=(hQ l c).2;omega
    · simp
 have key:=stOf_cls (f:=f) (H:=H) (Q:=Q) (r:=rsOf x0 x1 x2 mn mf sn sf m0 m1 m2) (CLs.app (CLs.app (CLs.app (a:=[_,_,_,_,_]) ⟨.of h0,.of h1,.of h2,h3,h4,trivial⟩ k0) k1) k2) hH (fun l hl=>(hQ l hl).1)
 refine ⟨_,ok,fun j hj=>?_⟩
 have:=key.get j (by rw [tsC_len2];exact hj)
 rw [Nat.zero_add] at this
 exact this
theorem argState (s:LS):argAV Tryz.prog 39 (fun j=>(tsC s.ts).getD j .p0)=lsV s:=by kernel_rfl
end Go.Proofs.Lk
namespace Go.Proofs.Sv
open Go Go.Sim Go.Proofs Go.Proofs.Lk Go.Proofs.YtnnipmcdkcpndaaGreat
theorem shpCmd {f:Nat->CV} (h:Shp Tryz.prog 3 45 f):∃c:Cm,(∀j,j<10->CLe (f j) ((cmC c).getD j .p0))/\c.mn*8<=reachBytes:=by
 have u43:Tryz.prog.underlying 43=some (.int .i64):=by kernel_rfl
 obtain ⟨x0,h0,_⟩:=Shp.int 1 rfl (Shp.field (i:=0) (e:=43) (o:=0) 2 rfl h (by kernel_rfl)) u43
 obtain ⟨x1,h1,_⟩:=Shp.int 1 rfl (Shp.field (i:=1) (e:=3) (o:=1) 2 rfl h (by kernel_rfl)) u3
 obtain ⟨x2,h2,_⟩:=Shp.int 1 rfl (Shp.field (i:=2) (e:=3) (o:=2) 2 rfl h (by kernel_rfl)) u3
 obtain ⟨x3,h3,_⟩:=Shp.int 1 rfl (Shp.field (i:=3) (e:=3) (o:=3) 2 rfl h (by kernel_rfl)) u3
 obtain ⟨x4,h4,_⟩:=Shp.int 1 rfl (Shp.field (i:=4) (e:=3) (o:=4) 2 rfl h (by kernel_rfl)) u3
 obtain ⟨x5,h5,_⟩:=Shp.int 1 rfl (Shp.field (i:=5) (e:=3) (o:=5) 2 rfl h (by kernel_rfl)) u3
 obtain ⟨x6,h6,_⟩:=Shp.int 1 rfl (Shp.field (i:=6) (e:=34) (o:=6) 2 rfl h (by kernel_rfl)) u34
 obtain ⟨x7,h7,_⟩:=Shp.int 1 rfl (Shp.field (i:=7) (e:=3) (o:=7) 2 rfl h (by kernel_rfl)) u3
 obtain ⟨mn,mf,h8,b⟩:=shpInts (d:=0) (Shp.field (i:=8) (e:=22) (o:=8) 2 rfl h (by kernel_rfl))
 obtain ⟨x9,h9,_⟩:=Shp.int 1 rfl (Shp.field (i:=9) (e:=3) (o:=9) 2 rfl h (by kernel_rfl)) u3
 refine ⟨⟨x0,x1,x2,x3,x4,x5,x6,x7,mn,mf,x9⟩,fun j hj=>?_,b⟩
 match j,hj with
 | 0,_=>exact .of h0
 | 1,_=>exact .of h1
 | 2,_=>exact .of h2
 | 3,_=>exact .of h3
 | 4,_=>exact .of h4
 | 5,_=>exact .of h5
 | 6,_=>exact .of h6
 | 7,_=>exact .of h7
 | 8,_=>exact h8
 | 9,_=>exact .of h9
theorem shpCmds {f:Nat->CV} (h:Shp Tryz.prog 4 55 f):∃(n:Nat) (C:Nat->Cm),CLe (f 0) (.sv 10 n (cmF C))/\(∀i,(C i).mn<=17592186044416)/\n*96<=reachBytes:=by
 have us:Tryz.prog.underlying 55=some (.slice 45):=by kernel_rfl
 have b:Tryz.prog.bytesOf 45=96:=by kernel_rfl
 have c:Tryz.prog.cellsOf 45=10:=by kernel_rfl
 obtain ⟨n,g,hg,_,hb,hi⟩:=Shp.slice 3 rfl h us
 rw [c] at hg
 rw [b] at hb
 obtain ⟨C,hC⟩:=Classical.axiomOfChoice (r:=fun (i:Nat) (q:Cm)=>(i<n->∀j,j<10->CLe (g i j) ((cmC q).getD j .p0))/\q.mn<=17592186044416) (fun i=>by
  by_cases q:i<n
  · obtain ⟨x,hx,hm⟩:=shpCmd (hi i q)
    have hr:reachBytes=140737488351232:=rfl
    exact ⟨x,fun _=>hx,by omega⟩
  · exact ⟨⟨0,0,0,0,0,0,0,0,0,fun _=>0,0⟩,fun h=>absurd h q,Nat.zero_le _⟩)
 refine ⟨n,C,?_,fun i=>(hC i).2,hb⟩
 rw [hg]
 exact CLe.sv fun i j a b=>(hC i).1 a j b
end Go.Proofs.Sv
