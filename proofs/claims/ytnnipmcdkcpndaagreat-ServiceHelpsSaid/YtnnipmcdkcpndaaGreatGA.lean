/- Runs over unknown values, told by the kernel: part GA. -/
import Derived.Test.YtnnipmcdkcpndaaGreatSymI
import Derived.Test.YtnnipmcdkcpndaaGreatRows
namespace Go.Sim
open Go Go.Proofs Go.Proofs.YtnnipmcdkcpndaaGreat
noncomputable abbrev PG:=Tryz.prog
end Go.Sim
noncomputable section
open Int (ofNat)
set_option linter.unusedSimpArgs false
set_option linter.unusedVariables false
namespace Go.Proofs.Lk
open Go Go.Sim Go.Proofs
def qF (A M W:Nat->Int) (i j:Nat):CV:=Nat.rec (.i .i64 (A i)) (fun j _=>Nat.rec (.i .i64 (M i)) (fun _ _=>.i .i64 (W i)) j) j
structure HQ where
 a:Int
 m:Int
 w:Int
def hz:HQ:=⟨0,0,0⟩
def qA (q:List HQ) (i:Nat):Int:=(q.getD i hz).a
def qM (q:List HQ) (i:Nat):Int:=(q.getD i hz).m
def qW (q:List HQ) (i:Nat):Int:=(q.getD i hz).w
def svN (n:Nat) (A M W:Nat->Int):AV:=.sv 3 n (qF A M W)
def svQ (q:List HQ):AV:=svN q.length (qA q) (qM q) (qW q)
structure Rw where
 h:Nat->Int
 q:List HQ
def rwN (h:Nat->Int) (n:Nat) (A M W:Nat->Int):AV:=.agg [.i .i64 (h 0),.i .i64 (h 1),.i .i64 (h 2),svN n A M W]
def rwV (r:Rw):AV:=rwN r.h r.q.length (qA r.q) (qM r.q) (qW r.q)
def isv (n:Nat) (f:Nat->Int):AV:=.sv 1 n fun i _=>.i .i64 (f i)
structure Mb where
 x:Nat->Int
 mn:Nat
 mf:Nat->Int
 sn:Nat
 sf:Nat->Int
 hn:Nat
 hA:Nat->Int
 hM:Nat->Int
 hW:Nat->Int
 dn:Nat
 dA:Nat->Int
 dM:Nat->Int
 dW:Nat->Int
structure Rs where
 x:Nat->Int
 mn:Nat
 mf:Nat->Int
 sn:Nat
 sf:Nat->Int
 s:Nat->Mb
structure TS where
 r:Rs
 h:Nat->Nat->Int
 n:Nat->Nat
 A:Nat->Nat->Int
 M:Nat->Nat->Int
 W:Nat->Nat->Int
def mbL (b:Mb):List AV:=[.i .i64 (b.x 0),.i .i64 (b.x 1),.i .i64 (b.x 2),.i .i64 (b.x 3),.i .i64 (b.x 4),.i .i64 (b.x 5),.i .i64 (b.x 6),.i .i64 (b.x 7),.i .i64 (b.x 8),isv b.mn b.mf,isv b.sn b.sf,svN b.hn b.hA b.hM b.hW,svN b.dn b.dA b.dM b.dW]
def upto (n:Nat) (f:Nat->List AV):List AV:=Nat.rec [] (fun k ih=>ih ++ f k) n
def tsL (t:TS):List AV:=
 [.i .i64 (t.r.x 0),.i .i64 (t.r.x 1),.i .i64 (t.r.x 2),isv t.r.mn t.r.mf,isv t.r.sn t.r.sf] ++ mbL (t.r.s 0) ++ mbL (t.r.s 1) ++ mbL (t.r.s 2) ++
 upto 19 (fun l=>[.i .i64 (t.h l 0),.i .i64 (t.h l 1),.i .i64 (t.h l 2)]) ++ upto 19 (fun l=>[svN (t.n l) (t.A l) (t.M l) (t.W l)])
def tsV (t:TS):AV:=.agg (tsL t)
def tsD (d:List AV) (t:TS):AObj:=.cells 39 120 d (setAll .e 0 (tsL t))
def tsO (t:TS):AObj:=tsD [] t
def rep (n:Nat) (v:AV):List AV:=Nat.rec [] (fun _ ih=>v :: ih) n
def zM:List AV:=rep 9 (.i .i64 0) ++ rep 4 .l0
def zL:List AV:=[.i .i64 0,.i .i64 0,.i .i64 0,.l0,.l0] ++ zM ++ zM ++ zM ++ rep 57 (.i .i64 0) ++ rep 19 .l0
def tsZ (t:TS):AObj:=tsD zL t
def tzO:AObj:=.cells 39 120 zL .e
def z0 {α:Type} (a b:T α):T α:=T.n none a b
def z1 {α:Type} (v:α) (a b:T α):T α:=T.n (some v) a b
def zl {α:Type} (v:α):T α:=T.n (some v) T.e T.e
def isLockB (k:Int):Bool:=decide (0<=k) && decide (k<19)
def isServerB (k:Int):Bool:=decide (0<=k) && decide (k<3)
def isWishB (k:Int):Bool:=decide (k=1) || decide (k=2)
def isModeB (k:Int):Bool:=decide (k=0) || isWishB k
def goesB (a b:Int):Bool:=decide (a=0) || decide (b=0) || (decide (a=1) && decide (b=1))
def hx (h:Nat->Int) (k:Int):Int:=List.getD [h 0,h 1,h 2] k.toNat 0
def mayWaitB (h:Nat->Int) (a m w:Int):Bool:=isServerB a && (isWishB m && (decide (hx h a<m) && decide (w=0)))
def canB (h:Nat->Int) (a m:Int):Bool:=(decide ((0:Int)=a) || goesB m (h 0)) && ((decide ((1:Int)=a) || goesB m (h 1)) && (decide ((2:Int)=a) || goesB m (h 2)))
def fcB (h:Nat->Int) (n:Nat) (A M:Nat->Int):Bool:=decide (n≠0) && canB h (A 0) (M 0)
def wantB (h:Nat->Int) (n:Nat) (A M:Nat->Int) (k:Int):Int:=if n=0 then 0 else if A 0=k then 0 else if goesB (M 0) (hx h k) then 0 else M 0
def hmB (h:Nat->Int):Bool:=(isModeB (h 0) && (isModeB (h 1) && goesB (h 1) (h 0))) && (isModeB (h 2) && (goesB (h 2) (h 0) && goesB (h 2) (h 1)))
def rwO (h:Nat->Int) (n:Nat) (A M W:Nat->Int):AObj:=.cells 129 4 [] (setAll .e 0 [.i .i64 (h 0),.i .i64 (h 1),.i .i64 (h 2),svN n A M W])
def rz:AObj:=.cells 129 4 [.i .i64 0,.i .i64 0,.i .i64 0,.l0] .e
def fiN (A:Nat->Int) (k:Int):Nat->Nat->Nat
 | 0,i=>i
 | m+1,i=>if A i=k then i else fiN A k m (i+1)
def fi (n:Nat) (A:Nat->Int) (k:Int):Nat:=fiN A k n 0
def ti (n:Nat) (A:Nat->Int) (k:Int):Nat:=if fi n A k<n then fi n A k+1 else n
def qmB (h:Nat->Int) (n:Nat) (A M W:Nat->Int):Nat->Nat->Bool
 | 0,_=>true
 | m+1,i=>mayWaitB h (A i) (M i) (W i) && (decide (fi n A (A i)=i) && qmB h n A M W m (i+1))
def mayBeB (h:Nat->Int) (n:Nat) (A M W:Nat->Int):Bool:=hmB h && (qmB h n A M W n 0 && !fcB h n A M)
def setH (h:Nat->Int) (k:Int) (m:Int) (j:Nat):Int:=bif Nat.beq k.toNat j then m else h j
def goL (h:Nat->Int):List HQ->Rw
 | []=>⟨h,[]⟩
 | x :: q=>bif canB h x.a x.m then goL (setH h x.a x.m) q else ⟨h,x :: q⟩
def qok (q:List HQ):Prop:=∀x∈q,0<=x.a/\x.a<3
def fr (r:Rw) (k:Int):Nat:=fi r.q.length (qA r.q) k
def to (r:Rw) (k:Int):Nat:=ti r.q.length (qA r.q) k
def hasR (r:Rw) (k:Int):Int:=if fr r k<r.q.length then qM r.q (fr r k) else hx r.h k
def askR (r:Rw) (k mode:Int):Rw:=⟨r.h,if hasR r k<mode then r.q.take (fr r k) ++ ⟨k,mode,0⟩ :: r.q.drop (to r k) else r.q⟩
def freeR (r:Rw) (k:Int):Rw:=⟨setH r.h k 0,r.q.take (fr r k) ++ r.q.drop (to r k)⟩
def onR (r:Rw):Rw:=goL r.h r.q
def h3 (a b c:Int) (j:Nat):Int:=Nat.rec a (fun j _=>Nat.rec b (fun _ _=>c) j) j
def lastM (M:Nat->Int) (hs:Int) (m:Nat):Int:=Nat.rec hs (fun j _=>M j) m
def rvIs (v:AV) (r:Res):Prop:=match r with | .rv v1 _=>v1=v | _=>False
theorem con_pure {P:Program} {f:Nat} {g:FuncId} {pargs:List AV} {o:Orc} {v:AV} (hb:below 0 v=true) (h:runK P f (.call g pargs (mkH [])) o fun r _=>rvIs v r):Con P g pargs [] v []:=by
 obtain ⟨r,o',hr,hd⟩:=runK_ok P f _ _ _ h
 cases r with
 | rv v1 H1=>
   obtain rfl:v1=v:=hr
   obtain ⟨hlg,hcall⟩:CallDoes P g pargs (mkH []) v1 H1:=hd
   intro ρ w args' hv hh hoff
   refine (hcall ρ w args' hv hh (fun A q1 _=>hoff A (Nat.zero_le _))).mono ?_
   rintro e w' ⟨v',ρ1,rfl,k1,k2,k3⟩
   have hid:ren id v1=v1:=ren_id v1
   have hnone:∀A,ρ A=none:=fun A=>hoff A (Nat.zero_le _)
   have hemp:∀A o,(mkH (postL [] [])).get A=some o->False:=by
    intro A o h
    rw [mkH_get] at h
    have:(postL [] []:List (Option AObj))=[]:=rfl
    rw [this] at h;simp at h
   refine ⟨v',⟨fun _=>none,ρ1.ro⟩,rfl,?_,⟨fun A o h=>(hemp A o h).elim,fun A _ o _ _ _ h=>(hemp A o h).elim,fun A x h=>by simp at h,k2.ro,fun B j v hv A o x h=>(hemp A o h).elim⟩,?_⟩
   · exact unren_VR (ρ:=⟨fun _=>none,ρ1.ro⟩) (ρ':=ρ1) (σ:=id) (k:=0) (fun A h=>by omega) (fun _ _ _ h=>h) hb (by rw [hid];exact k1)
   · refine ⟨Nat.zero_le _,⟨fun A x h=>by rw [hnone A] at h;simp at h,k3.ext.ro⟩,fun A x h=>by simp at h,k3.size,?_,fun A o x h=>(hemp A o h).elim,?_,k3.tape,k3.os,k3.output⟩
     · exact k3.frame
     · exact k3.roimg
 | st _ _ _=>exact absurd hr (by simp [rvIs])
theorem con_pureX {P:Program} {f:Nat} {g:FuncId} {pargs:List AV} {o:Orc} {v:AV} {R:Prop} (h:runK P f (.call g pargs (mkH [])) o (fun r _=>rvIs v r)=R) (hb:below 0 v=true) (hr:R):Con P g pargs [] v []:=con_pure hb (h.mpr hr)
theorem con_runX {P:Program} {f:Nat} {g:FuncId} {pargs:List AV} {objs:List (Option AObj)} {o:Orc} {v:AV} {us:List Upd} (fz τ:List Nat) {R:Prop}
 (h:runK P f (.call g pargs (mkH objs)) o (fun r _=>∃v1 H1,r=.rv v1 H1/\RetIs objs v us fz τ v1 H1)=R) (hr:R):Con P g pargs objs v us:=con_of_run fz τ (h.mpr hr)
def rzO (h:Nat->Int) (n:Nat) (A M W:Nat->Int):AObj:=.cells 129 4 [.i .i64 0,.i .i64 0,.i .i64 0,.l0] (setAll .e 0 [.i .i64 (h 0),.i .i64 (h 1),.i .i64 (h 2),svN n A M W])
def TS.put (t:TS) (l:Nat) (h:Nat->Int) (n:Nat) (A M W:Nat->Int):TS:=
 ⟨t.r,fun j=>bif Nat.beq j l then h else t.h j,fun j=>bif Nat.beq j l then n else t.n j,fun j=>bif Nat.beq j l then A else t.A j,fun j=>bif Nat.beq j l then M else t.M j,fun j=>bif Nat.beq j l then W else t.W j⟩
structure LS where
 r:Rs
 row:Nat->Rw
def LS.ts (s:LS):TS:=⟨s.r,fun l=>(s.row l).h,fun l=>(s.row l).q.length,fun l=>qA (s.row l).q,fun l=>qM (s.row l).q,fun l=>qW (s.row l).q⟩
def LS.set (s:LS) (l:Nat) (r:Rw):LS:=⟨s.r,fun j=>bif Nat.beq j l then r else s.row j⟩
def lsV (s:LS):AV:=tsV s.ts
def mayB (r:Rw):Bool:=mayBeB r.h r.q.length (qA r.q) (qM r.q) (qW r.q)
def vaN (s:LS):Nat->Nat->Bool
 | 0,_=>true
 | m+1,l=>mayB (s.row l) && vaN s m (l+1)
def vaS (s:LS):Bool:=vaN s 19 0
def zMb:Mb:=⟨fun _=>0,0,fun _=>0,0,fun _=>0,0,fun _=>0,fun _=>0,fun _=>0,0,fun _=>0,fun _=>0,fun _=>0⟩
def zRs:Rs:=⟨fun _=>0,0,fun _=>0,0,fun _=>0,fun _=>zMb⟩
def zS:LS:=⟨zRs,fun _=>⟨fun _=>0,[]⟩⟩
def okA (s:LS) (l k m:Int):Bool:=isLockB l && (isServerB k && (isWishB m && vaS s))
def okF (s:LS) (l k:Int):Bool:=isLockB l && (isServerB k && vaS s)
def askS (s:LS) (l k m:Int):LS:=bif okA s l k m then s.set l.toNat (onR (askR (s.row l.toNat) k m)) else zS
def askE (s:LS) (l k m:Int):Int:=bif okA s l k m then 0 else 2
def freeS (s:LS) (l k:Int):LS:=bif okF s l k then s.set l.toNat (onR (freeR (s.row l.toNat) k)) else zS
def freeE (s:LS) (l k:Int):Int:=bif okF s l k then 0 else 2
def wantR (r:Rw) (k:Int):Int:=wantB r.h r.q.length (qA r.q) (qM r.q) k
def hldN (s:LS) (k:Int):Nat->List HQ
 | 0=>[]
 | l+1=>hldN s k l ++ (if hx (s.row l).h k=0 then [] else [⟨l,hx (s.row l).h k,wantR (s.row l) k⟩])
def hldS (s:LS) (k:Int):List HQ:=bif isServerB k && vaS s then hldN s k 19 else []
def dropN (s:LS) (k:Int) (l:Nat):LS:=⟨s.r,fun j=>bif Nat.blt j l then onR (freeR (s.row j) k) else s.row j⟩
def dropS (s:LS) (k:Int):LS:=bif isServerB k && vaS s then dropN s k 19 else s
def vwL (b:Mb):List AV:=[.i .i64 (b.x 6),.i .i64 (b.x 7),.i .i64 (b.x 8),isv b.mn b.mf,isv b.sn b.sf,svN b.hn b.hA b.hM b.hW,svN b.dn b.dA b.dM b.dW]
def vwO (b:Mb):AObj:=.cells 30 7 [] (setAll .e 0 (vwL b))
def vzO:AObj:=.cells 30 7 [.i .i64 0,.i .i64 0,.i .i64 0,.l0,.l0,.l0,.l0] .e
def isC (n:Nat) (f:Nat->Int):CV:=.sv 1 n fun i _=>.i .i64 (f i)
def svC (n:Nat) (A M W:Nat->Int):CV:=.sv 3 n (qF A M W)
def mbC (b:Mb):List CV:=[.i .i64 (b.x 0),.i .i64 (b.x 1),.i .i64 (b.x 2),.i .i64 (b.x 3),.i .i64 (b.x 4),.i .i64 (b.x 5),.i .i64 (b.x 6),.i .i64 (b.x 7),.i .i64 (b.x 8),isC b.mn b.mf,isC b.sn b.sf,svC b.hn b.hA b.hM b.hW,svC b.dn b.dA b.dM b.dW]
def rsC (r:Rs):List CV:=[.i .i64 (r.x 0),.i .i64 (r.x 1),.i .i64 (r.x 2),isC r.mn r.mf,isC r.sn r.sf] ++ mbC (r.s 0) ++ mbC (r.s 1) ++ mbC (r.s 2)
def rsF (r:Rs) (i:Nat):CV:=(rsC r).getD i .p0
def hF (h:Nat->Nat->Int) (l s:Nat):CV:=.i .i64 (h l s)
def quF (n:Nat->Nat) (A M W:Nat->Nat->Int) (l:Nat):CV:=svC (n l) (A l) (M l) (W l)
def tsS (t:TS):AObj:=.segs 39 120 [⟨0,1,44,fun i _=>rsF t.r i⟩,⟨44,3,19,hF t.h⟩,⟨101,1,19,fun l _=>quF t.n t.A t.M t.W l⟩] []
def tsC (t:TS):List CV:=rsC t.r ++
 (Nat.rec [] (fun l ih=>ih ++ [hF t.h l 0,hF t.h l 1,hF t.h l 2]) 19:List CV) ++ (Nat.rec [] (fun l ih=>ih ++ [quF t.n t.A t.M t.W l]) 19:List CV)
def tsW (t:TS):AObj:=.segs 39 120 [⟨0,1,44,fun i j=>(tsC t).getD (0+i*1+j) .p0⟩,⟨44,3,19,fun i j=>(tsC t).getD (44+i*3+j) .p0⟩,⟨101,1,19,fun i j=>(tsC t).getD (101+i*1+j) .p0⟩] []
structure TS.ok (t:TS):Prop where
 m:t.r.mn<=17592186044416/\t.r.sn<=17592186044416
 s:∀i,(t.r.s i).mn<=17592186044416/\(t.r.s i).sn<=17592186044416/\(t.r.s i).hn<=5864062014805/\(t.r.s i).dn<=5864062014805
 q:∀l,t.n l<=5864062014805
def LS.ok (s:LS):Prop:=s.ts.ok
set_option maxRecDepth 20000
theorem isLock_vc (k:Int) (K:Res->Orc->Prop):runK PG 1000000 (.call 189 [.i .i64 k] (mkH [])) (.s (.t (.t .z)) (.f (.f .z))) K=((decide (0<=k)=true->decide (0<=k)=true/\decide (0<=k)=true/\K (.rv (.b (decide (k<19))) ⟨.e,0,[]⟩) .z)/\(decide (0<=k)=false->decide (0<=k)=false/\decide (0<=k)=false/\K (.rv (.b false) ⟨.e,0,[]⟩) .z)):=by kernel_rfl
theorem isServer_vc (k:Int) (K:Res->Orc->Prop):runK PG 1000000 (.call 183 [.i .i64 k] (mkH [])) (.s (.t (.t .z)) (.f (.f .z))) K=((decide (0<=k)=true->decide (0<=k)=true/\decide (0<=k)=true/\K (.rv (.b (decide (k<3))) ⟨.e,0,[]⟩) .z)/\(decide (0<=k)=false->decide (0<=k)=false/\decide (0<=k)=false/\K (.rv (.b false) ⟨.e,0,[]⟩) .z)):=by kernel_rfl
theorem isWish_vc (k:Int) (K:Res->Orc->Prop):runK PG 1000000 (.call 188 [.i .i64 k] (mkH [])) (.s (.t (.f .z)) (.f (.t .z))) K=(((!decide (k=1))=true->(!decide (k=1))=true/\decide (k=1)=false/\K (.rv (.b (decide (k=2))) ⟨.e,0,[]⟩) .z)/\((!decide (k=1))=false->(!decide (k=1))=false/\decide (k=1)=true/\K (.rv (.b true) ⟨.e,0,[]⟩) .z)):=by kernel_rfl
theorem goes_vc (a b:Int) (K:Res->Orc->Prop):runK PG 1000000 (.call 170 [.i .i64 a,.i .i64 b] (mkH [])) (.s (.t (.f (.s (.t (.t (.s (ot 3 (.f .z)) (.f (.t (.f (.f .z))))))) (of_ 3 (.t .z))))) (.f (.t (oc 5 .z)))) K=(((!decide (a=0))=true->(!decide (a=0))=true/\decide (a=0)=false/\((!decide (b=0))=true->(!decide (b=0))=true/\(!decide (b=0))=true/\(decide (a=1)=true->decide (a=1)=true/\(!decide (b=0))=true/\decide (a=1)=true/\decide (b=0)=false/\K (.rv (.b (decide (b=1))) ⟨.e,0,[]⟩) .z)/\(decide (a=1)=false->decide (a=1)=false/\(!decide (b=0))=true/\decide (a=1)=false/\decide (b=0)=false/\K (.rv (.b false) ⟨.e,0,[]⟩) .z))/\((!decide (b=0))=false->(!decide (b=0))=false/\(!decide (b=0))=false/\(!decide (b=0))=false/\decide (b=0)=true/\K (.rv (.b true) ⟨.e,0,[]⟩) .z))/\((!decide (a=0))=false->(!decide (a=0))=false/\decide (a=0)=true/\K (.rv (.b true) ⟨.e,0,[]⟩) .z)):=by kernel_rfl
theorem isMode_vc (isWish:Int->Bool) (k:Int) (K:Res->Orc->Prop):runK PG 1000000 (.call 169 [.i .i64 k] (mkH [])) (.s (.t (.cal [] (.b (isWish k)) [] (.f .z))) (.f (.t .z))) K=(((!decide (k=0))=true->(!decide (k=0))=true/\Con PG 188 [.i .i64 k] [] (.b (isWish k)) []/\decide (k=0)=false/\K (.rv (.b (isWish k)) ⟨.e,0,[]⟩) .z)/\((!decide (k=0))=false->(!decide (k=0))=false/\decide (k=0)=true/\K (.rv (.b true) ⟨.e,0,[]⟩) .z)):=by kernel_rfl
theorem mayWait_vc (isWish isServer:Int->Bool) (h A M W:Nat->Int) (n:Nat) (a m w:Int) (K:Res->Orc->Prop):runK PG 1000000 (.call 171 [rwN h n A M W,.agg [.i .i64 a,.i .i64 m,.i .i64 w]] (mkH [])) (.cal [] (.b (isServer a)) [] (.s (.t (.t (.cal [] (.b (isWish m)) [] (.t (.s (ot 5 (.s (ot 3 (.s (ot 3 .z) (of_ 3 .z))) .z)) (of_ 8 (oc 4 .z))))))) (of_ 3 (oc 13 .z)))) K=((fun (q0:AV)=>(True/\Con PG 183 [.i .i64 a] [] (.b (isServer a)) []/\(isServer a=true->True/\isServer a=true/\isServer a=true/\Con PG 188 [.i .i64 m] [] (.b (isWish m)) []/\isServer a=true/\(isWish m=true->True/\isWish m=true/\isWish m=true/\True/\isWish m=true/\isWish m=true/\True/\isWish m=true/\(0<=a/\a<3)/\isWish m=true/\Int.toNat a<3/\isWish m=true/\isWish m=true/\(decide (List.getD [h 0,h 1,h 2] (Int.toNat a) 0<m)=true->True/\decide (List.getD [h 0,h 1,h 2] (Int.toNat a) 0<m)=true/\decide (List.getD [h 0,h 1,h 2] (Int.toNat a) 0<m)=true/\decide (List.getD [h 0,h 1,h 2] (Int.toNat a) 0<m)=true/\K (.rv (.b (decide (w=0))) ⟨zz1 (AObj.cells 129 4 [] (zz1 (.i .i64 (h 0)) (zz1 (.i .i64 (h 1)) (zzl q0) .e) (zzl (.i .i64 (h 2))))) (zzl (AObj.cells 80 3 [] (zz1 (.i .i64 a) (zzl (.i .i64 m)) (zzl (.i .i64 w))))) .e,2,[1,0]⟩) .z)/\(decide (List.getD [h 0,h 1,h 2] (Int.toNat a) 0<m)=false->decide (List.getD [h 0,h 1,h 2] (Int.toNat a) 0<m)=false/\decide (List.getD [h 0,h 1,h 2] (Int.toNat a) 0
 <m)=false/\decide (List.getD [h 0,h 1,h 2] (Int.toNat a) 0<m)=false/\K (.rv (.b false) ⟨zz1 (AObj.cells 129 4 [] (zz1 (.i .i64 (h 0)) (zz1 (.i .i64 (h 1)) (zzl q0) .e) (zzl (.i .i64 (h 2))))) (zzl (AObj.cells 80 3 [] (zz1 (.i .i64 a) (zzl (.i .i64 m)) (zzl (.i .i64 w))))) .e,2,[1,0]⟩) .z))/\(isWish m=false->isWish m=false/\isWish m=false/\isWish m=false/\isWish m=false/\isWish m=false/\isWish m=false/\isWish m=false/\isWish m=false/\K (.rv (.b false) ⟨zz1 (AObj.cells 129 4 [] (zz1 (.i .i64 (h 0)) (zz1 (.i .i64 (h 1)) (zzl q0) .e) (zzl (.i .i64 (h 2))))) (zzl (AObj.cells 80 3 [] (zz1 (.i .i64 a) (zzl (.i .i64 m)) (zzl (.i .i64 w))))) .e,2,[1,0]⟩) .z))/\(isServer a=false->isServer a=false/\isServer a=false/\isServer a=false/\K (.rv (.b false) ⟨zz1 (AObj.cells 129 4 [] (zz1 (.i .i64 (h 0)) (zz1 (.i .i64 (h 1)) (zzl q0) .e) (zzl (.i .i64 (h 2))))) (zzl (AObj.cells 80 3 [] (zz1 (.i .i64 a) (zzl (.i .i64 m)) (zzl (.i .i64 w))))) .e,2,[1,0]⟩) .z))) (.sv 3 n (qF A M W))):=by kernel_rfl
theorem fcg_vc (goes:Int->Int->Bool) (h A M W:Nat->Int) (n:Nat) (K:Res->Orc->Prop):runK PG 1000000 (.call 127 [rwN h n A M W] (mkH [])) (.s .z (.inl (oc 2 (.s (ot 3 (.cal [] (.b (goes (M 0) (h 0))) [] (.t (.t (.s .z (.inl (oc 2 (.s (ot 3 (.cal [] (.b (goes (M 0) (h 1))) [] (.t (.t (.s .z (.inl (oc 2 (.s (ot 3 (.cal [] (.b (goes (M 0) (h 2))) [] (.t (.t (.s .z (.inl (.c .z))))))) (of_ 5 (.c (.inl (.c .z)))))))))))) (of_ 5 (.c (.inl (oc 2 (.s (ot 3 (.cal [] (.b (goes (M 0) (h 2))) [] (.t (.t (.s .z (.inl (.c .z))))))) (of_ 5 (.c (.inl (.c .z))))))))))))))))) (of_ 5 (.c (.inl (oc 2 (.s (ot 3 (.cal [] (.b (goes (M 0) (h 1))) [] (.t (.t (.s .z (.inl (oc 2 (.s (ot 3 (.cal [] (.b (goes (M 0) (h 2))) [] (.t (.t (.s .z (.inl (.c .z))))))) (of_ 5 (.c (.inl (.c .z)))))))))))) (of_ 5 (.c (.inl (oc 2 (.s (ot 3 (.cal [] (.b (goes (M 0) (h 2))) [] (.t (.t (.s .z (.inl (.c .z))))))) (of_ 5 (.c (.inl (.c .z)))))))))))))))))) K=((fun (q3:AV)=>((fun (q2:List AV)=>((fun (q1:AV)=>((fun (q0:List AV)=>(True/\(decide (ofNat n=0)=true->K (.rv (.b false) ⟨zzl (AObj.cells 129 4 [] (zz1 (.i .i64 (h 0)) (zz1 (.i .i64 (h 1)) (zzl q1) .e) (zzl (.i .i64 (h 2))))),1,[0]⟩) .z)/\(decide (ofNat n=0)=false->True/\((0:Int)<=(0:Int)/\(0:Int)<↑n)/\True/\True/\True/\((!decide (0=A 0))=true->True/\(!decide (0=A 0))=true/\(!decide (0=A 0))=true/\(!decide (0=A 0))=true/\Con PG 170 [.i .i64 (M 0),.i .i64 (h 0)] [] (.b (goes (M 0)
 (h 0))) []/\(!decide (0=A 0))=true/\True/\(!decide (0=A 0))=true/\((!goes (M 0) (h 0))=true->K (.rv (.b false) ⟨zz1 (AObj.cells 129 4 [] (zz1 (.i .i64 (h 0)) (zz1 (.i .i64 (h 1)) (zzl q1) .e) (zzl (.i .i64 (h 2))))) (zzl (AObj.cells 80 3 q0 (zz1 (.i .i64 (A 0)) (zzl (.i .i64 (M 0))) (zzl (.i .i64 (W 0)))))) .e,2,[1,1,0]⟩) .z)/\((!goes (M 0) (h 0))=false->rg (1)/\True/\((!decide (1=A 0))=true->True/\(!decide (1=A 0))=true/\(!decide (1=A 0))=true/\(!decide (1=A 0))=true/\Con PG 170 [.i .i64 (M 0),.i .i64 (h 1)] [] (.b (goes (M 0) (h 1))) []/\(!decide (1=A 0))=true/\True/\(!decide (1=A 0))=true/\((!goes (M 0) (h 1))=true->K (.rv (.b false) ⟨zz1 (AObj.cells 129 4 [] (zz1 (.i .i64 (h 0)) (zz1 (.i .i64 (h 1)) (zzl q1) .e) (zzl (.i .i64 (h 2))))) (zzl (AObj.cells 80 3 q0 (zz1 (.i .i64 (A 0)) (zzl (.i .i64 (M 0))) (zzl (.i .i64 (W 0)))))) .e,2,[1,1,0]⟩) .z)/\((!goes (M 0) (h 1))=false->rg (2)/\True/\((!decide (2=A 0))=true->True/\(!decide (2=A 0))=true/\(!decide (2=A 0))=true/\(!decide (2=A 0))=true/\Con PG 170 q2 [] q3 []/\(!decide (2=A 0))=true/\True/\(!decide (2=A 0))=true/\((!goes (M 0) (h 2))=true->K (.rv (.b false) ⟨zz1 (AObj.cells 129 4 [] (zz1 (.i .i64 (h 0)) (zz1 (.i .i64 (h 1)) (zzl q1) .e) (zzl (.i .i64 (h 2))))) (zzl (AObj.cells 80 3 q0 (zz1 (.i .i64 (A 0)) (zzl (.i .i64 (M 0))) (zzl (.i .i64 (W 0)))))) .e,2,[1,1,0]⟩) .z)/\((!goes (M 0) (h 2))=false->rg (3)
 /\K (.rv (.b true) ⟨zz1 (AObj.cells 129 4 [] (zz1 (.i .i64 (h 0)) (zz1 (.i .i64 (h 1)) (zzl q1) .e) (zzl (.i .i64 (h 2))))) (zzl (AObj.cells 80 3 q0 (zz1 (.i .i64 (A 0)) (zzl (.i .i64 (M 0))) (zzl (.i .i64 (W 0)))))) .e,2,[1,1,0]⟩) .z))/\((!decide (2=A 0))=false->(!decide (2=A 0))=false/\(!decide (2=A 0))=false/\(!decide (2=A 0))=false/\(!decide (2=A 0))=false/\(!decide (2=A 0))=false/\rg (3)/\K (.rv (.b true) ⟨zz1 (AObj.cells 129 4 [] (zz1 (.i .i64 (h 0)) (zz1 (.i .i64 (h 1)) (zzl q1) .e) (zzl (.i .i64 (h 2))))) (zzl (AObj.cells 80 3 q0 (zz1 (.i .i64 (A 0)) (zzl (.i .i64 (M 0))) (zzl (.i .i64 (W 0)))))) .e,2,[1,1,0]⟩) .z)))/\((!decide (1=A 0))=false->(!decide (1=A 0))=false/\(!decide (1=A 0))=false/\(!decide (1=A 0))=false/\(!decide (1=A 0))=false/\(!decide (1=A 0))=false/\rg (2)/\True/\((!decide (2=A 0))=true->True/\(!decide (2=A 0))=true/\(!decide (2=A 0))=true/\(!decide (2=A 0))=true/\Con PG 170 q2 [] q3 []/\(!decide (2=A 0))=true/\True/\(!decide (2=A 0))=true/\((!goes (M 0) (h 2))=true->K (.rv (.b false) ⟨zz1 (AObj.cells 129 4 [] (zz1 (.i .i64 (h 0)) (zz1 (.i .i64 (h 1)) (zzl q1) .e) (zzl (.i .i64 (h 2))))) (zzl (AObj.cells 80 3 q0 (zz1 (.i .i64 (A 0)) (zzl (.i .i64 (M 0))) (zzl (.i .i64 (W 0)))))) .e,2,[1,1,0]⟩) .z)/\((!goes (M 0) (h 2))=false->rg (3)/\K (.rv (.b true) ⟨zz1 (AObj.cells 129 4 [] (zz1 (.i .i64 (h 0)) (zz1 (.i .i64 (h 1)) (zzl q1) .e) (zzl
 (.i .i64 (h 2))))) (zzl (AObj.cells 80 3 q0 (zz1 (.i .i64 (A 0)) (zzl (.i .i64 (M 0))) (zzl (.i .i64 (W 0)))))) .e,2,[1,1,0]⟩) .z))/\((!decide (2=A 0))=false->(!decide (2=A 0))=false/\(!decide (2=A 0))=false/\(!decide (2=A 0))=false/\(!decide (2=A 0))=false/\(!decide (2=A 0))=false/\rg (3)/\K (.rv (.b true) ⟨zz1 (AObj.cells 129 4 [] (zz1 (.i .i64 (h 0)) (zz1 (.i .i64 (h 1)) (zzl q1) .e) (zzl (.i .i64 (h 2))))) (zzl (AObj.cells 80 3 q0 (zz1 (.i .i64 (A 0)) (zzl (.i .i64 (M 0))) (zzl (.i .i64 (W 0)))))) .e,2,[1,1,0]⟩) .z))))/\((!decide (0=A 0))=false->(!decide (0=A 0))=false/\(!decide (0=A 0))=false/\(!decide (0=A 0))=false/\(!decide (0=A 0))=false/\(!decide (0=A 0))=false/\rg (1)/\True/\((!decide (1=A 0))=true->True/\(!decide (1=A 0))=true/\(!decide (1=A 0))=true/\(!decide (1=A 0))=true/\Con PG 170 [.i .i64 (M 0),.i .i64 (h 1)] [] (.b (goes (M 0) (h 1))) []/\(!decide (1=A 0))=true/\True/\(!decide (1=A 0))=true/\((!goes (M 0) (h 1))=true->K (.rv (.b false) ⟨zz1 (AObj.cells 129 4 [] (zz1 (.i .i64 (h 0)) (zz1 (.i .i64 (h 1)) (zzl q1) .e) (zzl (.i .i64 (h 2))))) (zzl (AObj.cells 80 3 q0 (zz1 (.i .i64 (A 0)) (zzl (.i .i64 (M 0))) (zzl (.i .i64 (W 0)))))) .e,2,[1,1,0]⟩) .z)/\((!goes (M 0) (h 1))=false->rg (2)/\True/\((!decide (2=A 0))=true->True/\(!decide (2=A 0))=true/\(!decide (2=A 0))=true/\(!decide (2=A 0))=true/\Con PG 170 q2 [] q3 []/\
 (!decide (2=A 0))=true/\True/\(!decide (2=A 0))=true/\((!goes (M 0) (h 2))=true->K (.rv (.b false) ⟨zz1 (AObj.cells 129 4 [] (zz1 (.i .i64 (h 0)) (zz1 (.i .i64 (h 1)) (zzl q1) .e) (zzl (.i .i64 (h 2))))) (zzl (AObj.cells 80 3 q0 (zz1 (.i .i64 (A 0)) (zzl (.i .i64 (M 0))) (zzl (.i .i64 (W 0)))))) .e,2,[1,1,0]⟩) .z)/\((!goes (M 0) (h 2))=false->rg (3)/\K (.rv (.b true) ⟨zz1 (AObj.cells 129 4 [] (zz1 (.i .i64 (h 0)) (zz1 (.i .i64 (h 1)) (zzl q1) .e) (zzl (.i .i64 (h 2))))) (zzl (AObj.cells 80 3 q0 (zz1 (.i .i64 (A 0)) (zzl (.i .i64 (M 0))) (zzl (.i .i64 (W 0)))))) .e,2,[1,1,0]⟩) .z))/\((!decide (2=A 0))=false->(!decide (2=A 0))=false/\(!decide (2=A 0))=false/\(!decide (2=A 0))=false/\(!decide (2=A 0))=false/\(!decide (2=A 0))=false/\rg (3)/\K (.rv (.b true) ⟨zz1 (AObj.cells 129 4 [] (zz1 (.i .i64 (h 0)) (zz1 (.i .i64 (h 1)) (zzl q1) .e) (zzl (.i .i64 (h 2))))) (zzl (AObj.cells 80 3 q0 (zz1 (.i .i64 (A 0)) (zzl (.i .i64 (M 0))) (zzl (.i .i64 (W 0)))))) .e,2,[1,1,0]⟩) .z)))/\((!decide (1=A 0))=false->(!decide (1=A 0))=false/\(!decide (1=A 0))=false/\(!decide (1=A 0))=false/\(!decide (1=A 0))=false/\(!decide (1=A 0))=false/\rg (2)/\True/\((!decide (2=A 0))=true->True/\(!decide (2=A 0))=true/\(!decide (2=A 0))=true/\(!decide (2=A 0))=true/\Con PG 170 q2 [] q3 []/\(!decide (2=A 0))=true/\True/\(!decide (2=A 0))=true/\((!goes (M 0) (h 2))=true->K (.rv (.b
 false) ⟨zz1 (AObj.cells 129 4 [] (zz1 (.i .i64 (h 0)) (zz1 (.i .i64 (h 1)) (zzl q1) .e) (zzl (.i .i64 (h 2))))) (zzl (AObj.cells 80 3 q0 (zz1 (.i .i64 (A 0)) (zzl (.i .i64 (M 0))) (zzl (.i .i64 (W 0)))))) .e,2,[1,1,0]⟩) .z)/\((!goes (M 0) (h 2))=false->rg (3)/\K (.rv (.b true) ⟨zz1 (AObj.cells 129 4 [] (zz1 (.i .i64 (h 0)) (zz1 (.i .i64 (h 1)) (zzl q1) .e) (zzl (.i .i64 (h 2))))) (zzl (AObj.cells 80 3 q0 (zz1 (.i .i64 (A 0)) (zzl (.i .i64 (M 0))) (zzl (.i .i64 (W 0)))))) .e,2,[1,1,0]⟩) .z))/\((!decide (2=A 0))=false->(!decide (2=A 0))=false/\(!decide (2=A 0))=false/\(!decide (2=A 0))=false/\(!decide (2=A 0))=false/\(!decide (2=A 0))=false/\rg (3)/\K (.rv (.b true) ⟨zz1 (AObj.cells 129 4 [] (zz1 (.i .i64 (h 0)) (zz1 (.i .i64 (h 1)) (zzl q1) .e) (zzl (.i .i64 (h 2))))) (zzl (AObj.cells 80 3 q0 (zz1 (.i .i64 (A 0)) (zzl (.i .i64 (M 0))) (zzl (.i .i64 (W 0)))))) .e,2,[1,1,0]⟩) .z)))))) [.i .i64 0,.i .i64 0,.i .i64 0])) (.sv 3 n (qF A M W)))) [.i .i64 (M 0),.i .i64 (h 2)])) (.b (goes (M 0) (h 2)))):=by kernel_rfl
theorem wanted_vc (goes:Int->Int->Bool) (h A M W:Nat->Int) (n:Nat) (k:Int) (K:Res->Orc->Prop):runK PG 1000000 (.call 184 [rwN h n A M W,.i .i64 k] (mkH [])) (.s .z (.s (ot 4 (.s (.t (.t (.cal [] (.b (goes (M 0) (List.getD [h 0,h 1,h 2] (Int.toNat k) 0))) [] (.f (.s .z .z))))) .z)) (of_ 6 (.t (.c .z))))) K=((fun (q1:AV)=>((fun (q0:List AV)=>(True/\(decide (ofNat n=0)=true->K (.rv (.i .i64 0) ⟨zzl (AObj.cells 129 4 [] (zz1 (.i .i64 (h 0)) (zz1 (.i .i64 (h 1)) (zzl q1) .e) (zzl (.i .i64 (h 2))))),1,[0]⟩) .z)/\(decide (ofNat n=0)=false->True/\((0:Int)<=(0:Int)/\(0:Int)<↑n)/\True/\True/\((!decide (A 0=k))=true->True/\(!decide (A 0=k))=true/\(!decide (A 0=k))=true/\(!decide (A 0=k))=true/\True/\(!decide (A 0=k))=true/\(0<=k/\k<3)/\(!decide (A 0=k))=true/\Int.toNat k<3/\(!decide (A 0=k))=true/\Con PG 170 [.i .i64 (M 0),.i .i64 (List.getD [h 0,h 1,h 2] (Int.toNat k) 0)] [] (.b (goes (M 0) (List.getD [h 0,h 1,h 2] (Int.toNat k) 0))) []/\decide (A 0=k)=false/\(goes (M 0) (List.getD [h 0,h 1,h 2] (Int.toNat k) 0)=true->K (.rv (.i .i64 0) ⟨zz1 (AObj.cells 129 4 [] (zz1 (.i .i64 (h 0)) (zz1 (.i .i64 (h 1)) (zzl q1) .e) (zzl (.i .i64 (h 2))))) (zzl (AObj.cells 80 3 q0 (zz1 (.i .i64 (A 0)) (zzl (.i .i64 (M 0))) (zzl (.i .i64 (W 0)))))) .e,2,[1,1,0]⟩) .z)/\(goes (M 0) (List.getD [h 0,h 1,h 2] (Int.toNat k) 0)=false->True/\K (.rv (.i .i64 (M 0)) ⟨zz1
 (AObj.cells 129 4 [] (zz1 (.i .i64 (h 0)) (zz1 (.i .i64 (h 1)) (zzl q1) .e) (zzl (.i .i64 (h 2))))) (zzl (AObj.cells 80 3 q0 (zz1 (.i .i64 (A 0)) (zzl (.i .i64 (M 0))) (zzl (.i .i64 (W 0)))))) .e,2,[1,1,0]⟩) .z))/\((!decide (A 0=k))=false->(!decide (A 0=k))=false/\(!decide (A 0=k))=false/\(!decide (A 0=k))=false/\(!decide (A 0=k))=false/\(!decide (A 0=k))=false/\(!decide (A 0=k))=false/\decide (A 0=k)=true/\K (.rv (.i .i64 0) ⟨zz1 (AObj.cells 129 4 [] (zz1 (.i .i64 (h 0)) (zz1 (.i .i64 (h 1)) (zzl q1) .e) (zzl (.i .i64 (h 2))))) (zzl (AObj.cells 80 3 q0 (zz1 (.i .i64 (A 0)) (zzl (.i .i64 (M 0))) (zzl (.i .i64 (W 0)))))) .e,2,[1,1,0]⟩) .z)))) [.i .i64 0,.i .i64 0,.i .i64 0])) (.sv 3 n (qF A M W))):=by kernel_rfl
theorem isLock_con (k:Int):Con PG 189 [.i .i64 k] [] (.b (isLockB k)) []:=by
 refine con_plain rfl ((isLock_vc _ _).mpr ?_)
 repeat' first | exact trivial | assumption | (refine ⟨_,_,rfl,?_⟩) | apply And.intro | intro _
 all_goals (simp_all [isLockB];try omega)
theorem isServer_con (k:Int):Con PG 183 [.i .i64 k] [] (.b (isServerB k)) []:=by
 refine con_plain rfl ((isServer_vc _ _).mpr ?_)
 repeat' first | exact trivial | assumption | (refine ⟨_,_,rfl,?_⟩) | apply And.intro | intro _
 all_goals (simp_all [isServerB];try omega)
theorem isWish_con (k:Int):Con PG 188 [.i .i64 k] [] (.b (isWishB k)) []:=by
 refine con_plain rfl ((isWish_vc _ _).mpr ?_)
 repeat' first | exact trivial | assumption | (refine ⟨_,_,rfl,?_⟩) | apply And.intro | intro _
 all_goals simp_all [isWishB]
theorem goes_con (a b:Int):Con PG 170 [.i .i64 a,.i .i64 b] [] (.b (goesB a b)) []:=by
 refine con_plain rfl ((goes_vc _ _ _).mpr ?_)
 repeat' first | exact trivial | assumption | (refine ⟨_,_,rfl,?_⟩) | apply And.intro | intro _
 all_goals simp_all [goesB]
theorem isMode_con (k:Int):Con PG 169 [.i .i64 k] [] (.b (isModeB k)) []:=by
 refine con_plain rfl ((isMode_vc isWishB _ _).mpr ?_)
 repeat' first | exact trivial | assumption | exact isWish_con _ | (refine ⟨_,_,rfl,?_⟩) | apply And.intro | intro _
 all_goals simp_all [isModeB]
theorem mayWait_con (h A M W:Nat->Int) (n:Nat) (a m w:Int):Con PG 171 [rwN h n A M W,.agg [.i .i64 a,.i .i64 m,.i .i64 w]] [] (.b (mayWaitB h a m w)) []:=by
 refine con_plain rfl ((mayWait_vc isWishB isServerB _ _ _ _ _ _ _ _ _).mpr ?_)
 repeat' first | exact trivial | assumption | exact isWish_con _ | exact isServer_con _ | (refine ⟨_,_,rfl,?_⟩) | apply And.intro | intro _
 all_goals (simp_all [mayWaitB,isServerB,hx];try omega)
theorem fc_con (h A M W:Nat->Int) (n:Nat):Con PG 127 [rwN h n A M W] [] (.b (fcB h n A M)) []:=by
 refine con_plain rfl ((fcg_vc goesB _ _ _ _ _ _).mpr ?_)
 repeat' first | exact trivial | assumption | exact goes_con _ _ | (refine ⟨_,_,rfl,?_⟩) | apply And.intro | intro _
 all_goals (simp_all [fcB,canB];try omega)
theorem wanted_con (h A M W:Nat->Int) (n:Nat) (k:Int) (hk:isServerB k=true):Con PG 184 [rwN h n A M W,.i .i64 k] [] (.i .i64 (wantB h n A M k)) []:=by
 refine con_plain rfl ((wanted_vc goesB _ _ _ _ _ _ _).mpr ?_)
 repeat' first | exact trivial | assumption | exact goes_con _ _ | (refine ⟨_,_,rfl,?_⟩) | apply And.intro | intro _
 all_goals (simp_all [wantB,isServerB,hx];try omega)
set_option maxRecDepth 20000
theorem stF_vc (h A M W:Nat->Int) (n i:Nat) (k:Int) (h1:decide (ofNat i<ofNat n)=true) (h2:decide (A (Int.toNat (ofNat i))=k)=true) (K:Res->Orc->Prop):runK PG 1000000 (.code (loopAt PG 172 0) 30 (mkT [(1,.i .i64 k),(2,.p 0 0),(9,svN n A M W),(10,.i .i64 (ofNat n)),(11,.i .i64 (ofNat i))]) (mkH [some (rwO h n A M W)])) (.t (.t .z)) K=(decide (ofNat i<ofNat n)=true/\(0<=ofNat i/\ofNat i<↑n)/\True/\True/\decide (A i=k)=true/\rg (ofNat i+1)/\K (.st .ret (zz0 (zz1 (.i .i64 k) (zz0 (zz1 (.p 1 0) (zzl (.agg [.i .i64 (A i),.i .i64 (M i),.i .i64 (W i)])) .e) (zz1 (inv i) (zzl (.b (decide (A i=k)))) .e)) (zz1 (.i .i64 (ofNat i+1)) (zz1 (.sv 3 n (qF A M W)) (zzl (.i .i64 (A i))) .e) (zz1 (inv i) (zzn i) .e))) (zz1 (.p 0 0) (zz1 (inv i) (zz0 (zzl (.p 1 0)) .e) (zz1 (.b (decide (ofNat i<ofNat n))) (zzn i) .e)) (zz1 (inv i) (zz1 (inv n) (zzl (.i .i64 k)) .e) (zz1 (.pv 3 (qF A M W i)) (zzl (.i .i64 (ofNat i+1))) .e)))) ⟨zz1 (AObj.cells 129 4 [] (zz1 (.i .i64 (h 0)) (zz1 (.i .i64 (h 1)) (zzl (.sv 3 n (qF A M W))) .e) (zzl (.i .i64 (h 2))))) (zzl (AObj.cells 80 3 [.i .i64 0,.i .i64 0,.i .i64 0] (zz1 (.i .i64 (A i)) (zzl (.i .i64 (M i))) (zzl (.i .i64 (W i)))))) .e,2,[1,1]⟩) .z):=by kernel_rfl
theorem stG_vc (h A M W:Nat->Int) (n i:Nat) (k:Int) (h1:decide (ofNat i<ofNat n)=true) (h2:decide (A (Int.toNat (ofNat i))=k)=false) (K:Res->Orc->Prop):runK PG 1000000 (.code (loopAt PG 172 0) 30 (mkT [(1,.i .i64 k),(2,.p 0 0),(9,svN n A M W),(10,.i .i64 (ofNat n)),(11,.i .i64 (ofNat i))]) (mkH [some (rwO h n A M W)])) (.t (.f .z)) K=(decide (ofNat i<ofNat n)=true/\(0<=ofNat i/\ofNat i<↑n)/\True/\True/\decide (A i=k)=false/\rg (ofNat i+1)/\K (.st .nrm (zz0 (zz1 (.i .i64 k) (zz0 (zz1 (.p 1 0) (zzl (.agg [.i .i64 (A i),.i .i64 (M i),.i .i64 (W i)])) (zzl (.i .i64 (ofNat i+1)))) (zz1 (.i .i64 (ofNat i+1)) (zzl (.b (decide (A i=k)))) .e)) (zz0 (zz1 (.sv 3 n (qF A M W)) (zzl (.i .i64 (A i))) .e) (zzn i))) (zz1 (.p 0 0) (zz0 (zz0 (zzl (.p 1 0)) .e) (zzl (.b (decide (ofNat i<ofNat n))))) (zz1 (inv i) (zz1 (inv n) (zzl (.i .i64 k)) .e) (zzl (.pv 3 (qF A M W i)))))) ⟨zz1 (AObj.cells 129 4 [] (zz1 (.i .i64 (h 0)) (zz1 (.i .i64 (h 1)) (zzl (.sv 3 n (qF A M W))) .e) (zzl (.i .i64 (h 2))))) (zzl (AObj.cells 80 3 [.i .i64 0,.i .i64 0,.i .i64 0] (zz1 (.i .i64 (A i)) (zzl (.i .i64 (M i))) (zzl (.i .i64 (W i)))))) .e,2,[1,1]⟩) .z):=by kernel_rfl
theorem stE_vc (h A M W:Nat->Int) (n i:Nat) (k:Int) (h1:decide (ofNat i<ofNat n)=false) (K:Res->Orc->Prop):runK PG 1000000 (.code (loopAt PG 172 0) 30 (mkT [(1,.i .i64 k),(2,.p 0 0),(9,svN n A M W),(10,.i .i64 (ofNat n)),(11,.i .i64 (ofNat i))]) (mkH [some (rwO h n A M W)])) (.f .z) K=(decide (ofNat i<ofNat n)=false/\K (.st (.exit 0) (zz0 (zz1 (.i .i64 k) (zz0 .e (zzn i)) (zz0 (zzl (.sv 3 n (qF A M W))) .e)) (zz1 (.p 0 0) (zz0 .e (zzl (.b (decide (ofNat i<ofNat n))))) (zz0 (zzn n) .e))) ⟨zzl (AObj.cells 129 4 [] (zz1 (.i .i64 (h 0)) (zz1 (.i .i64 (h 1)) (zzl (.sv 3 n (qF A M W))) .e) (zzl (.i .i64 (h 2))))),1,[]⟩) .z):=by kernel_rfl
theorem stretchF_vc (j:Nat) (h A M W:Nat->Int) (n:Nat) (k:Int) (K:Res->Orc->Prop):runK PG 1000000 (.call 172 [rwN h n A M W,.i .i64 k] (mkH [])) (.lop [0] [1,2,9,10,11] 1 .ret [(4,.i .i64 (ofNat j)),(5,.i .i64 (ofNat j+1))] [some (rwO h n A M W)] .z) K=(True/\LDoes PG (loopAt PG 172 0) 30 1 (mkT [(1,.i .i64 k),(2,.p 0 0),(9,svN n A M W),(10,.i .i64 (ofNat n)),(11,.i .i64 0)]) [some (rwO h n A M W)] .ret (mkT [(4,.i .i64 (ofNat j)),(5,.i .i64 (ofNat j+1))]) [some (rwO h n A M W)]/\K (.rv (.tup [inv j,.i .i64 (ofNat j+1)]) ⟨zzl (AObj.cells 129 4 [] (zz1 (.i .i64 (h 0)) (zz1 (.i .i64 (h 1)) (zzl (.sv 3 n (qF A M W))) .e) (zzl (.i .i64 (h 2))))),1,[0,0]⟩) .z):=by kernel_rfl
theorem stretchE_vc (h A M W:Nat->Int) (n:Nat) (k:Int) (K:Res->Orc->Prop):runK PG 1000000 (.call 172 [rwN h n A M W,.i .i64 k] (mkH [])) (.lop [0] [1,2,9,10,11] 1 (.exit 0) [(2,.p 0 0)] [some (rwO h n A M W)] .z) K=(True/\LDoes PG (loopAt PG 172 0) 30 1 (mkT [(1,.i .i64 k),(2,.p 0 0),(9,svN n A M W),(10,.i .i64 (ofNat n)),(11,.i .i64 0)]) [some (rwO h n A M W)] (.exit 0) (mkT [(2,.p 0 0)]) [some (rwO h n A M W)]/\True/\True/\K (.rv (.tup [inv n,inv n]) ⟨zzl (AObj.cells 129 4 [] (zz1 (.i .i64 (h 0)) (zz1 (.i .i64 (h 1)) (zzl (.sv 3 n (qF A M W))) .e) (zzl (.i .i64 (h 2))))),1,[0,0]⟩) .z):=by kernel_rfl
theorem fiN_lt (A:Nat->Int) (k:Int):∀m i,fiN A k m i<=i+m/\(fiN A k m i<i+m->A (fiN A k m i)=k)/\i<=fiN A k m i/\∀j,i<=j->j<fiN A k m i->A j≠k
 | 0,i=>⟨by simp [fiN],fun h=>by simp [fiN] at h,by simp [fiN],fun j a b=>by simp [fiN] at b;omega⟩
 | m+1,i=>by
   obtain ⟨a,b,c,d⟩:=fiN_lt A k m (i+1)
   unfold fiN
   split
   · rename_i h
     exact ⟨by omega,fun _=>h,Nat.le_refl _,fun j x y=>by omega⟩
   · rename_i h
     refine ⟨by omega,fun q=>b (by omega),by omega,fun j x y=>?_⟩
     by_cases e:j=i
     · subst e;exact h
     · exact d j (by omega) y
theorem fi_le (n:Nat) (A:Nat->Int) (k:Int):fi n A k<=n:=by have:=(fiN_lt A k n 0).1;unfold fi;omega
theorem fi_at {n:Nat} {A:Nat->Int} {k:Int} (h:fi n A k<n):A (fi n A k)=k:=(fiN_lt A k n 0).2.1 (by unfold fi at h;omega)
theorem fi_far {n:Nat} {A:Nat->Int} {k:Int} {j:Nat} (h:j<fi n A k):A j≠k:=(fiN_lt A k n 0).2.2.2 j (Nat.zero_le _) h
theorem stF_lp (h A M W:Nat->Int) (n j:Nat) (k:Int) (hn:n<=1152921504606846976) (hj:fi n A k=j) (hl:j<n):LDoes PG (loopAt PG 172 0) 30 1 (mkT [(1,.i .i64 k),(2,.p 0 0),(9,svN n A M W),(10,.i .i64 (ofNat n)),(11,.i .i64 0)]) [some (rwO h n A M W)] .ret (mkT [(4,.i .i64 (ofNat j)),(5,.i .i64 (ofNat j+1))]) [some (rwO h n A M W)]:=by
 subst hj
 refine loop_ind (fun i:Nat=>([(1,.i .i64 k),(2,.p 0 0),(9,svN n A M W),(10,.i .i64 (ofNat n)),(11,.i .i64 (ofNat i))],[some (rwO h n A M W)])) (fun i=>n-i) (fun i=>i<=fi n A k) ?_ 0 (Nat.zero_le _)
 intro i hi
 refine ⟨Nat.le_refl _,?_⟩
 by_cases e:i=fi n A k
 · have h1:decide (ofNat i<ofNat n)=true:=by simp;omega
   have h2:decide (A (Int.toNat (ofNat i))=k)=true:=by
    have:=fi_at hl;simp;rw [e];exact this
   refine ⟨_,_,(stF_vc h A M W n i k h1 h2 _).mpr ?_⟩
   refine ⟨h1,⟨by simp,by simp;omega⟩,trivial,trivial,h2,⟨by simp;omega,by simp;omega⟩,.inr ⟨[0],[],_,_,rfl,by simp,?_⟩⟩
   rw [<-e]
   exact st_k [0] (by kernel_rfl)
 · have h1:decide (ofNat i<ofNat n)=true:=by simp;omega
   have h2:decide (A (Int.toNat (ofNat i))=k)=false:=by
    have:=fi_far (n:=n) (A:=A) (k:=k) (j:=i) (by omega);simpa using this
   refine ⟨_,_,(stG_vc h A M W n i k h1 h2 _).mpr ?_⟩
   refine ⟨h1,⟨by simp,by simp;omega⟩,trivial,trivial,h2,⟨by simp;omega,by simp;omega⟩,.inl ⟨i+1,[0],[],_,_,by omega,(by show n-(i+1)<n-i;omega),rfl,?_⟩⟩
   exact st_k [0] (by kernel_rfl)
theorem stE_lp (h A M W:Nat->Int) (n:Nat) (k:Int) (hn:n<=1152921504606846976) (hj:fi n A k=n):LDoes PG (loopAt PG 172 0) 30 1 (mkT [(1,.i .i64 k),(2,.p 0 0),(9,svN n A M W),(10,.i .i64 (ofNat n)),(11,.i .i64 0)]) [some (rwO h n A M W)] (.exit 0) (mkT [(2,.p 0 0)]) [some (rwO h n A M W)]:=by
 refine loop_ind (fun i:Nat=>([(1,.i .i64 k),(2,.p 0 0),(9,svN n A M W),(10,.i .i64 (ofNat n)),(11,.i .i64 (ofNat i))],[some (rwO h n A M W)])) (fun i=>n-i) (fun i=>i<=n) ?_ 0 (Nat.zero_le _)
 intro i hi
 refine ⟨Nat.le_refl _,?_⟩
 by_cases e:i=n
 · have h1:decide (ofNat i<ofNat n)=false:=by simp;omega
   refine ⟨_,_,(stE_vc h A M W n i k h1 _).mpr ?_⟩
   refine ⟨h1,.inr ⟨[0],[],_,_,rfl,by simp,?_⟩⟩
   exact st_k [0] (by kernel_rfl)
 · have h1:decide (ofNat i<ofNat n)=true:=by simp;omega
   have h2:decide (A (Int.toNat (ofNat i))=k)=false:=by
    have:=fi_far (n:=n) (A:=A) (k:=k) (j:=i) (by omega);simpa using this
   refine ⟨_,_,(stG_vc h A M W n i k h1 h2 _).mpr ?_⟩
   refine ⟨h1,⟨by simp,by simp;omega⟩,trivial,trivial,h2,⟨by simp;omega,by simp;omega⟩,.inl ⟨i+1,[0],[],_,_,by omega,(by show n-(i+1)<n-i;omega),rfl,?_⟩⟩
   exact st_k [0] (by kernel_rfl)
theorem stretch_con (h A M W:Nat->Int) (n:Nat) (k:Int) (hn:n<=1152921504606846976):Con PG 172 [rwN h n A M W,.i .i64 k] [] (.tup [.i .i64 (ofNat (fi n A k)),.i .i64 (ofNat (ti n A k))]) []:=by
 by_cases e:fi n A k<n
 · have e2:ti n A k=fi n A k+1:=by unfold ti;rw [if_pos e]
   rw [e2]
   exact con_plain (by kernel_rfl) ((stretchF_vc _ _ _ _ _ _ _ _).mpr ⟨trivial,stF_lp h A M W n _ k hn rfl e,_,_,rfl,rfl⟩)
 · have e1:fi n A k=n:=by have:=fi_le n A k;omega
   have e2:ti n A k=n:=by unfold ti;rw [if_neg e]
   rw [e2,e1]
   exact con_plain (by kernel_rfl) ((stretchE_vc _ _ _ _ _ _ _).mpr ⟨trivial,stE_lp h A M W n k hn e1,trivial,trivial,_,_,rfl,rfl⟩)
set_option maxRecDepth 20000
theorem qmR_vc (mw:Int->Int->Int->Bool) (fr to:Int->Nat) (h A M W:Nat->Int) (n i:Nat) (K:Res->Orc->Prop):runK PG 1000000 (.code (loopAt PG 126 0) 30 (mkT [(1,.p 0 0),(8,svN n A M W),(9,.i .i64 (ofNat n)),(10,.i .i64 (ofNat i))]) (mkH [some (rwO h n A M W)])) (.s (.cal [] (.b (mw (A i) (M i) (W i))) [] (.s .z (.cal [] (.tup [inv (fr (A i)),inv (to (A i))]) [] (.s .z .z)))) .z) K=((fun (q10:AV)=>((fun (q9:Bool)=>((fun (q8:AV)=>((fun (q7:AV)=>((fun (q6:List AV)=>((fun (q5:AV)=>((fun (q4:AV)=>((fun (q3:AV)=>((fun (q2:AV)=>((fun (q1:List AV)=>((fun (q0:AV)=>((decide (ofNat i<ofNat n)=true->(0<=ofNat i/\ofNat i<↑n)/\True/\Con PG 171 [rwN h n A M W,.agg q1] [] q5 []/\True/\((!mw (A i) (M i) (W i))=true->K (.st .ret (zz0 (zz1 (.p 0 0) (zz1 (inv i) (zz0 (zzl q0) .e) (zzl q4)) (zz0 (zz1 (inv n) (zzl q5) .e) (zzl q10))) (zz1 (.b false) (zz1 (.p 1 0) (zz1 q3 (zzl (.agg q1)) .e) (zzn i)) (zz0 (zz1 (inv i) (zzl q7) .e) (zzl (.agg q1))))) ⟨zz1 (AObj.cells 129 4 [] (zz1 (.i .i64 (h 0)) (zz1 (.i .i64 (h 1)) (zzl q3) .e) (zzl (.i .i64 (h 2))))) (zzl (AObj.cells 80 3 q6 (zz1 (.i .i64 (A i)) (zzl (.i .i64 (M i))) (zzl (.i .i64 (W i)))))) .e,2,[1,1]⟩) .z)/\((!mw (A i) (M i) (W i))=false->True/\Con PG 172 [rwN h n A M W,.i .i64 (A i)] [] q2 []/\(q9=true->K (.st .ret (zz0 (zz1 (.p 0 0) (zz1 (inv i) (zz0 (zzl q0) (zzl q2)) (zz1 q4 (zzl q2) (zzn i))) (zz1 (inv (fr (A i))) (zz1
 (inv n) (zzl q5) (zzn (to (A i)))) (zz1 q10 (zzl (.p 1 0)) .e))) (zz1 (.b false) (zz1 (.p 1 0) (zz1 q3 (zzl (.agg q1)) (zzn (fr (A i)))) (zz1 (inv i) (zzl q0) (zzl q8))) (zz1 (inv (to (A i))) (zz1 (inv i) (zzl q7) (zzn (fr (A i)))) (zz1 (.agg q1) (zzl (.i .i64 (A i))) .e)))) ⟨zz1 (AObj.cells 129 4 [] (zz1 (.i .i64 (h 0)) (zz1 (.i .i64 (h 1)) (zzl q3) .e) (zzl (.i .i64 (h 2))))) (zzl (AObj.cells 80 3 q6 (zz1 (.i .i64 (A i)) (zzl (.i .i64 (M i))) (zzl (.i .i64 (W i)))))) .e,2,[1,1]⟩) .z)/\(q9=false->rg (ofNat i+1)/\K (.st .nrm (zz0 (zz1 (.p 0 0) (zz1 (inv i) (zz0 (zzl q0) (zzl q2)) (zz1 q4 (zzl q2) (zzn i))) (zz1 (inv (fr (A i))) (zz1 (inv n) (zzl q5) (zzn (to (A i)))) (zz1 q10 (zzl (.p 1 0)) (zzl (.i .i64 (ofNat i+1)))))) (zz0 (zz1 (.p 1 0) (zz1 q3 (zzl (.agg q1)) (zzn (fr (A i)))) (zz1 (inv i) (zzl q0) (zzl q8))) (zz1 (inv (to (A i))) (zz1 (.i .i64 (ofNat i+1)) (zzl q7) (zzn (fr (A i)))) (zz1 (.agg q1) (zzl (.i .i64 (A i))) .e)))) ⟨zz1 (AObj.cells 129 4 [] (zz1 (.i .i64 (h 0)) (zz1 (.i .i64 (h 1)) (zzl q3) .e) (zzl (.i .i64 (h 2))))) (zzl (AObj.cells 80 3 q6 (zz1 (.i .i64 (A i)) (zzl (.i .i64 (M i))) (zzl (.i .i64 (W i)))))) .e,2,[1,1]⟩) .z)))/\(decide (ofNat i<ofNat n)=false->K (.st (.exit 0) (zz0 (zz1 (.p 0 0) (zz0 .e (zzl q4)) (zz0 (zzn n) .e)) (zz0 (zz0 (zzl q3) .e) (zz0 (zzn i) .e))) ⟨zzl (AObj.cells 129 4 [] (zz1 (.i .i64 (h 0)) (zz1 (.i .i64 (h 1)) (zzl q3) .e) (zzl (.i .i64 (h 2))))),1,[]⟩) .z))) (.agg [.i .i64 (h 0),.i
 .i64 (h 1),.i .i64 (h 2),.sv 3 n (qF A M W)]))) [.i .i64 (A i),.i .i64 (M i),.i .i64 (W i)])) (.tup [inv (fr (A i)),inv (to (A i))]))) (.sv 3 n (qF A M W)))) (.b (decide (ofNat i<ofNat n))))) (.b (mw (A i) (M i) (W i))))) [.i .i64 0,.i .i64 0,.i .i64 0])) (.b !mw (A i) (M i) (W i)))) (.b !decide (ofNat (fr (A i))=ofNat i)))) (!decide (ofNat (fr (A i))=ofNat i)))) (.pv 3 (qF A M W i))):=by kernel_rfl
theorem qmF_vc (h A M W:Nat->Int) (n:Nat) (K:Res->Orc->Prop):runK PG 1000000 (.call 126 [rwN h n A M W] (mkH [])) (.lop [0] [1,8,9,10] 1 .ret [(2,.b false)] [some (rwO h n A M W)] .z) K=(True/\LDoes PG (loopAt PG 126 0) 30 1 (mkT [(1,.p 0 0),(8,svN n A M W),(9,.i .i64 (ofNat n)),(10,.i .i64 0)]) [some (rwO h n A M W)] .ret (mkT [(2,.b false)]) [some (rwO h n A M W)]/\K (.rv (.b false) ⟨zzl (AObj.cells 129 4 [] (zz1 (.i .i64 (h 0)) (zz1 (.i .i64 (h 1)) (zzl (.sv 3 n (qF A M W))) .e) (zzl (.i .i64 (h 2))))),1,[0,0]⟩) .z):=by kernel_rfl
theorem qmT_vc (h A M W:Nat->Int) (n:Nat) (K:Res->Orc->Prop):runK PG 1000000 (.call 126 [rwN h n A M W] (mkH [])) (.lop [0] [1,8,9,10] 1 (.exit 0) [(1,.p 0 0)] [some (rwO h n A M W)] .z) K=(True/\LDoes PG (loopAt PG 126 0) 30 1 (mkT [(1,.p 0 0),(8,svN n A M W),(9,.i .i64 (ofNat n)),(10,.i .i64 0)]) [some (rwO h n A M W)] (.exit 0) (mkT [(1,.p 0 0)]) [some (rwO h n A M W)]/\K (.rv (.b true) ⟨zzl (AObj.cells 129 4 [] (zz1 (.i .i64 (h 0)) (zz1 (.i .i64 (h 1)) (zzl (.sv 3 n (qF A M W))) .e) (zzl (.i .i64 (h 2))))),1,[0,0]⟩) .z):=by kernel_rfl
theorem mayBe_vc (hm qm fc:Bool) (h A M W:Nat->Int) (n:Nat) (K:Res->Orc->Prop):runK PG 1000000 (.call 80 [rwN h n A M W] (mkH [])) (.cal [] (.b hm) [] (.s (.t (.cal [] (.b qm) [] (.t (.s (.t (.cal [] (.b fc) [] (.t (.t .z)))) (of_ 3 .z))))) (.f (.f (oc 4 .z))))) K=((fun (q0:AV)=>(Con PG 125 [rwN h n A M W] [] (.b hm) []/\(hm=true->hm=true/\Con PG 126 [rwN h n A M W] [] (.b qm) []/\hm=true/\(qm=true->qm=true/\Con PG 127 [rwN h n A M W] [] (.b fc) []/\qm=true/\True/\qm=true/\K (.rv (.b !fc) ⟨zzl (AObj.cells 129 4 [] (zz1 (.i .i64 (h 0)) (zz1 (.i .i64 (h 1)) (zzl q0) .e) (zzl (.i .i64 (h 2))))),1,[0]⟩) .z)/\(qm=false->qm=false/\qm=false/\qm=false/\K (.rv (.b false) ⟨zzl (AObj.cells 129 4 [] (zz1 (.i .i64 (h 0)) (zz1 (.i .i64 (h 1)) (zzl q0) .e) (zzl (.i .i64 (h 2))))),1,[0]⟩) .z))/\(hm=false->hm=false/\hm=false/\K (.rv (.b false) ⟨zzl (AObj.cells 129 4 [] (zz1 (.i .i64 (h 0)) (zz1 (.i .i64 (h 1)) (zzl q0) .e) (zzl (.i .i64 (h 2))))),1,[0]⟩) .z))) (.sv 3 n (qF A M W))):=by kernel_rfl
theorem hm_vc (md:Int->Bool) (gs:Int->Int->Bool) (h A M W:Nat->Int) (n:Nat) (K:Res->Orc->Prop):runK PG 1000000 (.call 125 [rwN h n A M W] (mkH [])) (.inl (oc 2 (.cal [] (.b (md (h 0))) [] (.s .z (.inl (.c (.inl (oc 2 (.cal [] (.b (md (h 1))) [] (.s .z (.inl (oc 2 (.cal [] (.b (gs (h 1) (h 0))) [] (.s .z (.inl (.c (.inl (oc 2 (.cal [] (.b (md (h 2))) [] (.s .z (.inl (oc 2 (.cal [] (.b (gs (h 2) (h 0))) [] (.s .z (.inl (oc 2 (.cal [] (.b (gs (h 2) (h 1))) [] (.s .z (.inl (.c (.inl (.c .z)))))))))))))))))))))))))))))))) K=((fun (q0:AV)=>(True/\Con PG 169 [.i .i64 (h 0)] [] (.b (md (h 0))) []/\True/\((!md (h 0))=true->K (.rv (.b false) ⟨zzl (AObj.cells 129 4 [] (zz1 (.i .i64 (h 0)) (zz1 (.i .i64 (h 1)) (zzl q0) .e) (zzl (.i .i64 (h 2))))),1,[0]⟩) .z)/\((!md (h 0))=false->True/\rg (1)/\Con PG 169 [.i .i64 (h 1)] [] (.b (md (h 1))) []/\True/\((!md (h 1))=true->K (.rv (.b false) ⟨zzl (AObj.cells 129 4 [] (zz1 (.i .i64 (h 0)) (zz1 (.i .i64 (h 1)) (zzl q0) .e) (zzl (.i .i64 (h 2))))),1,[0]⟩) .z)/\((!md (h 1))=false->True/\Con PG 170 [.i .i64 (h 1),.i .i64 (h 0)] [] (.b (gs (h 1) (h 0))) []/\True/\((!gs (h 1) (h 0))=true->K (.rv (.b false) ⟨zzl (AObj.cells 129 4 [] (zz1 (.i .i64 (h 0)) (zz1 (.i .i64 (h 1)) (zzl q0) .e) (zzl (.i .i64 (h 2))))),1,[0]⟩) .z)/\((!gs (h 1) (h 0))=false->rg (1)/\rg (2)/\Con PG 169 [.i .i64 (h 2)] [] (.b (md (h 2))) []/\True/\((!md (h 2))=true->K (.rv (.b false) ⟨zzl (AObj.cells 129 4 [] (zz1
 (.i .i64 (h 0)) (zz1 (.i .i64 (h 1)) (zzl q0) .e) (zzl (.i .i64 (h 2))))),1,[0]⟩) .z)/\((!md (h 2))=false->True/\Con PG 170 [.i .i64 (h 2),.i .i64 (h 0)] [] (.b (gs (h 2) (h 0))) []/\True/\((!gs (h 2) (h 0))=true->K (.rv (.b false) ⟨zzl (AObj.cells 129 4 [] (zz1 (.i .i64 (h 0)) (zz1 (.i .i64 (h 1)) (zzl q0) .e) (zzl (.i .i64 (h 2))))),1,[0]⟩) .z)/\((!gs (h 2) (h 0))=false->rg (1)/\Con PG 170 [.i .i64 (h 2),.i .i64 (h 1)] [] (.b (gs (h 2) (h 1))) []/\True/\((!gs (h 2) (h 1))=true->K (.rv (.b false) ⟨zzl (AObj.cells 129 4 [] (zz1 (.i .i64 (h 0)) (zz1 (.i .i64 (h 1)) (zzl q0) .e) (zzl (.i .i64 (h 2))))),1,[0]⟩) .z)/\((!gs (h 2) (h 1))=false->rg (2)/\rg (3)/\K (.rv (.b true) ⟨zzl (AObj.cells 129 4 [] (zz1 (.i .i64 (h 0)) (zz1 (.i .i64 (h 1)) (zzl q0) .e) (zzl (.i .i64 (h 2))))),1,[0]⟩) .z)))))))) (.sv 3 n (qF A M W))):=by kernel_rfl
theorem goR_vc (n1:Nat) (A1 M1 W1 h A M W:Nat->Int) (n:Nat) (K:Res->Orc->Prop):runK PG 1000000 (.code (loopAt PG 198 0) 21 (mkT [(1,.p 0 0),(2,.p 1 0)]) (mkH [some (rwO h n A M W),some rz])) (.cal [] (.b true) [] (.c (.s (.cal [] (svN n1 A1 M1 W1) [] .z) .z))) K=(Con PG 127 [rwN h n A M W] [] (.b true) []/\True/\((0:Int)<=(0:Int)/\(0:Int)<↑n)/\True/\True/\True/\True/\(0<=A 0/\A 0<3)/\Int.toNat (A 0)<3/\True/\Con PG 199 [svN n A M W,.i .i64 0,.i .i64 1,.l0] [] (svN n1 A1 M1 W1) []/\True/\K (.st .nrm (zz0 (zz1 (.p 0 0) (zz1 (.p 2 0) (zz1 (.sv 3 n (qF A M W)) (zzl (.ps 0 0 1 3 (Int.toNat (A 0)))) .e) (zz1 (.i .i64 (A 0)) (zzl (.p 0 3)) .e)) (zz1 (.b true) (zz1 (.agg [.i .i64 (A 0),.i .i64 (M 0),.i .i64 (W 0)]) (zzl (.sv 3 n (qF A M W))) .e) (zzl (.i .i64 (M 0))))) (zz1 (.p 1 0) (zz1 (.agg [.i .i64 (h 0),.i .i64 (h 1),.i .i64 (h 2),.sv 3 n (qF A M W)]) (zz1 (.pv 3 (qF A M W 0)) (zzl (.p 0 3)) .e) (zzl (.p 2 1))) (zz1 (.p 0 3) (zz1 (.p 2 0) (zzl (.sv 3 n1 (qF A1 M1 W1))) .e) (zzl (.p 0 0))))) ⟨zz1 (AObj.cells 129 4 [] (zz1 (.i .i64 (bif Nat.beq (Int.toNat (A 0)) 0 then M 0 else h 0)) (zz1 (.i .i64 (bif Nat.beq (Int.toNat (A 0)) 1 then M 0 else h 1)) (zzl (.sv 3 n1 (qF A1 M1 W1))) .e) (zzl (.i .i64 (bif Nat.beq (Int.toNat (A 0)) 2 then M 0 else h 2))))) (zzl (AObj.cells 129 4 [.i .i64 0,.i .i64 0,.i .i64 0,.l0] .e)) (zzl (AObj.cells 80 3 [.i .i64 0,.i .i64 0,.i .i64 0] (zz1 (.i .i64 (A 0)) (zzl (.i .i64 (M 0))) (zzl (.i
 .i64 (W 0)))))),3,[0,0,2,2]⟩) .z):=by kernel_rfl
theorem goE_vc (h A M W:Nat->Int) (n:Nat) (K:Res->Orc->Prop):runK PG 1000000 (.code (loopAt PG 198 0) 21 (mkT [(1,.p 0 0),(2,.p 1 0)]) (mkH [some (rwO h n A M W),some rz])) (.cal [] (.b false) [] (.c .z)) K=(Con PG 127 [rwN h n A M W] [] (.b false) []/\K (.st (.exit 0) (zz0 (zz1 (.p 0 0) .e (zzl (.b false))) (zz1 (.p 1 0) (zzl (.agg [.i .i64 (h 0),.i .i64 (h 1),.i .i64 (h 2),.sv 3 n (qF A M W)])) .e)) ⟨zz1 (AObj.cells 129 4 [] (zz1 (.i .i64 (h 0)) (zz1 (.i .i64 (h 1)) (zzl (.sv 3 n (qF A M W))) .e) (zzl (.i .i64 (h 2))))) (zzl (AObj.cells 129 4 [.i .i64 0,.i .i64 0,.i .i64 0,.l0] .e)) .e,2,[]⟩) .z):=by kernel_rfl
theorem goneOn_vc (n1:Nat) (A1 M1 W1 h1 h A M W:Nat->Int) (n:Nat) (K:Res->Orc->Prop):runK PG 1000000 (.call 198 [rwN h n A M W] (mkH [])) (.lop [0,1] [1,2] 2 (.exit 0) [(1,.p 0 0),(2,.p 1 0)] [some (rwO h1 n1 A1 M1 W1),some rz] .z) K=(LDoes PG (loopAt PG 198 0) 21 2 (mkT [(1,.p 0 0),(2,.p 1 0)]) [some (rwO h n A M W),some rz] (.exit 0) (mkT [(1,.p 0 0),(2,.p 1 0)]) [some (rwO h1 n1 A1 M1 W1),some rz]/\K (.rv (.agg [.i .i64 (h1 0),.i .i64 (h1 1),.i .i64 (h1 2),.sv 3 n1 (qF A1 M1 W1)]) ⟨zz1 (AObj.cells 129 4 [] (zz1 (.i .i64 (h1 0)) (zz1 (.i .i64 (h1 1)) (zzl (.sv 3 n1 (qF A1 M1 W1))) .e) (zzl (.i .i64 (h1 2))))) (zzl (AObj.cells 129 4 [.i .i64 0,.i .i64 0,.i .i64 0,.l0] (zz1 (.i .i64 (h1 0)) (zz1 (.i .i64 (h1 1)) (zzl (.sv 3 n1 (qF A1 M1 W1))) .e) (zzl (.i .i64 (h1 2)))))) .e,2,[1,1,0,1,0]⟩) .z):=by kernel_rfl
theorem concat1_vc (A M W:Nat->Int) (xx yy zz:Int) (n f t:Nat) (h1:decide (f<=n)=true) (h2:decide (t<=n)=true) (K:Res->Orc->Prop):runK PG 1000000 (.call 199 [svN n A M W,inv f,inv t,.sv 3 1 (qF (fun _=>xx) (fun _=>yy) (fun _=>zz))] (mkH [])) (.inl (.inl (oc 3 (.inl (oc 3 (.inl (oc 3 (.inl (.c (.inl (.c (.s (.inl (oc 2 (.inl (oc 2 (.inl (oc 2 (.inl (.c .z)))))))) (.inl (oc 2 (.inl (oc 2 (.inl (oc 2 (.inl (.c .z)))))))))))))))))))) K=((fun (q0:Nat->Nat->CV)=>((True/\0<=ofNat f/\0<=f/\f<=n)/\(0<=ofNat t/\True/\t<=n/\n<=n)/\rg (0+ofNat f)/\rg (1)/\rg (0+ofNat f+1)/\rg (2)/\rg (0+ofNat f+1+ofNat (n-t))/\rg (3)/\rg (0)/\rg (0+ofNat f+1+ofNat (n-t)-0)/\(decide ((0:Int)<(0:Int)+ofNat f+1+ofNat (n-t)-0)=true->(True/\(0:Int)<=(0:Int)+ofNat f+1+ofNat (n-t)-0/\0+Int.toNat (0+ofNat f+1+ofNat (n-t)-0)<=140737488355328/\(3*(0+Int.toNat (0+ofNat f+1+ofNat (n-t)-0))+1536)*24<=562949953421312)/\(True/\(0:Int)<=(0:Int)/\0<=0/\0<=Int.toNat (0+ofNat f+1+ofNat (n-t)-0)/\(0=0\/0<Int.toNat (0+ofNat f+1+ofNat (n-t)-0)))/\(0<=Int.toNat (0+ofNat f+1+ofNat (n-t)-0)/\True/\0+f<=140737488355328/\(3*(0+f)+1536)*24<=562949953421312)/\rg (1)/\(0+f<=f/\True/\f+1<=140737488355328/\(3*(f+1) +
 1536)*24<=562949953421312)/\rg (2)/\(0+addN f 1<=addN f 1/\True/\addN f 1+(n-t)<=140737488355328/\(3*(addN f 1+(n-t))+1536)*24<=562949953421312)/\rg (3)/\K (.rv (.lr 4 3 0 (addN (addN f 1) (n-t)) false) ⟨zz1 (AObj.cells 27 3 [] (zz1 (.sv 3 f (qF A M W)) (zzl (.sv 3 1 (qF (fun x=>xx) (fun x=>yy) fun x=>zz))) (zzl (.sv 3 (n-t) q0)))) (zz0 (zz0 .e .e) .e) (zz0 (zzl (AObj.rows 80 3 (addN (addN f 1) (n-t)) (appZ (addN f 1) (appZ f (qF A M W) (qF (fun x=>xx) (fun x=>yy) fun x=>zz)) q0))) .e),5,[4,3,3,2,2,1,1,0]⟩) .z)/\(decide ((0:Int)<(0:Int)+ofNat f+1+ofNat (n-t)-0)=false->(True/\True/\0+f<=140737488355328/\(3*(0+f)+1536)*24<=562949953421312)/\rg (1)/\(0+f<=f/\True/\f+1<=140737488355328/\(3*(f+1)+1536)*24<=562949953421312)/\rg (2)/\(0+addN f 1<=addN f 1/\True/\addN f 1+(n-t)<=140737488355328/\(3*(addN f 1+(n-t))+1536)*24<=562949953421312)/\rg (3)/\K (.rv (.lr 3 3 0 (addN (addN f 1) (n-t)) false) ⟨zz1 (AObj.cells 27 3 [] (zz1 (.sv 3 f (qF A M W)) (zzl (.sv 3 1 (qF (fun x=>xx) (fun x=>yy) fun x=>zz))) (zzl (.sv 3 (n-t) q0)))) (zz0 (zzl (AObj.rows 80 3 (addN (addN f 1) (n-t)) (appZ (addN f 1) (appZ f (qF A M W) (qF (fun x=>xx) (fun x=>yy) fun x=>zz)) q0))) .e) (zz0 .e .e),4,[3,2,2,1,1,0]⟩) .z))) (shiftF t (qF A M W))):=by kernel_rfl
theorem concat0_vc (A M W:Nat->Int) (n f t:Nat) (h1:decide (f<=n)=true) (h2:decide (t<=n)=true) (K:Res->Orc->Prop):runK PG 1000000 (.call 199 [svN n A M W,inv f,inv t,.sv 3 0 (qF (fun _=>0) (fun _=>0) (fun _=>0))] (mkH [])) (.inl (.inl (oc 3 (.inl (oc 3 (.inl (oc 3 (.inl (.c (.inl (.c (.s (.inl (oc 2 (.inl (oc 2 (.inl (oc 2 (.inl (.c .z)))))))) (.inl (oc 2 (.inl (oc 2 (.inl (oc 2 (.inl (.c .z)))))))))))))))))))) K=((fun (q0:Nat->Nat->CV)=>((True/\0<=ofNat f/\0<=f/\f<=n)/\(0<=ofNat t/\True/\t<=n/\n<=n)/\rg (0+ofNat f)/\rg (1)/\rg (0+ofNat f+0)/\rg (2)/\rg (0+ofNat f+0+ofNat (n-t))/\rg (3)/\rg (0)/\rg (0+ofNat f+0+ofNat (n-t)-0)/\(decide ((0:Int)<(0:Int)+ofNat f+0+ofNat (n-t)-0)=true->(True/\(0:Int)<=(0:Int)+ofNat f+0+ofNat (n-t)-0/\0+Int.toNat (0+ofNat f+0+ofNat (n-t)-0)<=140737488355328/\(3*(0+Int.toNat (0+ofNat f+0+ofNat (n-t)-0))+1536)*24<=562949953421312)/\(True/\(0:Int)<=(0:Int)/\0<=0/\0<=Int.toNat (0+ofNat f+0+ofNat (n-t)-0)/\(0=0\/0<Int.toNat (0+ofNat f+0+ofNat (n-t)-0)))/\(0<=Int.toNat (0+ofNat f+0+ofNat (n-t)-0)/\True/\0+f<=140737488355328/\(3*(0+f)+1536)*24<=562949953421312)/\rg (1)/\(0+f<=f/\True/\f<=140737488355328/\(3*f+1536)*24<=562949953421312)/\
 rg (2)/\(0+addN f 0<=addN f 0/\True/\addN f 0+(n-t)<=140737488355328/\(3*(addN f 0+(n-t))+1536)*24<=562949953421312)/\rg (3)/\K (.rv (.lr 4 3 0 (addN (addN f 0) (n-t)) false) ⟨zz1 (AObj.cells 27 3 [] (zz1 (.sv 3 f (qF A M W)) (zzl (.sv 3 0 (qF (fun x=>0) (fun x=>0) fun x=>0))) (zzl (.sv 3 (n-t) q0)))) (zz0 (zz0 .e .e) .e) (zz0 (zzl (AObj.rows 80 3 (addN (addN f 0) (n-t)) (appZ (addN f 0) (appZ f (qF A M W) (qF (fun x=>0) (fun x=>0) fun x=>0)) q0))) .e),5,[4,3,3,2,2,1,1,0]⟩) .z)/\(decide ((0:Int)<(0:Int)+ofNat f+0+ofNat (n-t)-0)=false->(True/\True/\0+f<=140737488355328/\(3*(0+f)+1536)*24<=562949953421312)/\rg (1)/\(0+f<=f/\True/\f<=140737488355328/\(3*f+1536)*24<=562949953421312)/\rg (2)/\(0+addN f 0<=addN f 0/\True/\addN f 0+(n-t)<=140737488355328/\(3*(addN f 0+(n-t))+1536)*24<=562949953421312)/\rg (3)/\K (.rv (.lr 3 3 0 (addN (addN f 0) (n-t)) false) ⟨zz1 (AObj.cells 27 3 [] (zz1 (.sv 3 f (qF A M W)) (zzl (.sv 3 0 (qF (fun x=>0) (fun x=>0) fun x=>0))) (zzl (.sv 3 (n-t) q0)))) (zz0 (zzl (AObj.rows 80 3 (addN (addN f 0) (n-t)) (appZ (addN f 0) (appZ f (qF A M W) (qF (fun x=>0) (fun x=>0) fun x=>0)) q0))) .e) (zz0 .e .e),4,[3,2,2,1,1,0]⟩) .z))) (shiftF t (qF A M W))):=by kernel_rfl
theorem hm_con (h A M W:Nat->Int) (n:Nat):Con PG 125 [rwN h n A M W] [] (.b (hmB h)) []:=by
 refine con_plain rfl ((hm_vc isModeB goesB _ _ _ _ _ _).mpr ?_)
 repeat' first | exact trivial | assumption | exact isMode_con _ | exact goes_con _ _ | (refine ⟨_,_,rfl,?_⟩) | apply And.intro | intro _
 all_goals (first | decide | simp_all [hmB])
theorem qmB_s (h:Nat->Int) (n:Nat) (A M W:Nat->Int) (m i:Nat):qmB h n A M W (m+1) i=(mayWaitB h (A i) (M i) (W i) && (decide (fi n A (A i)=i) && qmB h n A M W m (i+1))):=rfl
theorem qmF_lp (h A M W:Nat->Int) (n:Nat) (hn:n<=1152921504606846976) (hq:qmB h n A M W n 0=false):LDoes PG (loopAt PG 126 0) 30 1 (mkT [(1,.p 0 0),(8,svN n A M W),(9,.i .i64 (ofNat n)),(10,.i .i64 0)]) [some (rwO h n A M W)] .ret (mkT [(2,.b false)]) [some (rwO h n A M W)]:=by
 refine loop_ind (fun i:Nat=>([(1,.p 0 0),(8,svN n A M W),(9,.i .i64 (ofNat n)),(10,.i .i64 (ofNat i))],[some (rwO h n A M W)])) (fun i=>n-i) (fun i=>i<=n/\qmB h n A M W (n-i) i=false) ?_ 0 ⟨Nat.zero_le _,hq⟩
 intro i ⟨hi,hf⟩
 refine ⟨Nat.le_refl _,?_⟩
 have hlt:i<n:=by
  apply Classical.byContradiction
  intro c
  rw [show n-i=0 by omega] at hf
  cases hf
 rw [show n-i=(n-(i+1))+1 by omega,qmB_s] at hf
 refine ⟨_,_,(qmR_vc (mayWaitB h) (fi n A) (ti n A) h A M W n i _).mpr ⟨fun _=>⟨⟨by simp,by simp<;>omega⟩,trivial,mayWait_con _ _ _ _ _ _ _ _,trivial,fun h1=>?_,fun h1=>⟨trivial,stretch_con _ _ _ _ _ _ hn,fun h2=>?_,fun h2=>⟨⟨by simp<;>omega,by simp<;>omega⟩,?_⟩⟩⟩,fun h1=>?_⟩⟩
 · exact .inr ⟨[0],[],_,_,rfl,by simp,st_k [0] (by kernel_rfl)⟩
 · exact .inr ⟨[0],[],_,_,rfl,by simp,st_k [0] (by kernel_rfl)⟩
 · refine .inl ⟨i+1,[0],[],_,_,⟨by omega,?_⟩,(by show n-(i+1)<n-i;omega),rfl,st_k [0] (by kernel_rfl)⟩
   simp at h1 h2
   rw [h1] at hf
   simp at hf
   exact hf (by omega)
 · simp at h1;omega
theorem qmT_lp (h A M W:Nat->Int) (n:Nat) (hn:n<=1152921504606846976) (hq:qmB h n A M W n 0=true):LDoes PG (loopAt PG 126 0) 30 1 (mkT [(1,.p 0 0),(8,svN n A M W),(9,.i .i64 (ofNat n)),(10,.i .i64 0)]) [some (rwO h n A M W)] (.exit 0) (mkT [(1,.p 0 0)]) [some (rwO h n A M W)]:=by
 refine loop_ind (fun i:Nat=>([(1,.p 0 0),(8,svN n A M W),(9,.i .i64 (ofNat n)),(10,.i .i64 (ofNat i))],[some (rwO h n A M W)])) (fun i=>n-i) (fun i=>i<=n/\qmB h n A M W (n-i) i=true) ?_ 0 ⟨Nat.zero_le _,hq⟩
 intro i ⟨hi,hf⟩
 refine ⟨Nat.le_refl _,?_⟩
 refine ⟨_,_,(qmR_vc (mayWaitB h) (fi n A) (ti n A) h A M W n i _).mpr ⟨fun h0=>?_,fun h1=>?_⟩⟩
 · have hlt:i<n:=by simpa using h0
   rw [show n-i=(n-(i+1))+1 by omega,qmB_s] at hf
   simp only [Bool.and_eq_true,decide_eq_true_eq] at hf
   obtain ⟨f1,f2,f3⟩:=hf
   refine ⟨⟨by simp,by simp<;>omega⟩,trivial,mayWait_con _ _ _ _ _ _ _ _,trivial,fun h1=>?_,fun h1=>⟨trivial,stretch_con _ _ _ _ _ _ hn,fun h2=>?_,fun h2=>⟨⟨by simp<;>omega,by simp<;>omega⟩,?_⟩⟩⟩
   · rw [f1] at h1;cases h1
   · rw [f2] at h2;simp at h2
   · exact .inl ⟨i+1,[0],[],_,_,⟨by omega,f3⟩,(by show n-(i+1)<n-i;omega),rfl,st_k [0] (by kernel_rfl)⟩
 · exact .inr ⟨[0],[],_,_,rfl,by simp,st_k [0] (by kernel_rfl)⟩
theorem qm_con (h A M W:Nat->Int) (n:Nat) (hn:n<=1152921504606846976):Con PG 126 [rwN h n A M W] [] (.b (qmB h n A M W n 0)) []:=by
 cases hq:qmB h n A M W n 0 with
 | false=>exact con_plain rfl ((qmF_vc _ _ _ _ _ _).mpr ⟨trivial,qmF_lp h A M W n hn hq,_,_,rfl,rfl⟩)
 | true=>exact con_plain rfl ((qmT_vc _ _ _ _ _ _).mpr ⟨trivial,qmT_lp h A M W n hn hq,_,_,rfl,rfl⟩)
theorem mayBe_con (h A M W:Nat->Int) (n:Nat) (hn:n<=1152921504606846976):Con PG 80 [rwN h n A M W] [] (.b (mayBeB h n A M W)) []:=by
 refine con_plain rfl ((mayBe_vc (hmB h) (qmB h n A M W n 0) (fcB h n A M) _ _ _ _ _ _).mpr ?_)
 repeat' first | exact trivial | assumption | exact hm_con _ _ _ _ _ | exact qm_con _ _ _ _ _ hn | exact fc_con _ _ _ _ _ | (refine ⟨_,_,rfl,?_⟩) | apply And.intro | intro _
 all_goals simp_all [mayBeB]
theorem qA_lt {q:List HQ} {i:Nat} (h:i<q.length):qA q i=q[i].a:=by unfold qA;rw [List.getD_eq_getElem?_getD,List.getElem?_eq_getElem h];rfl
theorem qF_eq {q q':List HQ} {i i' j:Nat} (e:q.getD i hz=q'.getD i' hz):qF (qA q) (qM q) (qW q) i j=qF (qA q') (qM q') (qW q') i' j:=by
 have a:qA q i=qA q' i':=by unfold qA;rw [e]
 have b:qM q i=qM q' i':=by unfold qM;rw [e]
 have c:qW q i=qW q' i':=by unfold qW;rw [e]
 unfold qF
 rw [a,b,c]
theorem apq {n i j i0 i1:Nat} {f g:Nat->Nat->CV} {A M W A' M' W':Nat->Int} (h1:∀j,f i j=qF A M W i0 j) (h2:∀j,g (i-n) j=qF A' M' W' i1 j):appZ n f g i j=if i<n then qF A M W i0 j else qF A' M' W' i1 j:=by
 match j with
 | 0=>rw [appZ_i (k:=.i64) (a:=A i0) (b:=A' i1) (h1 0) (h2 0)];split<;>rfl
 | 1=>rw [appZ_i (k:=.i64) (a:=M i0) (b:=M' i1) (h1 1) (h2 1)];split<;>rfl
 | k+2=>rw [appZ_i (k:=.i64) (a:=W i0) (b:=W' i1) (h1 (k+2)) (h2 (k+2))];split<;>rfl
theorem qF_c {q':List HQ} {i' j:Nat}:qF (fun _=>qA q' i') (fun _=>qM q' i') (fun _=>qW q' i') 0 j=qF (qA q') (qM q') (qW q') i' j:=rfl
theorem qF_one (x:HQ) (j:Nat):qF (fun _=>x.a) (fun _=>x.m) (fun _=>x.w) 0 j=qF (qA [x]) (qM [x]) (qW [x]) 0 j:=rfl
theorem spl1_con (q:List HQ) (x:HQ) (f t:Nat) (hq:q.length<=1000) (hf:f<=q.length) (ht:t<=q.length):Con PG 199 [svQ q,.i .i64 (ofNat f),.i .i64 (ofNat t),.sv 3 1 (qF (fun _=>x.a) (fun _=>x.m) (fun _=>x.w))] [] (svQ (q.take f ++ x :: q.drop t)) []:=by
 have h1:decide (f<=q.length)=true:=by simpa using hf
 have h2:decide (t<=q.length)=true:=by simpa using ht
 have e1:Int.toNat ((0:Int)+ofNat f+(1:Int)+ofNat (q.length-t)-(0:Int))=f+1+(q.length-t):=by simp<;>omega
 have h0:Con PG 199 [svQ q,.i .i64 (ofNat f),.i .i64 (ofNat t),.sv 3 1 (qF (fun _=>x.a) (fun _=>x.m) (fun _=>x.w))] [] (.sv 3 (addN (addN f 1) (q.length-t)) (shiftF 0 (appZ (addN f 1) (appZ f (qF (qA q) (qM q) (qW q)) (qF (fun _=>x.a) (fun _=>x.m) (fun _=>x.w))) (shiftF t (qF (qA q) (qM q) (qW q)))))) []:=by
  refine con_of_run [4] [] ((concat1_vc _ _ _ _ _ _ _ _ _ h1 h2 _).mpr ?_)
  rw [e1]
  refine ⟨⟨trivial,by simp,by omega,hf⟩,⟨by simp,trivial,ht,Nat.le_refl _⟩,⟨by simp<;>omega,by simp<;>omega⟩,⟨by decide,by decide⟩,⟨by simp<;>omega,by simp<;>omega⟩,⟨by decide,by decide⟩,⟨by simp<;>omega,by simp<;>omega⟩,⟨by decide,by decide⟩,⟨by decide,by decide⟩,⟨by simp<;>omega,by simp<;>omega⟩,fun _=>?_,fun h3=>?_⟩
  · refine ⟨⟨trivial,by simp<;>omega,by omega,by omega⟩,⟨trivial,by decide,by decide,by omega,.inl rfl⟩,⟨by omega,trivial,by omega,by omega⟩,⟨by decide,by decide⟩,⟨by omega,trivial,by omega,by omega⟩,⟨by decide,by decide⟩,⟨by rw [addN_eq];omega,trivial,by rw [addN_eq];omega,by rw [addN_eq];omega⟩,⟨by decide,by decide⟩,_,_,rfl,?_⟩
    exact ret_fz [4] ((3=3/\0+addN (addN f 1) (q.length-t)<=addN (addN f 1) (q.length-t))/\True) (by kernel_rfl) (by kernel_rfl) ⟨⟨rfl,by omega⟩,trivial⟩ (by kernel_rfl) rfl (by kernel_rfl) (by kernel_rfl) rfl trivial
  · simp at h3;omega
 have h4:=h0.post (v':=svQ (q.take f ++ x :: q.drop t)) (us':=[]) ?_ trivial
 · exact h4
 · have el:addN (addN f 1) (q.length-t)=(q.take f ++ x :: q.drop t).length:=by simp [addN_eq];omega
   rw [el]
   refine VW.sv fun i j hi hj=>?_
   have hl:(q.take f ++ x :: q.drop t).length=f+1+(q.length-t):=by simp<;>omega
   rw [hl] at hi
   rw [shiftF_eq,Nat.zero_add,addN_eq]
   have hin:∀j,appZ f (qF (qA q) (qM q) (qW q)) (qF (fun _=>x.a) (fun _=>x.m) (fun _=>x.w)) i j=qF (fun _=>if i<f then qA q i else x.a) (fun _=>if i<f then qM q i else x.m) (fun _=>if i<f then qW q i else x.w) 0 j:=by
    intro j
    rw [apq (fun _=>rfl) (fun _=>rfl)]
    by_cases c:i<f
    · simp only [if_pos c];rfl
    · simp only [if_neg c];rfl
   rw [apq hin (i1:=t+(i-(f+1))) (fun j=>shiftF_eq _ _ _ _)]
   by_cases c:i<f
   · simp only [if_pos c]
     rw [if_pos (by omega)]
     refine (qF_c (q':=q) (i':=i)).trans (qF_eq ?_)
     simp only [List.getD_eq_getElem?_getD,List.getElem?_append,List.getElem?_take,List.length_take]
     rw [if_pos (by omega),if_pos c]
   · simp only [if_neg c]
     by_cases d:i=f
     · rw [if_pos (by omega)]
       refine (qF_one x j).trans (qF_eq ?_)
       simp only [List.getD_eq_getElem?_getD,List.getElem?_append,List.length_take]
       rw [if_neg (by omega),show i-min f q.length=0 by omega]
       rfl
     · rw [if_neg (by omega)]
       apply qF_eq
       simp only [List.getD_eq_getElem?_getD,List.getElem?_append,List.length_take]
       rw [if_neg (by omega),show i-min f q.length=(i-(f+1))+1 by omega,List.getElem?_cons_succ,List.getElem?_drop]
theorem spl0_con (q:List HQ) (f t:Nat) (hq:q.length<=1000) (hf:f<=q.length) (ht:t<=q.length):Con PG 199 [svQ q,.i .i64 (ofNat f),.i .i64 (ofNat t),.l0] [] (svQ (q.take f ++ q.drop t)) []:=by
 have h1:decide (f<=q.length)=true:=by simpa using hf
 have h2:decide (t<=q.length)=true:=by simpa using ht
 have e1:Int.toNat ((0:Int)+ofNat f+(0:Int)+ofNat (q.length-t)-(0:Int))=f+(q.length-t):=by simp<;>omega
 have h0:Con PG 199 [svQ q,.i .i64 (ofNat f),.i .i64 (ofNat t),.sv 3 0 (qF (fun _=>0) (fun _=>0) (fun _=>0))] [] (.sv 3 (addN (addN f 0) (q.length-t)) (shiftF 0 (appZ (addN f 0) (appZ f (qF (qA q) (qM q) (qW q)) (qF (fun _=>0) (fun _=>0) (fun _=>0))) (shiftF t (qF (qA q) (qM q) (qW q)))))) []:=by
  by_cases hz:f+(q.length-t)=0
  · refine con_of_run [3] [] ((concat0_vc _ _ _ _ _ _ h1 h2 _).mpr ?_)
    rw [e1]
    refine ⟨⟨trivial,by simp,by omega,hf⟩,⟨by simp,trivial,ht,Nat.le_refl _⟩,⟨by simp<;>omega,by simp<;>omega⟩,⟨by decide,by decide⟩,⟨by simp<;>omega,by simp<;>omega⟩,⟨by decide,by decide⟩,⟨by simp<;>omega,by simp<;>omega⟩,⟨by decide,by decide⟩,⟨by decide,by decide⟩,⟨by simp<;>omega,by simp<;>omega⟩,fun h3=>?_,fun _=>?_⟩
    · simp at h3;omega
    · refine ⟨⟨trivial,trivial,by omega,by omega⟩,⟨by decide,by decide⟩,⟨by omega,trivial,by omega,by omega⟩,⟨by decide,by decide⟩,⟨by rw [addN_eq];omega,trivial,by rw [addN_eq];omega,by rw [addN_eq];omega⟩,⟨by decide,by decide⟩,_,_,rfl,?_⟩
      exact ret_fz [3] ((3=3/\0+addN (addN f 0) (q.length-t)<=addN (addN f 0) (q.length-t))/\True) (by kernel_rfl) (by kernel_rfl) ⟨⟨rfl,by omega⟩,trivial⟩ (by kernel_rfl) rfl (by kernel_rfl) (by kernel_rfl) rfl trivial
  · refine con_of_run [4] [] ((concat0_vc _ _ _ _ _ _ h1 h2 _).mpr ?_)
    rw [e1]
    refine ⟨⟨trivial,by simp,by omega,hf⟩,⟨by simp,trivial,ht,Nat.le_refl _⟩,⟨by simp<;>omega,by simp<;>omega⟩,⟨by decide,by decide⟩,⟨by simp<;>omega,by simp<;>omega⟩,⟨by decide,by decide⟩,⟨by simp<;>omega,by simp<;>omega⟩,⟨by decide,by decide⟩,⟨by decide,by decide⟩,⟨by simp<;>omega,by simp<;>omega⟩,fun _=>?_,fun h3=>?_⟩
    · refine ⟨⟨trivial,by simp<;>omega,by omega,by omega⟩,⟨trivial,by decide,by decide,by omega,.inl rfl⟩,⟨by omega,trivial,by omega,by omega⟩,⟨by decide,by decide⟩,⟨by omega,trivial,by omega,by omega⟩,⟨by decide,by decide⟩,⟨by rw [addN_eq];omega,trivial,by rw [addN_eq];omega,by rw [addN_eq];omega⟩,⟨by decide,by decide⟩,_,_,rfl,?_⟩
      exact ret_fz [4] ((3=3/\0+addN (addN f 0) (q.length-t)<=addN (addN f 0) (q.length-t))/\True) (by kernel_rfl) (by kernel_rfl) ⟨⟨rfl,by omega⟩,trivial⟩ (by kernel_rfl) rfl (by kernel_rfl) (by kernel_rfl) rfl trivial
    · simp at h3;omega
 have h4:=(h0.pre (pargs':=[svQ q,.i .i64 (ofNat f),.i .i64 (ofNat t),.l0]) ⟨.refl _,.refl _,.refl _,VW.nil _ _,trivial⟩).post (v':=svQ (q.take f ++ q.drop t)) (us':=[]) ?_ trivial
 · exact h4
 · have el:addN (addN f 0) (q.length-t)=(q.take f ++ q.drop t).length:=by simp [addN_eq];omega
   rw [el]
   refine VW.sv fun i j hi hj=>?_
   have hl:(q.take f ++ q.drop t).length=f+(q.length-t):=by simp<;>omega
   rw [hl] at hi
   rw [shiftF_eq,Nat.zero_add,addN_eq,Nat.add_zero]
   have hin:∀j,appZ f (qF (qA q) (qM q) (qW q)) (qF (fun _=>0) (fun _=>0) (fun _=>0)) i j=qF (fun _=>if i<f then qA q i else 0) (fun _=>if i<f then qM q i else 0) (fun _=>if i<f then qW q i else 0) 0 j:=by
    intro j
    rw [apq (fun _=>rfl) (fun _=>rfl)]
    by_cases c:i<f
    · simp only [if_pos c];rfl
    · simp only [if_neg c];rfl
   rw [apq hin (i1:=t+(i-f)) (fun j=>shiftF_eq _ _ _ _)]
   by_cases c:i<f
   · simp only [if_pos c]
     refine (qF_c (q':=q) (i':=i)).trans (qF_eq ?_)
     simp only [List.getD_eq_getElem?_getD,List.getElem?_append,List.getElem?_take,List.length_take]
     rw [if_pos (by omega),if_pos c]
   · simp only [if_neg c]
     apply qF_eq
     simp only [List.getD_eq_getElem?_getD,List.getElem?_append,List.length_take]
     rw [if_neg (by omega),show i-min f q.length=i-f by omega,List.getElem?_drop]
set_option maxRecDepth 20000
theorem freed_vc (fr to n1:Nat) (A1 M1 W1 h A M W:Nat->Int) (n:Nat) (k:Int) (K:Res->Orc->Prop):runK PG 1000000 (.call 193 [rwN h n A M W,.i .i64 k] (mkH [])) (.s (.cal [] (.tup [inv fr,inv to]) [] (.cal [] (svN n1 A1 M1 W1) [] .z)) .z) K=((fun (q2:AV)=>((fun (q1:AV)=>((fun (q0:AV)=>(True/\(0<=k/\k<3)/\Int.toNat k<3/\Con PG 172 [.agg [.i .i64 (bif Nat.beq (Int.toNat k) 0 then 0 else h 0),.i .i64 (bif Nat.beq (Int.toNat k) 1 then 0 else h 1),.i .i64 (bif Nat.beq (Int.toNat k) 2 then 0 else h 2),svN n A M W],.i .i64 k] [] (.tup [inv fr,inv to]) []/\True/\Con PG 199 [svN n A M W,inv fr,inv to,.l0] [] (svN n1 A1 M1 W1) []/\True/\K (.rv (.agg [.i .i64 (bif Nat.beq (Int.toNat k) 0 then 0 else h 0),.i .i64 (bif Nat.beq (Int.toNat k) 1 then 0 else h 1),.i .i64 (bif Nat.beq (Int.toNat k) 2 then 0 else h 2),.sv 3 n1 (qF A1 M1 W1)]) ⟨zz1 (AObj.cells 129 4 [] (zz1 q0 (zz1 q1 (zzl (.sv 3 n1 (qF A1 M1 W1))) .e) (zzl q2))) (zzl (AObj.cells 129 4 [.i .i64 0,.i .i64 0,.i .i64 0,.l0] (zz1 q0 (zz1 q1 (zzl (.sv 3 n1 (qF A1 M1 W1))) .e) (zzl q2)))) .e,2,[1,0,0,1,0]⟩) .z)) (.i .i64 (bif Nat.beq (Int.toNat k) 0 then 0 else h 0)))) (.i .i64 (bif Nat.beq (Int.toNat k) 1 then 0 else h 1)))) (.i .i64 (bif Nat.beq (Int.toNat k) 2 then 0 else h 2))):=by kernel_rfl
theorem ak_vc (h A0 M0 W0:Nat->Int) (n fr to m i:Nat) (A M W:Nat->Int) (k mode hs:Int) (h1:decide (ofNat i<ofNat m)=true) (K:Res->Orc->Prop):runK PG 1000000 (.code (loopAt PG 192 0) 49 (mkT [(1,.i .i64 k),(2,.i .i64 mode),(3,.p 0 0),(6,.p 1 0),(8,.i .i64 (ofNat fr)),(9,.i .i64 (ofNat to)),(7,.i .i64 hs),(26,svN m A M W),(27,.i .i64 (ofNat m)),(28,.i .i64 (ofNat i))]) (mkH [some (rwO h n A0 M0 W0),some rz])) (.t .z) K=(decide (ofNat i<ofNat m)=true/\(0<=ofNat i/\ofNat i<↑m)/\True/\True/\rg (ofNat i+1)/\K (.st .nrm (zz0 (zz1 (.i .i64 k) (zz1 (.p 0 0) (zz1 (.i .i64 (M i)) (zz0 (zzl (.agg [.i .i64 (A i),.i .i64 (M i),.i .i64 (W i)])) .e) .e) (zz1 (.p 2 0) .e (zzn m))) (zz0 (zz1 (inv to) (zz0 (zzl (.i .i64 (M i))) .e) .e) (zz0 .e (zzl (.b (decide (ofNat i<ofNat m))))))) (zz1 (.i .i64 mode) (zz0 (zz1 (inv fr) (zz0 (zzl (.p 2 1)) .e) .e) (zz0 .e (zzl (.i .i64 (ofNat i+1))))) (zz1 (.p 1 0) (zz0 (zz0 (zzl (.i .i64 (ofNat i+1))) .e) (zzl (.sv 3 m (qF A M W)))) (zz0 .e (zzl (.pv 3 (qF A M W i))))))) ⟨zz1 (AObj.cells 129 4 [] (zz1 (.i .i64 (h 0)) (zz1 (.i .i64 (h 1)) (zzl (.sv 3 n (qF A0 M0 W0))) .e) (zzl (.i .i64 (h 2))))) (zzl (AObj.cells 129 4 [.i .i64 0,.i .i64 0,.i .i64 0,.l0] .e)) (zzl (AObj.cells 80 3 [.i .i64 0,.i .i64 0,.i .i64 0] (zz1 (.i .i64 (A i)) (zzl (.i .i64 (M i))) (zzl (.i .i64 (W i)))))),3,[2,2]⟩) .z):=by kernel_rfl
theorem akE_vc (h A0 M0 W0:Nat->Int) (n fr to m i:Nat) (A M W:Nat->Int) (k mode hs:Int) (h1:decide (ofNat i<ofNat m)=false) (K:Res->Orc->Prop):runK PG 1000000 (.code (loopAt PG 192 0) 49 (mkT [(1,.i .i64 k),(2,.i .i64 mode),(3,.p 0 0),(6,.p 1 0),(8,.i .i64 (ofNat fr)),(9,.i .i64 (ofNat to)),(7,.i .i64 hs),(26,svN m A M W),(27,.i .i64 (ofNat m)),(28,.i .i64 (ofNat i))]) (mkH [some (rwO h n A0 M0 W0),some rz])) (.f .z) K=(decide (ofNat i<ofNat m)=false/\K (.st (.exit 0) (zz0 (zz1 (.i .i64 k) (zz1 (.p 0 0) (zzl (.i .i64 hs)) (zz0 .e (zzn m))) (zz0 (zzn to) (zz0 .e (zzl (.b (decide (ofNat i<ofNat m))))))) (zz1 (.i .i64 mode) (zz0 (zzn fr) (zz0 .e (zzn i))) (zz1 (.p 1 0) (zz0 .e (zzl (.sv 3 m (qF A M W)))) .e))) ⟨zz1 (AObj.cells 129 4 [] (zz1 (.i .i64 (h 0)) (zz1 (.i .i64 (h 1)) (zzl (.sv 3 n (qF A0 M0 W0))) .e) (zzl (.i .i64 (h 2))))) (zzl (AObj.cells 129 4 [.i .i64 0,.i .i64 0,.i .i64 0,.l0] .e)) .e,2,[]⟩) .z):=by kernel_rfl
theorem askedT_vc (fr to:Nat) (hs:Int) (n1:Nat) (A1 M1 W1 h A M W:Nat->Int) (n:Nat) (k mode:Int) (h1:decide (fr<=to)=true) (h2:decide (hs<mode)=true) (K:Res->Orc->Prop):runK PG 1000000 (.call 192 [rwN h n A M W,.i .i64 k,.i .i64 mode] (mkH [])) (.s (.cal [] (.tup [inv fr,inv to]) [] (.lop [0,1] [1,2,3,6,8,9,7,26,27,28] 2 (.exit 0) [(1,.i .i64 k),(2,.i .i64 mode),(3,.p 0 0),(6,.p 1 0),(8,.i .i64 (ofNat fr)),(9,.i .i64 (ofNat to)),(7,.i .i64 hs)] [some (rwO h n A M W),some rz] (.t (.cal [2] (svN n1 A1 M1 W1) [.gone] .z)))) .z) K=(True/\(0<=k/\k<3)/\Int.toNat k<3/\Con PG 172 [.agg [.i .i64 (h 0),.i .i64 (h 1),.i .i64 (h 2),svN n A M W],.i .i64 k] [] (.tup [inv fr,inv to]) []/\True/\(0<=ofNat fr/\0<=ofNat to/\fr<=to/\to<=n)/\LDoes PG (loopAt PG 192 0) 49 2 (mkT [(1,.i .i64 k),(2,.i .i64 mode),(3,.p 0 0),(6,.p 1 0),(8,.i .i64 (ofNat fr)),(9,.i .i64 (ofNat to)),(7,.i .i64 (List.getD [h 0,h 1,h 2] (Int.toNat k) 0)),(26,.sv 3 (to-fr) (shiftF fr (qF A M W))),(27,.i .i64 (ofNat (to-fr))),(28,.i .i64 0)]) [some (rwO h n A M W),some rz] (.exit 0) (mkT [(1,.i .i64 k),(2,.i .i64 mode),(3,.p 0 0),(6,.p 1 0),(8,.i .i64 (ofNat fr)),(9,.i .i64 (ofNat to)),(7,.i .i64 hs)]) [some (rwO h n A M W),some rz]/\decide (hs<mode)=true/\True/\Con PG 199 [svN n A M W,inv fr,inv to,.l 0 0 1 1 3 true] [some (cellsO 80 [.i .i64 k,.i .i64
 mode,.i .i64 0])] (svN n1 A1 M1 W1) [.gone]/\True/\K (.rv (.agg [.i .i64 (h 0),.i .i64 (h 1),.i .i64 (h 2),.sv 3 n1 (qF A1 M1 W1)]) ⟨zz1 (AObj.cells 129 4 [] (zz1 (.i .i64 (h 0)) (zz1 (.i .i64 (h 1)) (zzl (.sv 3 n1 (qF A1 M1 W1))) .e) (zzl (.i .i64 (h 2))))) (zzl (AObj.cells 129 4 [.i .i64 0,.i .i64 0,.i .i64 0,.l0] (zz1 (.i .i64 (h 0)) (zz1 (.i .i64 (h 1)) (zzl (.sv 3 n1 (qF A1 M1 W1))) .e) (zzl (.i .i64 (h 2)))))) (zz0 .e .e),3,[1,0,2,2,1,0,1,0]⟩) .z):=by kernel_rfl
theorem askedF_vc (fr to:Nat) (hs:Int) (h A M W:Nat->Int) (n:Nat) (k mode:Int) (h1:decide (fr<=to)=true) (h2:decide (hs<mode)=false) (K:Res->Orc->Prop):runK PG 1000000 (.call 192 [rwN h n A M W,.i .i64 k,.i .i64 mode] (mkH [])) (.s (.cal [] (.tup [inv fr,inv to]) [] (.lop [0,1] [1,2,3,6,8,9,7,26,27,28] 2 (.exit 0) [(1,.i .i64 k),(2,.i .i64 mode),(3,.p 0 0),(6,.p 1 0),(8,.i .i64 (ofNat fr)),(9,.i .i64 (ofNat to)),(7,.i .i64 hs)] [some (rwO h n A M W),some rz] (.f .z))) .z) K=(True/\(0<=k/\k<3)/\Int.toNat k<3/\Con PG 172 [.agg [.i .i64 (h 0),.i .i64 (h 1),.i .i64 (h 2),svN n A M W],.i .i64 k] [] (.tup [inv fr,inv to]) []/\True/\(0<=ofNat fr/\0<=ofNat to/\fr<=to/\to<=n)/\LDoes PG (loopAt PG 192 0) 49 2 (mkT [(1,.i .i64 k),(2,.i .i64 mode),(3,.p 0 0),(6,.p 1 0),(8,.i .i64 (ofNat fr)),(9,.i .i64 (ofNat to)),(7,.i .i64 (List.getD [h 0,h 1,h 2] (Int.toNat k) 0)),(26,.sv 3 (to-fr) (shiftF fr (qF A M W))),(27,.i .i64 (ofNat (to-fr))),(28,.i .i64 0)]) [some (rwO h n A M W),some rz] (.exit 0) (mkT [(1,.i .i64 k),(2,.i .i64 mode),(3,.p 0 0),(6,.p 1 0),(8,.i .i64 (ofNat fr)),(9,.i .i64 (ofNat to)),(7,.i .i64 hs)]) [some (rwO h n A M W),some rz]/\decide (hs<mode)=false/\K (.rv (.agg [.i .i64 (h 0),.i .i64 (h 1),.i .i64 (h 2),.sv 3 n (qF A M W)]) ⟨zz1 (AObj.cells 129 4 [] (zz1 (.i .i64 (h 0)) (zz1 (.i .i64 (h 1)) (zzl (.sv 3 n
 (qF A M W))) .e) (zzl (.i .i64 (h 2))))) (zzl (AObj.cells 129 4 [.i .i64 0,.i .i64 0,.i .i64 0,.l0] (zz1 (.i .i64 (h 0)) (zz1 (.i .i64 (h 1)) (zzl (.sv 3 n (qF A M W))) .e) (zzl (.i .i64 (h 2)))))) .e,2,[1,1,0,1,0]⟩) .z):=by kernel_rfl
theorem stretch3_con (a b c:Int) (A M W:Nat->Int) (n:Nat) (k:Int) (hn:n<=1152921504606846976):Con PG 172 [.agg [.i .i64 a,.i .i64 b,.i .i64 c,svN n A M W],.i .i64 k] [] (.tup [.i .i64 (ofNat (fi n A k)),.i .i64 (ofNat (ti n A k))]) []:=
 stretch_con (h3 a b c) A M W n k hn
theorem ti_le (n:Nat) (A:Nat->Int) (k:Int):fi n A k<=ti n A k/\ti n A k<=n:=by
 have:=fi_le n A k
 unfold ti
 split<;>omega
theorem spl1L_con (q:List HQ) (a m w:Int) (f t:Nat) (hq:q.length<=1000) (hf:f<=q.length) (ht:t<=q.length):Con PG 199 [svQ q,.i .i64 (ofNat f),.i .i64 (ofNat t),.l 0 0 1 1 3 true] [some (cellsO 80 [.i .i64 a,.i .i64 m,.i .i64 w])] (svQ (q.take f ++ ⟨a,m,w⟩ :: q.drop t)) [.gone]:=by
 have h:=spl1_con q ⟨a,m,w⟩ f t hq hf ht
 have k1:Con PG 199 [svQ q,.i .i64 (ofNat f),.i .i64 (ofNat t),.sv 3 1 (listF 3 [.i .i64 a,.i .i64 m,.i .i64 w] 1)] [] (svQ (q.take f ++ ⟨a,m,w⟩ :: q.drop t)) []:=h.pre ⟨.refl _,.refl _,.refl _,.sv fun i j hi hj=>by
  obtain rfl:i=0:=by omega
  match j,hj with
  | 0,_=>exact Eq.refl _
  | 1,_=>exact Eq.refl _
  | 2,_=>exact Eq.refl _,trivial⟩
 generalize hv:svQ (q.take f ++ ⟨a,m,w⟩ :: q.drop t)=v at k1⊢
 have h0:ren (nameIn [] 1) v=v:=by subst hv;kernel_rfl
 have k2:=k1.slot (by kernel_rfl) (by kernel_rfl) h0
 exact k2.thawZ (us0:=[.gone]) 0 (z:=.cells 3 [.i .i64 a,.i .i64 m,.i .i64 w]) (by kernel_rfl) ⟨rfl,trivial⟩ ⟨.inl rfl,.inl rfl,.inl rfl,.inr ⟨by kernel_rfl,by show 0+1*3<=3;decide,rfl⟩,trivial⟩ rfl
theorem ak_lp (h A0 M0 W0:Nat->Int) (n fr to m:Nat) (A M W:Nat->Int) (k mode hs:Int) (hm:m<=1000):LDoes PG (loopAt PG 192 0) 49 2 (mkT [(1,.i .i64 k),(2,.i .i64 mode),(3,.p 0 0),(6,.p 1 0),(8,.i .i64 (ofNat fr)),(9,.i .i64 (ofNat to)),(7,.i .i64 hs),(26,svN m A M W),(27,.i .i64 (ofNat m)),(28,.i .i64 0)]) [some (rwO h n A0 M0 W0),some rz] (.exit 0)
 (mkT [(1,.i .i64 k),(2,.i .i64 mode),(3,.p 0 0),(6,.p 1 0),(8,.i .i64 (ofNat fr)),(9,.i .i64 (ofNat to)),(7,.i .i64 (lastM M hs m))]) [some (rwO h n A0 M0 W0),some rz]:=by
 have key:=loop_ind (P:=PG) (c:=loopAt PG 192 0) (n:=49) (b:=2) (x:=.exit 0) (l':=[(1,.i .i64 k),(2,.i .i64 mode),(3,.p 0 0),(6,.p 1 0),(8,.i .i64 (ofNat fr)),(9,.i .i64 (ofNat to)),(7,.i .i64 (lastM M hs m))]) (objs':=[some (rwO h n A0 M0 W0),some rz]) (D:=Nat)
  (fun i=>([(1,.i .i64 k),(2,.i .i64 mode),(3,.p 0 0),(6,.p 1 0),(8,.i .i64 (ofNat fr)),(9,.i .i64 (ofNat to)),(7,.i .i64 (lastM M hs i)),(26,svN m A M W),(27,.i .i64 (ofNat m)),(28,.i .i64 (ofNat i))],[some (rwO h n A0 M0 W0),some rz])) (fun i=>m-i) (fun i=>i<=m) (fun i hi=>?_) 0 (Nat.zero_le _)
 · exact key
 refine ⟨Nat.le_refl _,?_⟩
 by_cases e:i=m
 · subst e
   have h1:decide (ofNat i<ofNat i)=false:=by simp
   refine ⟨_,_,(akE_vc h A0 M0 W0 n fr to i i A M W k mode _ h1 _).mpr ⟨h1,.inr ⟨[0,1],[],_,_,rfl,by simp,?_⟩⟩⟩
   exact st_k [0,1] (by kernel_rfl)
 · have h1:decide (ofNat i<ofNat m)=true:=by simp;omega
   refine ⟨_,_,(ak_vc h A0 M0 W0 n fr to m i A M W k mode _ h1 _).mpr ⟨h1,⟨by simp,by simp;omega⟩,trivial,trivial,⟨by simp;omega,by simp;omega⟩,.inl ⟨i+1,[0,1],[],_,_,by omega,by show m-(i+1)<m-i;omega,rfl,?_⟩⟩⟩
   exact st_k [0,1] (by kernel_rfl)
theorem freed_con (r:Rw) (k:Int) (hk:0<=k/\k<3) (hq:r.q.length<=1000):Con PG 193 [rwV r,.i .i64 k] [] (rwV (freeR r k)) []:=by
 have ht:=ti_le r.q.length (qA r.q) k
 exact con_plain (by kernel_rfl) ((freed_vc (fr r k) (to r k) (freeR r k).q.length (qA (freeR r k).q) (qM (freeR r k).q) (qW (freeR r k).q) r.h (qA r.q) (qM r.q) (qW r.q) r.q.length k _).mpr ⟨trivial,hk,by omega,stretch3_con _ _ _ _ _ _ _ _ (by omega),trivial,
  spl0_con r.q _ _ hq (by unfold fr;omega) (by unfold to;omega),trivial,_,_,rfl,rfl⟩)
theorem asked_con (r:Rw) (k mode:Int) (hk:0<=k/\k<3) (hq:r.q.length<=1000):Con PG 192 [rwV r,.i .i64 k,.i .i64 mode] [] (rwV (askR r k mode)) []:=by
 have ht:=ti_le r.q.length (qA r.q) k
 have h1:decide (fr r k<=to r k)=true:=by unfold fr to;simp;omega
 have hlp:LDoes PG (loopAt PG 192 0) 49 2 (mkT [(1,.i .i64 k),(2,.i .i64 mode),(3,.p 0 0),(6,.p 1 0),(8,.i .i64 (ofNat (fr r k))),(9,.i .i64 (ofNat (to r k))),(7,.i .i64 (hx r.h k)),(26,.sv 3 (to r k-fr r k) (shiftF (fr r k) (qF (qA r.q) (qM r.q) (qW r.q)))),(27,.i .i64 (ofNat (to r k-fr r k))),(28,.i .i64 0)]) [some (rwO r.h r.q.length (qA r.q) (qM r.q) (qW r.q)),some rz] (.exit 0)
  (mkT [(1,.i .i64 k),(2,.i .i64 mode),(3,.p 0 0),(6,.p 1 0),(8,.i .i64 (ofNat (fr r k))),(9,.i .i64 (ofNat (to r k))),(7,.i .i64 (hasR r k))]) [some (rwO r.h r.q.length (qA r.q) (qM r.q) (qW r.q)),some rz]:=by
  have key:=ak_lp r.h (qA r.q) (qM r.q) (qW r.q) r.q.length (fr r k) (to r k) (to r k-fr r k) (fun i=>qA r.q (fr r k+i)) (fun i=>qM r.q (fr r k+i)) (fun i=>qW r.q (fr r k+i)) k mode (hx r.h k) (by unfold fr to;omega)
  have e:lastM (fun i=>qM r.q (fr r k+i)) (hx r.h k) (to r k-fr r k)=hasR r k:=by
   unfold hasR
   unfold to ti
   have e0:fi r.q.length (qA r.q) k=fr r k:=rfl
   rw [e0]
   have:fr r k<=r.q.length:=by unfold fr;omega
   by_cases c:fr r k<r.q.length
   · rw [if_pos c,if_pos c,show fr r k+1-fr r k=0+1 by omega];rfl
   · rw [if_neg c,if_neg c,show r.q.length-fr r k=0 by omega];rfl
  rw [e] at key
  refine key.temps ⟨rfl,fun _ _ h=>h,rfl,fun _ _ h=>h,rfl,fun _ _ h=>h,rfl,fun _ _ h=>h,rfl,fun _ _ h=>h,rfl,fun _ _ h=>h,rfl,fun _ _ h=>h,rfl,(VW.sv fun i j hi hj=>?_).2,rfl,fun _ _ h=>h,rfl,fun _ _ h=>h,trivial⟩
  rw [shiftF_eq]
  rfl
 by_cases c:hasR r k<mode
 · have h2:decide (hasR r k<mode)=true:=by simpa using c
   have e:askR r k mode=⟨r.h,r.q.take (fr r k) ++ ⟨k,mode,0⟩ :: r.q.drop (to r k)⟩:=by unfold askR;rw [if_pos c]
   rw [e]
   exact con_plain (by kernel_rfl) ((askedT_vc (fr r k) (to r k) (hasR r k) _ _ _ _ r.h (qA r.q) (qM r.q) (qW r.q) r.q.length k mode h1 h2 _).mpr ⟨trivial,hk,by omega,stretch3_con _ _ _ _ _ _ _ _ (by omega),trivial,⟨by simp,by simp,by unfold fr to;omega,by unfold to;omega⟩,hlp,h2,trivial,
    spl1L_con r.q k mode 0 _ _ hq (by unfold fr;omega) (by unfold to;omega),trivial,_,_,rfl,rfl⟩)
 · have h2:decide (hasR r k<mode)=false:=by simpa using c
   have e:askR r k mode=r:=by unfold askR;rw [if_neg c]
   rw [e]
   exact con_plain (by kernel_rfl) ((askedF_vc (fr r k) (to r k) (hasR r k) r.h (qA r.q) (qM r.q) (qW r.q) r.q.length k mode h1 h2 _).mpr ⟨trivial,hk,by omega,stretch3_con _ _ _ _ _ _ _ _ (by omega),trivial,⟨by simp,by simp,by unfold fr to;omega,by unfold to;omega⟩,hlp,h2,_,_,rfl,rfl⟩)
theorem go_lp (h1:Nat->Int) (q1:List HQ) (h:Nat->Int) (q:List HQ) (hq:q.length<=1000) (ho:qok q) (hg:goL h q=⟨h1,q1⟩):LDoes PG (loopAt PG 198 0) 21 2 (mkT [(1,.p 0 0),(2,.p 1 0)]) [some (rwO h q.length (qA q) (qM q) (qW q)),some rz] (.exit 0) (mkT [(1,.p 0 0),(2,.p 1 0)]) [some (rwO h1 q1.length (qA q1) (qM q1) (qW q1)),some rz]:=by
 refine loop_ind (D:=Rw) (fun r=>([(1,.p 0 0),(2,.p 1 0)],[some (rwO r.h r.q.length (qA r.q) (qM r.q) (qW r.q)),some rz])) (fun r=>r.q.length) (fun r=>r.q.length<=1000/\qok r.q/\goL r.h r.q=⟨h1,q1⟩) ?_ ⟨h,q⟩ ⟨hq,ho,hg⟩
 rintro ⟨h,q⟩ ⟨hq,ho,hg⟩
 refine ⟨Nat.le_refl _,?_⟩
 simp only at hq ho hg⊢
 cases q with
 | nil=>
   have hf:fcB h 0 (qA []) (qM [])=false:=rfl
   have hc:=fc_con h (qA []) (qM []) (qW []) 0
   rw [hf] at hc
   simp only [goL,Rw.mk.injEq] at hg
   obtain ⟨rfl,rfl⟩:=hg
   exact ⟨_,_,(goE_vc h (qA []) (qM []) (qW []) 0 _).mpr ⟨hc,.inr ⟨[0,1],[],_,_,rfl,by simp,st_k [0,1] (by kernel_rfl)⟩⟩⟩
 | cons x q=>
   have hc:=fc_con h (qA (x :: q)) (qM (x :: q)) (qW (x :: q)) (x :: q).length
   have ef:fcB h (x :: q).length (qA (x :: q)) (qM (x :: q))=canB h x.a x.m:=by simp [fcB,qA,qM]
   rw [ef] at hc
   simp only [goL] at hg
   cases hb:canB h x.a x.m with
   | false=>
     rw [hb] at hc hg
     simp only [cond_false,Rw.mk.injEq] at hg
     obtain ⟨rfl,rfl⟩:=hg
     exact ⟨_,_,(goE_vc h (qA (x :: q)) (qM (x :: q)) (qW (x :: q)) (x :: q).length _).mpr ⟨hc,.inr ⟨[0,1],[],_,_,rfl,by simp,st_k [0,1] (by kernel_rfl)⟩⟩⟩
   | true=>
     rw [hb] at hc hg
     simp only [cond_true] at hg
     obtain ⟨o1,o2⟩:=ho x List.mem_cons_self
     have hs:=spl0_con (x :: q) 0 1 hq (Nat.zero_le _) (by simp)
     refine ⟨_,_,(goR_vc q.length (qA q) (qM q) (qW q) h (qA (x :: q)) (qM (x :: q)) (qW (x :: q)) (x :: q).length _).mpr ⟨hc,trivial,⟨by decide,by simp⟩,trivial,trivial,trivial,trivial,⟨o1,o2⟩,by show x.a.toNat<3;omega,trivial,hs,trivial,.inl ⟨⟨setH h x.a x.m,q⟩,[0,1],[],_,_,⟨by simp at hq⊢;omega,fun y hy=>ho y (List.mem_cons_of_mem _ hy),hg⟩,by simp,rfl,?_⟩⟩⟩
     exact st_k [0,1] (by kernel_rfl)
theorem goneOn_con (r:Rw) (hq:r.q.length<=1000) (ho:qok r.q):Con PG 198 [rwV r] [] (rwV (onR r)) []:=
 con_plain (by kernel_rfl) ((goneOn_vc (onR r).q.length (qA (onR r).q) (qM (onR r).q) (qW (onR r).q) (onR r).h r.h (qA r.q) (qM r.q) (qW r.q) r.q.length _).mpr ⟨go_lp _ _ _ _ hq ho rfl,_,_,rfl,rfl⟩)
set_option maxRecDepth 20000
theorem cl42_vc (m:Nat) (A M W:Nat->Int) (K:Res->Orc->Prop):runK PG 1000000 (.call 87 [svN (m+1) A M W] (mkH [])) (oc 2 .z) K=(True/\(True/\True/\0+(m+1)<=140737488355328/\(3*(0+(m+1))+1536)*24<=562949953421312)/\K (.rv (.lr 1 3 0 (m+1) false) ⟨zz0 (zzl (AObj.rows 80 3 (m+1) (qF A M W))) .e,2,[1,0,0]⟩) .z):=by kernel_rfl
theorem cl42n_vc (K:Res->Orc->Prop):runK PG 1000000 (.call 87 [.l0] (mkH [])) (.c .z) K=(True/\K (.rv .l0 ⟨.e,0,[]⟩) .z):=by kernel_rfl
theorem cl42z_vc (K:Res->Orc->Prop):runK PG 1000000 (.call 87 [.lz] (mkH [])) (.c .z) K=(True/\K (.rv (.l 0 0 0 0 3 true) ⟨zzl (AObj.cells 80 0 [] .e),1,[0,0]⟩) .z):=by kernel_rfl
theorem cl43_vc (m:Nat) (A M W:Nat->Int) (K:Res->Orc->Prop):runK PG 1000000 (.call 130 [svN (m+1) A M W] (mkH [])) (oc 2 .z) K=(True/\(True/\True/\0+(m+1)<=140737488355328/\(3*(0+(m+1))+1536)*24<=562949953421312)/\K (.rv (.lr 1 3 0 (m+1) false) ⟨zz0 (zzl (AObj.rows 82 3 (m+1) (qF A M W))) .e,2,[1,0,0]⟩) .z):=by kernel_rfl
theorem cl43n_vc (K:Res->Orc->Prop):runK PG 1000000 (.call 130 [.l0] (mkH [])) (.c .z) K=(True/\K (.rv .l0 ⟨.e,0,[]⟩) .z):=by kernel_rfl
theorem cl43z_vc (K:Res->Orc->Prop):runK PG 1000000 (.call 130 [.lz] (mkH [])) (.c .z) K=(True/\K (.rv (.l 0 0 0 0 3 true) ⟨zzl (AObj.cells 82 0 [] .e),1,[0,0]⟩) .z):=by kernel_rfl
theorem cl53_vc (m:Nat) (f:Nat->Int) (K:Res->Orc->Prop):runK PG 1000000 (.call 129 [isv (m+1) f] (mkH [])) (oc 2 .z) K=(True/\(True/\True/\0+(m+1)<=140737488355328/\(3*(0+(m+1))+1536)*8<=562949953421312)/\K (.rv (.lr 1 1 0 (m+1) false) ⟨zz0 (zzl (AObj.rows 3 1 (m+1) fun i x=>CV.i .i64 (f i))) .e,2,[1,0,0]⟩) .z):=by kernel_rfl
theorem cl53n_vc (K:Res->Orc->Prop):runK PG 1000000 (.call 129 [.l0] (mkH [])) (.c .z) K=(True/\K (.rv .l0 ⟨.e,0,[]⟩) .z):=by kernel_rfl
theorem cl53z_vc (K:Res->Orc->Prop):runK PG 1000000 (.call 129 [.lz] (mkH [])) (.c .z) K=(True/\K (.rv (.l 0 0 0 0 1 true) ⟨zzl (AObj.cells 3 0 [] .e),1,[0,0]⟩) .z):=by kernel_rfl
theorem cfg_vc (e:Int) (n m:Nat) (f g:Nat->Int) (K:Res->Orc->Prop):runK PG 1000000 (.call 197 [.agg [.i .i64 e,isv n f,isv m g]] (mkH [])) (.cal [] (isv n f) [] (.cal [] (isv m g) [] .z)) K=(True/\Con PG 129 [isv n f] [] (isv n f) []/\True/\True/\Con PG 129 [isv m g] [] (isv m g) []/\True/\K (.rv (.agg [.i .i64 e,.sv 1 n fun i x=>CV.i .i64 (f i),.sv 1 m fun i x=>CV.i .i64 (g i)]) ⟨zz1 (AObj.cells 24 3 [] (zz1 (.i .i64 e) (zzl (.sv 1 n fun i x=>CV.i .i64 (f i))) (zzl (.sv 1 m fun i x=>CV.i .i64 (g i))))) (zzl (AObj.cells 24 3 [.i .i64 0,.l0,.l0] (zz1 (.i .i64 e) (zzl (.sv 1 n fun i x=>CV.i .i64 (f i))) (zzl (.sv 1 m fun i x=>CV.i .i64 (g i)))))) .e,2,[1,0,0,1,0]⟩) .z):=by kernel_rfl
theorem cl42_con (n:Nat) (A M W:Nat->Int) (hn:n<=5864062014805):Con PG 87 [svN n A M W] [] (svN n A M W) []:=by
 cases n with
 | succ m=>
   exact con_of_run [1] [] ((cl42_vc _ _ _ _ _).mpr ⟨trivial,⟨trivial,trivial,by omega,by omega⟩,_,_,rfl,ret_fz [1] ((3=3/\0+(m+1)<=m+1)/\True) (by kernel_rfl) (by kernel_rfl) ⟨⟨rfl,by omega⟩,trivial⟩ (by kernel_rfl) rfl (by kernel_rfl) (by kernel_rfl) rfl trivial⟩)
 | zero=>
   have h0:Con PG 87 [.l0] [] (svN 0 A M W) []:=by
    have h:=con_of_run (v:=.l0) (us:=[]) [] [] ((cl42n_vc _).mpr ⟨trivial,_,_,rfl,ret_is (by kernel_rfl) rfl (by kernel_rfl) (by kernel_rfl) rfl trivial⟩)
    exact h.post (VW.nil _ _) trivial
   have hz:Con PG 87 [.lz] [] (svN 0 A M W) []:=by
    have h:=con_of_run (v:=.sv 3 0 (listF 3 [] 0)) (us:=[]) [0] [] ((cl42z_vc _).mpr ⟨trivial,_,_,rfl,ret_fz [0] ((0+0*3<=0)/\True) (by kernel_rfl) (by kernel_rfl) ⟨by omega,trivial⟩ (by kernel_rfl) rfl (by kernel_rfl) (by kernel_rfl) rfl trivial⟩)
    exact h.post (VW.sv fun i j hi=>absurd hi (Nat.not_lt_zero i)) trivial
   intro ρ w args' hv hh hoff
   cases hv with | cons _ _ v' _ h1 h2=>
   cases h1 with | sv _ _ _ _ hc=>
   cases hc with
   | sv0=>exact h0 ρ w _ (.cons _ _ _ _ .l0 h2) hh hoff
   | svz _ _ a c=>exact hz ρ w _ (.cons _ _ _ _ (.lz a c) h2) hh hoff
   | sv _ _ _ B o cap g q1 q2 q3=>exact hz ρ w _ (.cons _ _ _ _ (.lz _ cap) h2) hh hoff
theorem cl43_con (n:Nat) (A M W:Nat->Int) (hn:n<=5864062014805):Con PG 130 [svN n A M W] [] (svN n A M W) []:=by
 cases n with
 | succ m=>
   exact con_of_run [1] [] ((cl43_vc _ _ _ _ _).mpr ⟨trivial,⟨trivial,trivial,by omega,by omega⟩,_,_,rfl,ret_fz [1] ((3=3/\0+(m+1)<=m+1)/\True) (by kernel_rfl) (by kernel_rfl) ⟨⟨rfl,by omega⟩,trivial⟩ (by kernel_rfl) rfl (by kernel_rfl) (by kernel_rfl) rfl trivial⟩)
 | zero=>
   have h0:Con PG 130 [.l0] [] (svN 0 A M W) []:=by
    have h:=con_of_run (v:=.l0) (us:=[]) [] [] ((cl43n_vc _).mpr ⟨trivial,_,_,rfl,ret_is (by kernel_rfl) rfl (by kernel_rfl) (by kernel_rfl) rfl trivial⟩)
    exact h.post (VW.nil _ _) trivial
   have hz:Con PG 130 [.lz] [] (svN 0 A M W) []:=by
    have h:=con_of_run (v:=.sv 3 0 (listF 3 [] 0)) (us:=[]) [0] [] ((cl43z_vc _).mpr ⟨trivial,_,_,rfl,ret_fz [0] ((0+0*3<=0)/\True) (by kernel_rfl) (by kernel_rfl) ⟨by omega,trivial⟩ (by kernel_rfl) rfl (by kernel_rfl) (by kernel_rfl) rfl trivial⟩)
    exact h.post (VW.sv fun i j hi=>absurd hi (Nat.not_lt_zero i)) trivial
   intro ρ w args' hv hh hoff
   cases hv with | cons _ _ v' _ h1 h2=>
   cases h1 with | sv _ _ _ _ hc=>
   cases hc with
   | sv0=>exact h0 ρ w _ (.cons _ _ _ _ .l0 h2) hh hoff
   | svz _ _ a c=>exact hz ρ w _ (.cons _ _ _ _ (.lz a c) h2) hh hoff
   | sv _ _ _ B o cap g q1 q2 q3=>exact hz ρ w _ (.cons _ _ _ _ (.lz _ cap) h2) hh hoff
theorem cl53_con (n:Nat) (f:Nat->Int) (hn:n<=17592186044416):Con PG 129 [isv n f] [] (isv n f) []:=by
 cases n with
 | succ m=>
   exact con_of_run [1] [] ((cl53_vc _ _ _).mpr ⟨trivial,⟨trivial,trivial,by omega,by omega⟩,_,_,rfl,ret_fz [1] ((1=1/\0+(m+1)<=m+1)/\True) (by kernel_rfl) (by kernel_rfl) ⟨⟨rfl,by omega⟩,trivial⟩ (by kernel_rfl) rfl (by kernel_rfl) (by kernel_rfl) rfl trivial⟩)
 | zero=>
   have h0:Con PG 129 [.l0] [] (isv 0 f) []:=by
    have h:=con_of_run (v:=.l0) (us:=[]) [] [] ((cl53n_vc _).mpr ⟨trivial,_,_,rfl,ret_is (by kernel_rfl) rfl (by kernel_rfl) (by kernel_rfl) rfl trivial⟩)
    exact h.post (VW.nil _ _) trivial
   have hz:Con PG 129 [.lz] [] (isv 0 f) []:=by
    have h:=con_of_run (v:=.sv 1 0 (listF 1 [] 0)) (us:=[]) [0] [] ((cl53z_vc _).mpr ⟨trivial,_,_,rfl,ret_fz [0] ((0+0*1<=0)/\True) (by kernel_rfl) (by kernel_rfl) ⟨by omega,trivial⟩ (by kernel_rfl) rfl (by kernel_rfl) (by kernel_rfl) rfl trivial⟩)
    exact h.post (VW.sv fun i j hi=>absurd hi (Nat.not_lt_zero i)) trivial
   intro ρ w args' hv hh hoff
   cases hv with | cons _ _ v' _ h1 h2=>
   cases h1 with | sv _ _ _ _ hc=>
   cases hc with
   | sv0=>exact h0 ρ w _ (.cons _ _ _ _ .l0 h2) hh hoff
   | svz _ _ a c=>exact hz ρ w _ (.cons _ _ _ _ (.lz a c) h2) hh hoff
   | sv _ _ _ B o cap g q1 q2 q3=>exact hz ρ w _ (.cons _ _ _ _ (.lz _ cap) h2) hh hoff
theorem cfg_con (e:Int) (n m:Nat) (f g:Nat->Int) (hn:n<=17592186044416) (hm:m<=17592186044416):Con PG 197 [.agg [.i .i64 e,isv n f,isv m g]] [] (.agg [.i .i64 e,isv n f,isv m g]) []:=
 con_plain (by kernel_rfl) ((cfg_vc _ _ _ _ _ _).mpr ⟨trivial,cl53_con n f hn,trivial,trivial,cl53_con m g hm,trivial,_,_,rfl,rfl⟩)
set_option maxRecDepth 40000
def rowH (d:List AV) (t:TS) (l:Nat):AH:=((mkH [some (tsD d t)]).new rz).upd 1 (some (rzO (t.h l) (t.n l) (t.A l) (t.M l) (t.W l)))
def layH (t:TS) (l:Nat) (h h1:Nat->Int) (n1:Nat) (A1 M1 W1:Nat->Int):AH:=((((mkH [some (tsZ t)]).new (rwO h n1 A1 M1 W1)).upd 1 (some (rwO h1 n1 A1 M1 W1))).upd 0 (some (tsZ (t.put l h1 n1 A1 M1 W1)))).upd 0 (some (tsZ (t.put l h1 n1 A1 M1 W1)))
theorem rowOf_vc (d:List AV) (t:TS):∀(l:Nat) (_:l<19) (K:Res->Orc->Prop),runK PG 1000000 (.call 79 [.p 0 0,.i .i64 (ofNat l)] (mkH [some (tsD d t)])) (Orc.c (Orc.c Orc.z)) K =
 (True/\True/\K (.rv (rwN (t.h l) (t.n l) (t.A l) (t.M l) (t.W l)) (rowH d t l)) .z)
 | 0,_,K=>by kernel_rfl
 | 1,_,K=>by kernel_rfl
 | 2,_,K=>by kernel_rfl
 | 3,_,K=>by kernel_rfl
 | 4,_,K=>by kernel_rfl
 | 5,_,K=>by kernel_rfl
 | 6,_,K=>by kernel_rfl
 | 7,_,K=>by kernel_rfl
 | 8,_,K=>by kernel_rfl
 | 9,_,K=>by kernel_rfl
 | 10,_,K=>by kernel_rfl
 | 11,_,K=>by kernel_rfl
 | 12,_,K=>by kernel_rfl
 | 13,_,K=>by kernel_rfl
 | 14,_,K=>by kernel_rfl
 | 15,_,K=>by kernel_rfl
 | 16,_,K=>by kernel_rfl
 | 17,_,K=>by kernel_rfl
 | 18,_,K=>by kernel_rfl
 | n+19,h,_=>absurd h (by omega)
theorem rowOf_con (t:TS):∀(l:Nat) (_:l<19),Con PG 79 [.p 0 0,.i .i64 (ofNat l)] [some (tsO t)] (rwN (t.h l) (t.n l) (t.A l) (t.M l) (t.W l)) [.keep]:=
 fun l hl=>con_of_run [] [] ((rowOf_vc [] t l hl _).mpr ⟨trivial,trivial,_,_,rfl,ret_is (by kernel_rfl) rfl (by kernel_rfl) (by kernel_rfl) rfl ⟨by kernel_rfl,by kernel_rfl,trivial⟩⟩)
theorem rowOfZ_con (t:TS):∀(l:Nat) (_:l<19),Con PG 79 [.p 0 0,.i .i64 (ofNat l)] [some (tsZ t)] (rwN (t.h l) (t.n l) (t.A l) (t.M l) (t.W l)) [.keep]:=
 fun l hl=>con_of_run [] [] ((rowOf_vc zL t l hl _).mpr ⟨trivial,trivial,_,_,rfl,ret_is (by kernel_rfl) rfl (by kernel_rfl) (by kernel_rfl) rfl ⟨by kernel_rfl,by kernel_rfl,trivial⟩⟩)
theorem lay_vc (t:TS) (h A M W:Nat->Int) (n:Nat) (h1 A1 M1 W1:Nat->Int) (n1:Nat):∀(l:Nat) (_:l<19) (K:Res->Orc->Prop),runK PG 1000000 (.call 191 [.p 0 0,.i .i64 (ofNat l),rwN h n A M W] (mkH [some (tsZ t)])) (Orc.cal [] (rwN h1 n1 A1 M1 W1) [] (Orc.c (Orc.c Orc.z))) K =
 (Con PG 198 [rwN h n A M W] [] (rwN h1 n1 A1 M1 W1) []/\True/\True/\True/\True/\K (.rv (.tup []) (layH t l h h1 n1 A1 M1 W1)) .z)
 | 0,_,K=>by kernel_rfl
 | 1,_,K=>by kernel_rfl
 | 2,_,K=>by kernel_rfl
 | 3,_,K=>by kernel_rfl
 | 4,_,K=>by kernel_rfl
 | 5,_,K=>by kernel_rfl
 | 6,_,K=>by kernel_rfl
 | 7,_,K=>by kernel_rfl
 | 8,_,K=>by kernel_rfl
 | 9,_,K=>by kernel_rfl
 | 10,_,K=>by kernel_rfl
 | 11,_,K=>by kernel_rfl
 | 12,_,K=>by kernel_rfl
 | 13,_,K=>by kernel_rfl
 | 14,_,K=>by kernel_rfl
 | 15,_,K=>by kernel_rfl
 | 16,_,K=>by kernel_rfl
 | 17,_,K=>by kernel_rfl
 | 18,_,K=>by kernel_rfl
 | n+19,h,_=>absurd h (by omega)
theorem lay_con (t:TS) (r:Rw) (hq:r.q.length<=1000) (ho:qok r.q) (l:Nat) (hl:l<19):Con PG 191 [.p 0 0,.i .i64 (ofNat l),rwV r] [some (tsZ t)] (.tup []) [.set (tsZ (t.put l (onR r).h (onR r).q.length (qA (onR r).q) (qM (onR r).q) (qW (onR r).q)))]:=
 con_of_run [] [] ((lay_vc t r.h (qA r.q) (qM r.q) (qW r.q) r.q.length _ _ _ _ _ l hl _).mpr ⟨goneOn_con r hq ho,trivial,trivial,trivial,trivial,_,_,rfl,ret_is (by kernel_rfl) rfl (by kernel_rfl) (by kernel_rfl) rfl ⟨by kernel_rfl,by kernel_rfl,trivial⟩⟩)
end Go.Proofs.Lk
