/- Runs over unknown values, told by the kernel: part GJ. -/
import Derived.Test.YtnnipmcdkcpndaaGreatGI
noncomputable section
open Int (ofNat)
set_option linter.unusedSimpArgs false
set_option linter.unusedVariables false
set_option maxRecDepth 20000
namespace Go.Proofs.Sv
open Go Go.Sim Go.Proofs Go.Proofs.Lk Go.Proofs.YtnnipmcdkcpndaaGreat
def tt1 (x:Int):Prop:=(!!decide (x=x))=true
def tt0 (x:Int):Prop:=(!decide (x=x))=false
theorem tt1_ (x:Int):tt1 x:=by unfold tt1;simp
theorem tt0_ (x:Int):tt0 x:=by unfold tt0;simp
theorem siE_lq (n:Nat) (f:Nat->Int) (h1:decide (ofNat n<ofNat n)=false):LD PG (loopAt PG 78 0) 26 0 [(0,isv n f),(1,isv n f),(5,.i .i64 (ofNat n))] [] (.f .z) (.exit 0) [] [] [] 0 (fun Lf=>decide (ofNat n<ofNat n)=false/\Lf):=by unfold LD LQ;kernel_rfl
theorem siR_lq (n:Nat) (f:Nat->Int) (i:Nat) (h1:decide (ofNat i<ofNat n)=true):LD PG (loopAt PG 78 0) 26 0 [(0,isv n f),(1,isv n f),(5,.i .i64 (ofNat i))] [] (.t (.f .z)) .nrm [] [(0,isv n f),(1,isv n f),(5,.i .i64 (ofNat i+1))] [] 0 (fun Lf=>decide (ofNat i<ofNat n)=true/\(0<=ofNat i/\ofNat i<↑n)/\True/\(0<=ofNat i/\ofNat i<↑n)/\True/\tt0 (f i)/\rg (ofNat i+1)/\Lf):=by unfold LD LQ;kernel_rfl
theorem si_vq (n:Nat) (f:Nat->Int):VD PG 78 [isv n f,isv n f] [] (.f (.lop [] [0,1,5] 0 (.exit 0) [] [] .z)) (.b true) [] [] 0 (fun Lf=>tt0 (ofNat n)/\LDoes PG (loopAt PG 78 0) 26 0 (mkT [(0,isv n f),(1,isv n f),(5,.i .i64 0)]) [] (.exit 0) (mkT []) []/\Lf):=by unfold VD VQ;kernel_rfl
theorem sc_vq (e:Int) (n m:Nat) (f g:Nat->Int):VD PG 47 [.agg [.i .i64 e,isv n f,isv m g],.agg [.i .i64 e,isv n f,isv m g]] [] (ot 5 (.cal [] (.b true) [] (.t (oc 5 (.cal [] (.b true) [] (.c .z)))))) (.b true) [] [] 2 (fun Lf=>True/\True/\decide (e=e)=true/\True/\r2 (decide (e=e)=true) (True/\r2 (decide (e=e)=true) (Con PG 78 [isv n f,isv n f] [] (.b true) []/\decide (e=e)=true/\True/\True/\Con PG 78 [isv m g,isv m g] [] (.b true) []/\Lf))):=by unfold VD VQ;kernel_rfl
theorem svE_lq (b:Mb) (h1:decide (ofNat b.dn<ofNat b.dn)=false):LD PG (loopAt PG 20 0) 61 2 [(2,.p 0 0),(3,.p 1 0),(5,.i .i64 (ofNat b.dn))] [some (vwO b),some (vwO b)] (.f .z) (.exit 0) [0,1] [] [some (vwO b),some (vwO b)] 2 (fun Lf=>True/\decide (ofNat b.dn<ofNat b.dn)=false/\Lf):=by unfold LD LQ;kernel_rfl
theorem svR_lq (b:Mb) (i:Nat) (h1:decide (ofNat i<ofNat b.dn)=true) (h2:(!(decide (b.dA i=b.dA i) && (decide (b.dM i=b.dM i) && (decide (b.dW i=b.dW i) && true))))=false):LD PG (loopAt PG 20 0) 61 2 [(2,.p 0 0),(3,.p 1 0),(5,.i .i64 (ofNat i))] [some (vwO b),some (vwO b)] (.t (.f .z)) .nrm [0,1] [(2,.p 0 0),(3,.p 1 0),(5,.i .i64 (ofNat i+1))] [some (vwO b),some (vwO b)] 2 (fun Lf=>True/\decide (ofNat i<ofNat b.dn)=true/\True/\(0<=ofNat i/\ofNat i<↑b.dn)/\True/\True/\(0<=ofNat i/\ofNat i<↑b.dn)/\True/\True/\(!(decide (b.dA i=b.dA i) && (decide (b.dM i=b.dM i) && (decide (b.dW i=b.dW i) && true))))=false/\rg (ofNat i+1)/\Lf):=by unfold LD LQ;kernel_rfl
theorem sv_vq (b:Mb):VD PG 20 [.agg (vwL b),.agg (vwL b)] [] (ot 5 (.f (ot 5 (.cal [] (.b true) [] (.t (.f (oc 5 (.cal [] (.b true) [] (oc 10 (.f (.lop [0,1] [2,3,5] 2 (.exit 0) [] [some (vwO b),some (vwO b)] .z))))))))))) (.b true) [] [] 2 (fun Lf=>True/\True/\tt1 (b.x 6)/\True/\r2 (tt1 (b.x 6)) (True/\r2 (tt1 (b.x 6)) (tt0 (b.x 6)/\tt1 (b.x 7)/\True/\r2 (tt1 (b.x 7)) (True/\r2 (tt1 (b.x 7)) (Con PG 47 [.agg [.i .i64 (b.x 8),isv b.mn b.mf,isv b.sn b.sf],.agg [.i .i64 (b.x 8),isv b.mn b.mf,isv b.sn b.sf]] [] (.b true) []/\tt1 (b.x 7)/\True/\tt0 (b.x 7)/\True/\True/\Con PG 49 [svN b.hn b.hA b.hM b.hW,svN b.hn b.hA b.hM b.hW] [] (.b true) []/\True/\True/\True/\tt0 (ofNat b.dn)/\LDoes PG (loopAt PG 20 0) 61 2 (mkT [(2,.p 0 0),(3,.p 1 0),(5,.i .i64 0)]) [some (vwO b),some (vwO b)] (.exit 0) (mkT []) [some (vwO b),some (vwO b)]/\Lf))))):=by unfold VD VQ;kernel_rfl
theorem sam_vq (t:TS):VD PG 19 [tsV t,tsV t] [] (oc 2 (ot 5 (.f (ot 5 (.cal [] (.b true) [] (.t (.f (oc 3 (.cal [] (.b true) [] (oc 3 (.inl (oc 3 (ot 5 (.f (ot 5 (.f (ot 5 (.f (ot 5 (.f (ot 5 (.f (ot 5 (.cal [] (.b true) [] (.t (.f (.c (.inl (oc 3 (ot 5 (.f (ot 5 (.f (ot 5 (.f (ot 5 (.f (ot 5 (.f (ot 5 (.cal [] (.b true) [] (.t (.f (.c (.inl (oc 3 (ot 5 (.f (ot 5 (.f (ot 5 (.f (ot 5 (.f (ot 5 (.f (ot 5 (.cal [] (.b true) [] (.t (.f (.c (.inl (.c .z))))))))))))))))))))))))))))))))))))))))))))))))))))))))))))))) (.b true) [] [] 8 (fun Lf=>True/\True/\tt1 (t.r.x 0)/\True/\r2 (tt1 (t.r.x 0)) (True/\r2 (tt1 (t.r.x 0)) (tt0 (t.r.x 0)/\tt1 (t.r.x 1)/\True/\r2 (tt1 (t.r.x 1)) (True/\r2 (tt1 (t.r.x 1)) (Con PG 47 [.agg [.i .i64 (t.r.x 2),isv t.r.mn t.r.mf,isv t.r.sn t.r.sf],.agg [.i .i64 (t.r.x 2),isv t.r.mn t.r.mf,isv t.r.sn t.r.sf]] [] (.b true) []/\tt1 (t.r.x 1)/\True/\tt0 (t.r.x 1)/\Con PG 48 [tsV t,tsV t] [] (.b true) []/\True/\True/\True/\True/\True/\tt1 ((t.r.s 0).x 0)/\True/\r2 (tt1 ((t.r.s 0).x 0)) (True/\r2 (tt1 ((t.r.s 0).x 0)) (tt0 ((t.r.s 0).x 0)/\tt1 ((t.r.s 0).x 1)/\True/\r2 (tt1 ((t.r.s 0).x 1)) (True/\r2 (tt1 ((t.r.s 0).x 1)) (tt0 ((t.r.s 0).x 1)/\tt1 ((t.r.s 0).x 2)/\True/\r2 (tt1 ((t.r.s 0).x 2)) (True/\r2 (tt1 ((t.r.s 0).x 2)) (tt0 ((t.r.s 0).x 2)/\tt1 ((t.r.s 0).x 3)/\True/\r2 (tt1 ((t.r.s 0).x 3)) (True/\r2 (tt1 ((t.r.s 0).x 3)) (tt0 ((t.r.s 0).x 3)/\tt1 ((t.r.s 0).x 4)/\True/\r2 (tt1 ((t.r.s 0).x 4)) (True/\r2 (tt1 ((t.r.s 0).x 4)) (tt0 ((t.r.s 0).x 4)/\tt1 ((t.r.s 0).x 5)/\True/\r2 (tt1 ((t.r.s 0).x 5)) (True/\r2 (tt1 ((t.r.s 0).x 5)) (Con PG 20 [.agg (vwL (t.r.s 0)),.agg (vwL (t.r.s 0))] [] (.b true) []/\tt1 ((t.r.s 0).x 5)/\True/\tt0 ((t.r.s 0).x 5)/\rg (1)/\True/\True/\True/\True/\tt1 ((t.r.s 1).x 0)/\True/\r2 (tt1 ((t.r.s 1).x 0)) (True/\r2 (tt1 ((t.r.s 1).x 0)) (tt0 ((t.r.s 1).x 0)/\tt1 ((t.r.s 1).x 1)/\True/\r2 (tt1 ((t.r.s 1).x 1)) (True/\r2 (tt1 ((t.r.s 1).x 1)) (tt0 ((t.r.s 1).x 1)/\tt1 ((t.r.s 1).x 2)/\True/\r2 (tt1 ((t.r.s 1).x 2)) (True/\r2 (tt1 ((t.r.s 1).x 2)) (tt0 ((t.r.s 1).x 2)/\tt1 ((t.r.s 1).x 3)/\True/\r2 (tt1 ((t.r.s 1).x 3)) (True/\r2 (tt1 ((t.r.s 1).x 3)) (tt0 ((t.r.s 1).x 3)/\tt1 ((t.r.s 1).x 4)/\True/\r2 (tt1 ((t.r.s 1).x 4)) (True/\r2 (tt1 ((t.r.s 1).x 4)) (tt0 ((t.r.s 1).x 4)/\tt1 ((t.r.s 1).x 5)/\True/\r2 (tt1 ((t.r.s 1).x 5)) (True/\r2 (tt1 ((t.r.s 1).x 5)) (Con PG 20 [.agg (vwL (t.r.s 1)),.agg (vwL (t.r.s 1))] [] (.b true) []/\tt1 ((t.r.s 1).x 5)/\True/\tt0 ((t.r.s 1).x 5)/\rg (2)/\True/\True/\True/\True/\tt1 ((t.r.s 2).x 0)/\True/\r2 (tt1 ((t.r.s 2).x 0)) (True/\r2 (tt1 ((t.r.s 2).x 0)) (tt0 ((t.r.s 2).x 0)/\tt1 ((t.r.s 2).x 1)/\True/\r2 (tt1 ((t.r.s 2).x 1)) (True/\r2 (tt1 ((t.r.s 2).x 1)) (tt0 ((t.r.s 2).x 1)/\tt1 ((t.r.s 2).x 2)/\True/\r2 (tt1 ((t.r.s 2).x 2)) (True/\r2 (tt1 ((t.r.s 2).x 2)) (tt0 ((t.r.s 2).x 2)/\tt1 ((t.r.s 2).x 3)/\True/\r2 (tt1 ((t.r.s 2).x 3)) (True/\r2 (tt1 ((t.r.s 2).x 3)) (tt0 ((t.r.s 2).x 3)/\tt1 ((t.r.s 2).x 4)/\True/\r2 (tt1 ((t.r.s 2).x 4)) (True/\r2 (tt1 ((t.r.s 2).x 4)) (tt0 ((t.r.s 2).x 4)/\tt1 ((t.r.s 2).x 5)/\True/\r2 (tt1 ((t.r.s 2).x 5)) (True/\r2 (tt1 ((t.r.s 2).x 5)) (Con PG 20 [.agg (vwL (t.r.s 2)),.agg (vwL (t.r.s 2))] [] (.b true) []/\tt1 ((t.r.s 2).x 5)/\True/\tt0 ((t.r.s 2).x 5)/\rg (3)/\Lf))))))))))))))))))))))))))))))))))))))))):=by unfold VD VQ;kernel_rfl
theorem si_lp (n:Nat) (hn:n<=1152921504606846976) (f:Nat->Int):LDoes PG (loopAt PG 78 0) 26 0 (mkT [(0,isv n f),(1,isv n f),(5,.i .i64 0)]) [] (.exit 0) (mkT []) []:=by
 refine loop_q (fun i:Nat=>([(0,isv n f),(1,isv n f),(5,.i .i64 (ofNat i))],[])) (fun i=>n-i) (fun i=>i<=n) (fun _=>Nat.zero_le _) ?_ 0 (Nat.zero_le _)
 intro i hi
 rcases Nat.lt_or_ge i n with hlt | q
 · have h1:decide (ofNat i<ofNat n)=true:=decide_eq_true (by simp;omega)
   have bi:(0:Int)<=ofNat i/\ofNat i<(↑n:Int):=⟨by simp,by simp;omega⟩
   have ri:rg (ofNat i+1):=⟨by simp<;>omega,by simp<;>omega⟩
   exact rd_nrm (siR_lq n f i h1) (by repeat' first | exact trivial | exact tt1_ _ | exact tt0_ _ | assumption | exact bi | exact ri | exact rfl | (simp;done) | apply And.intro) (i+1) hlt (by show n-(i+1)<n-i;omega) rfl (.refl _) (.refl _)
 · obtain rfl:i=n:=Nat.le_antisymm hi q
   exact rd_out (siE_lq i f (decide_eq_false (by simp))) (by repeat' first | exact trivial | exact tt1_ _ | exact tt0_ _ | (simp;done) | exact rfl | apply And.intro) rfl rfl (.refl _) (.refl _)
theorem si_con (n:Nat) (hn:n<=1152921504606846976) (f:Nat->Int):Con PG 78 [isv n f,isv n f] [] (.b true) []:=
 con_d (si_vq ..) (by repeat' first | exact trivial | exact tt1_ _ | exact tt0_ _ | exact si_lp n hn f | (simp;done) | exact rfl | apply And.intro)
theorem sc_con (e:Int) (n m:Nat) (f g:Nat->Int) (hn:n<=1152921504606846976) (hm:m<=1152921504606846976):Con PG 47 [.agg [.i .i64 e,isv n f,isv m g],.agg [.i .i64 e,isv n f,isv m g]] [] (.b true) []:=
 con_d (sc_vq ..) (by repeat' first | exact trivial | exact tt1_ _ | exact tt0_ _ | exact si_con _ hn _ | exact si_con _ hm _ | (simp;done) | exact rfl | apply And.intro)
theorem sv_lp (b:Mb) (hn:b.dn<=1152921504606846976):LDoes PG (loopAt PG 20 0) 61 2 (mkT [(2,.p 0 0),(3,.p 1 0),(5,.i .i64 0)]) [some (vwO b),some (vwO b)] (.exit 0) (mkT []) [some (vwO b),some (vwO b)]:=by
 refine loop_q (fun i:Nat=>([(2,.p 0 0),(3,.p 1 0),(5,.i .i64 (ofNat i))],[some (vwO b),some (vwO b)])) (fun i=>b.dn-i) (fun i=>i<=b.dn) (fun _=>Nat.le_refl _) ?_ 0 (Nat.zero_le _)
 intro i hi
 rcases Nat.lt_or_ge i b.dn with hlt | q
 · have h1:decide (ofNat i<ofNat b.dn)=true:=decide_eq_true (by simp;omega)
   have bi:(0:Int)<=ofNat i/\ofNat i<(↑b.dn:Int):=⟨by simp,by simp;omega⟩
   have ri:rg (ofNat i+1):=⟨by simp<;>omega,by simp<;>omega⟩
   have h2:(!(decide (b.dA i=b.dA i) && (decide (b.dM i=b.dM i) && (decide (b.dW i=b.dW i) && true))))=false:=by simp
   exact rd_nrm (svR_lq b i h1 h2) (by repeat' first | exact trivial | exact tt1_ _ | exact tt0_ _ | assumption | exact bi | exact ri | exact rfl | (simp;done) | apply And.intro) (i+1) hlt (by show b.dn-(i+1)<b.dn-i;omega) rfl (.refl _) (.refl _)
 · have e:i=b.dn:=Nat.le_antisymm hi q
   subst e
   exact rd_out (svE_lq b (decide_eq_false (by simp))) (by repeat' first | exact trivial | exact tt1_ _ | exact tt0_ _ | (simp;done) | exact rfl | apply And.intro) rfl rfl (.refl _) (.refl _)
theorem shN_con (n:Nat) (A M W:Nat->Int) (hn:n<=1152921504606846976):Con PG 49 [svN n A M W,svN n A M W] [] (.b true) []:=con_pureX (sh_vc _ _ _ _ _) rfl ⟨by simp,sh_lp _ _ _ _ hn,rfl⟩
theorem sv_con (b:Mb) (h:b.mn<=17592186044416/\b.sn<=17592186044416/\b.hn<=5864062014805/\b.dn<=5864062014805):Con PG 20 [.agg (vwL b),.agg (vwL b)] [] (.b true) []:=
 con_d (sv_vq ..) (by repeat' first | exact trivial | exact tt1_ _ | exact tt0_ _ | exact sc_con _ _ _ _ _ (by omega) (by omega) | exact shN_con _ _ _ _ (by omega) | exact sv_lp b (by omega) | (simp;done) | exact rfl | apply And.intro)
theorem sam_con (s:LS) (ok:s.ok):Con PG 19 [lsV s,lsV s] [] (.b true) []:=by
 have h0:=same_con s ok
 have hc:=sc_con (s.r.x 2) s.r.mn s.r.sn s.r.mf s.r.sf (by have:=ok.m;have e:s.ts.r.mn=s.r.mn:=rfl;omega) (by have:=ok.m;have e:s.ts.r.sn=s.r.sn:=rfl;omega)
 have v0:=sv_con (s.r.s 0) (ok.s 0)
 have v1:=sv_con (s.r.s 1) (ok.s 1)
 have v2:=sv_con (s.r.s 2) (ok.s 2)
 exact con_d (sam_vq s.ts) ⟨trivial,trivial,tt1_ _,trivial,tt1_ _,tt1_ _,trivial,tt1_ _,tt1_ _,tt0_ _,tt1_ _,trivial,tt1_ _,tt1_ _,trivial,tt1_ _,tt1_ _,hc,tt1_ _,trivial,tt0_ _,h0,trivial,trivial,trivial,trivial,trivial,tt1_ _,trivial,tt1_ _,tt1_ _,trivial,tt1_ _,tt1_ _,tt0_ _,tt1_ _,trivial,tt1_ _,tt1_ _,trivial,tt1_ _,tt1_ _,tt0_ _,tt1_ _,trivial,tt1_ _,tt1_ _,trivial,tt1_ _,tt1_ _,tt0_ _,tt1_ _,trivial,tt1_ _,tt1_ _,trivial,tt1_ _,tt1_ _,tt0_ _,tt1_ _,trivial,tt1_ _,tt1_ _,trivial,tt1_ _,tt1_ _,tt0_ _,tt1_ _,trivial,tt1_ _,tt1_ _,trivial,tt1_ _,tt1_ _,v0,tt1_ _,trivial,tt0_ _,(by decide),trivial,trivial,trivial,trivial,tt1_ _,trivial,tt1_ _,tt1_ _,trivial,tt1_ _,tt1_ _,tt0_ _,tt1_ _,trivial,tt1_ _,tt1_ _,trivial,tt1_ _,tt1_ _,tt0_ _,tt1_ _,trivial,tt1_ _,tt1_ _,trivial,tt1_ _,tt1_ _,tt0_ _,tt1_ _,trivial,tt1_ _,tt1_ _,trivial,tt1_ _,tt1_ _,tt0_ _,tt1_ _,trivial,tt1_ _,tt1_ _,trivial,tt1_ _,tt1_ _,tt0_ _,tt1_ _,trivial,tt1_ _,tt1_ _,trivial,tt1_ _,tt1_ _,v1,tt1_ _,trivial,tt0_ _,(by decide),trivial,trivial,trivial,trivial,tt1_ _,trivial,tt1_ _,tt1_ _,trivial,tt1_ _,tt1_ _,tt0_ _,tt1_ _,trivial,tt1_ _,tt1_ _,trivial,tt1_ _,tt1_ _,tt0_ _,tt1_ _,trivial,tt1_ _,tt1_ _,trivial,tt1_ _,tt1_ _,tt0_ _,tt1_ _,trivial,tt1_ _,tt1_ _,trivial,tt1_ _,tt1_ _,tt0_ _,tt1_ _,trivial,tt1_ _,tt1_ _,trivial,tt1_ _,tt1_ _,tt0_ _,tt1_ _,trivial,tt1_ _,tt1_ _,trivial,tt1_ _,tt1_ _,v2,tt1_ _,trivial,tt0_ _,(by decide),rfl⟩
end Go.Proofs.Sv
namespace Go.Proofs.Sv
open Go Go.Sim Go.Proofs Go.Proofs.Lk
def mbK (xs mf sf:List Int) (hs ds:List HQ):Mb:=⟨fun k=>xs.getD k 0,mf.length,fun i=>mf.getD i 0,sf.length,fun i=>sf.getD i 0,hs.length,qA hs,qM hs,qW hs,ds.length,qA ds,qM ds,qW ds⟩
def rwK (h:List Int) (q:List HQ):Rw:=⟨fun k=>h.getD k 0,q⟩
def lsK (xs mf sf:List Int) (a b c:Mb) (w:Rw):LS:=⟨⟨fun k=>xs.getD k 0,mf.length,fun i=>mf.getD i 0,sf.length,fun i=>sf.getD i 0,fun j=>bif Nat.beq j 0 then a else bif Nat.beq j 1 then b else c⟩,fun l=>bif Nat.beq l 4 then w else ⟨fun _=>0,[]⟩⟩
def cmK (k sv bt sq gn lk md ot d:Int):Cm:=⟨k,sv,bt,sq,gn,lk,md,ot,0,fun _=>0,d⟩
end Go.Proofs.Sv
namespace Go.Proofs.Sv
open Go Go.Sim Go.Proofs Go.Proofs.Lk Go.Proofs.YtnnipmcdkcpndaaGreat
def zK:Mb:=mbK [0,0,0,-1,0,0,0,0,0] [] [] [] []
def S0:LS:=lsK [3,0,1] [0,1,2] [1,1,1] zK zK zK (rwK [0,0,0] [])
def S1:LS:=lsK [3,0,1] [0,1,2] [1,1,1] (mbK [1,1,60,-1,1,1,0,1,1] [0,1,2] [1,1,1] [] []) zK zK (rwK [0,0,0] [])
def S2:LS:=lsK [3,0,1] [0,1,2] [1,1,1] (mbK [1,1,60,-1,1,2,0,1,1] [0,1,2] [1,1,1] [⟨4,2,0⟩] []) zK zK (rwK [2,0,0] [])
def S3:LS:=lsK [3,0,1] [0,1,2] [1,1,1] (mbK [1,1,60,-1,1,2,0,1,1] [0,1,2] [1,1,1] [⟨4,2,0⟩] []) zK zK (rwK [2,0,0] [])
def S4:LS:=lsK [3,61,1] [0,1,2] [1,1,1] (mbK [2,1,60,-1,1,2,0,1,1] [0,1,2] [1,1,1] [⟨4,2,0⟩] []) zK zK (rwK [2,0,0] [])
def S5:LS:=lsK [3,61,1] [0,1,2] [1,1,1] (mbK [2,1,60,-1,1,3,27,1,1] [0,1,2] [1,1,1] [] [⟨0,2,-1⟩]) zK zK (rwK [2,0,0] [])
def S6:LS:=lsK [3,61,1] [0,1,2] [1,1,1] (mbK [2,1,60,-1,1,3,27,1,1] [0,1,2] [1,1,1] [] [⟨0,2,-1⟩]) (mbK [1,1,121,-1,1,1,0,1,1] [0,1,2] [1,1,1] [] [⟨0,2,-1⟩]) zK (rwK [2,0,0] [])
def S7:LS:=lsK [3,61,1] [0,1,2] [1,1,1] (mbK [2,1,60,1,1,3,27,1,1] [0,1,2] [1,1,1] [] [⟨0,2,-1⟩]) (mbK [1,1,121,-1,1,2,0,1,1] [0,1,2] [1,1,1] [] [⟨0,2,1⟩]) zK (rwK [2,0,0] [])
def S8:LS:=lsK [3,61,1] [0,1,2] [1,1,1] (mbK [0,1,60,-1,1,3,27,1,1] [0,1,2] [1,1,1] [] [⟨0,2,-1⟩]) (mbK [1,1,121,-1,1,3,0,1,1] [0,1,2] [1,1,1] [] []) zK (rwK [0,0,0] [])
def S9:LS:=lsK [3,61,1] [0,1,2] [1,1,1] (mbK [1,2,121,-1,2,1,0,2,1] [0,1,2] [1,1,1] [] []) (mbK [1,1,121,-1,1,3,0,1,1] [0,1,2] [1,1,1] [] []) zK (rwK [0,0,0] [])
def V0:Mb:=(mbK [1,1,1,1,1,1,0,1,1] [0,1,2] [1,1,1] [] [])
def V1:Mb:=(mbK [1,1,1,1,1,1,0,1,1] [0,1,2] [1,1,1] [⟨4,2,0⟩] [])
def V2:Mb:=(mbK [1,1,60,-1,1,2,0,1,1] [0,1,2] [1,1,1] [⟨4,2,0⟩] [])
def V3:Mb:=(mbK [0,0,0,0,0,0,0,0,0] [] [] [] [])
def V4:Mb:=(mbK [1,1,1,1,1,1,27,1,1] [0,1,2] [1,1,1] [] [⟨0,2,-1⟩])
def V5:Mb:=(mbK [1,1,1,1,1,1,0,1,1] [0,1,2] [1,1,1] [] [⟨0,2,-1⟩])
def V6:Mb:=(mbK [1,1,1,1,1,1,0,1,1] [0,1,2] [1,1,1] [] [⟨0,2,1⟩])
def V7:Mb:=(mbK [1,1,1,1,1,1,0,1,1] [0,1,2] [1,1,1] [] [])
def V8:Mb:=(mbK [1,1,1,1,1,1,0,2,1] [0,1,2] [1,1,1] [] [])
def K0:Cm:=cmK 1 0 1 1 0 0 0 0 0
def K1:Cm:=cmK 3 0 1 2 1 4 2 0 0
def K2:Cm:=cmK 3 0 1 2 1 4 2 0 0
def K3:Cm:=cmK 8 0 0 0 0 0 0 0 61
def K4:Cm:=cmK 2 0 1 3 1 0 0 0 0
def K5:Cm:=cmK 1 1 1 1 0 0 0 0 0
def K6:Cm:=cmK 5 1 1 2 1 0 0 0 0
def K7:Cm:=cmK 6 1 1 3 1 0 0 0 0
def K8:Cm:=cmK 1 0 2 1 0 0 0 0 0
theorem lsK_ok {xs mf sf:List Int} {a b c:Mb} {w:Rw} (h1:mf.length<=1000/\sf.length<=1000) (ha:a.mn<=1000/\a.sn<=1000/\a.hn<=1000/\a.dn<=1000) (hb:b.mn<=1000/\b.sn<=1000/\b.hn<=1000/\b.dn<=1000)
 (hc:c.mn<=1000/\c.sn<=1000/\c.hn<=1000/\c.dn<=1000) (hw:w.q.length<=1000):(lsK xs mf sf a b c w).ok:=by
 refine ⟨⟨by show mf.length<=_;omega,by show sf.length<=_;omega⟩,fun j=>?_,fun l=>?_⟩
 · have q:∀m:Mb,(m.mn<=1000/\m.sn<=1000/\m.hn<=1000/\m.dn<=1000)->m.mn<=17592186044416/\m.sn<=17592186044416/\m.hn<=5864062014805/\m.dn<=5864062014805:=fun m h=>⟨by omega,by omega,by omega,by omega⟩
   show ((bif Nat.beq j 0 then a else bif Nat.beq j 1 then b else c).mn<=_/\(bif Nat.beq j 0 then a else bif Nat.beq j 1 then b else c).sn<=_/\(bif Nat.beq j 0 then a else bif Nat.beq j 1 then b else c).hn<=_/\(bif Nat.beq j 0 then a else bif Nat.beq j 1 then b else c).dn<=_)
   cases Nat.beq j 0 with
   | true=>exact q a ha
   | false=>cases Nat.beq j 1 with
     | true=>exact q b hb
     | false=>exact q c hc
 · show (bif Nat.beq l 4 then w else ⟨fun _=>0,[]⟩:Rw).q.length<=_
   cases Nat.beq l 4 with
   | true=>rw [cond_true];omega
   | false=>exact Nat.zero_le _
theorem S0_ok:S0.ok:=lsK_ok (by decide) (by decide) (by decide) (by decide) (by decide)
theorem S1_ok:S1.ok:=lsK_ok (by decide) (by decide) (by decide) (by decide) (by decide)
theorem S2_ok:S2.ok:=lsK_ok (by decide) (by decide) (by decide) (by decide) (by decide)
theorem S3_ok:S3.ok:=lsK_ok (by decide) (by decide) (by decide) (by decide) (by decide)
theorem S4_ok:S4.ok:=lsK_ok (by decide) (by decide) (by decide) (by decide) (by decide)
theorem S5_ok:S5.ok:=lsK_ok (by decide) (by decide) (by decide) (by decide) (by decide)
theorem S6_ok:S6.ok:=lsK_ok (by decide) (by decide) (by decide) (by decide) (by decide)
theorem S7_ok:S7.ok:=lsK_ok (by decide) (by decide) (by decide) (by decide) (by decide)
theorem S8_ok:S8.ok:=lsK_ok (by decide) (by decide) (by decide) (by decide) (by decide)
theorem S9_ok:S9.ok:=lsK_ok (by decide) (by decide) (by decide) (by decide) (by decide)
theorem A0_s:lsV (ApS S0 K0)=lsV S1:=by kernel_rfl
theorem A0_v:AV.agg (vwL (ApV S0 K0))=AV.agg (vwL V0):=by kernel_rfl
theorem A0_con:Con PG 15 [lsV S0,cmV K0] [] (.tup [lsV S1,.agg (vwL V0)]) []:=by
 rw [<-A0_s,<-A0_v]
 exact Apply_con S0 S0_ok K0 (by decide) (fun _ _ h=>absurd h (by decide))
theorem A1_s:lsV (ApS S1 K1)=lsV S2:=by kernel_rfl
theorem A1_v:AV.agg (vwL (ApV S1 K1))=AV.agg (vwL V1):=by kernel_rfl
theorem A1_con:Con PG 15 [lsV S1,cmV K1] [] (.tup [lsV S2,.agg (vwL V1)]) []:=by
 rw [<-A1_s,<-A1_v]
 exact Apply_con S1 S1_ok K1 (by decide) (fun _ _ h=>absurd h (by decide))
theorem A2_s:lsV (ApS S2 K2)=lsV S3:=by kernel_rfl
theorem A2_v:AV.agg (vwL (ApV S2 K2))=AV.agg (vwL V2):=by kernel_rfl
theorem A2_con:Con PG 15 [lsV S2,cmV K2] [] (.tup [lsV S3,.agg (vwL V2)]) []:=by
 rw [<-A2_s,<-A2_v]
 exact Apply_con S2 S2_ok K2 (by decide) (fun _ _ h=>absurd h (by decide))
theorem A3_s:lsV (ApS S3 K3)=lsV S4:=by kernel_rfl
theorem A3_v:AV.agg (vwL (ApV S3 K3))=AV.agg (vwL V3):=by kernel_rfl
theorem A3_con:Con PG 15 [lsV S3,cmV K3] [] (.tup [lsV S4,.agg (vwL V3)]) []:=by
 rw [<-A3_s,<-A3_v]
 exact Apply_con S3 S3_ok K3 (by decide) (fun _ _ h=>absurd h (by decide))
theorem A4_s:lsV (ApS S4 K4)=lsV S5:=by kernel_rfl
theorem A4_v:AV.agg (vwL (ApV S4 K4))=AV.agg (vwL V4):=by kernel_rfl
theorem A4_con:Con PG 15 [lsV S4,cmV K4] [] (.tup [lsV S5,.agg (vwL V4)]) []:=by
 rw [<-A4_s,<-A4_v]
 exact Apply_con S4 S4_ok K4 (by decide) (fun _ _ h=>absurd h (by decide))
theorem A5_s:lsV (ApS S5 K5)=lsV S6:=by kernel_rfl
theorem A5_v:AV.agg (vwL (ApV S5 K5))=AV.agg (vwL V5):=by kernel_rfl
theorem A5_con:Con PG 15 [lsV S5,cmV K5] [] (.tup [lsV S6,.agg (vwL V5)]) []:=by
 rw [<-A5_s,<-A5_v]
 exact Apply_con S5 S5_ok K5 (by decide) (fun _ _ h=>absurd h (by decide))
theorem A6_s:lsV (ApS S6 K6)=lsV S7:=by kernel_rfl
theorem A6_v:AV.agg (vwL (ApV S6 K6))=AV.agg (vwL V6):=by kernel_rfl
theorem A6_con:Con PG 15 [lsV S6,cmV K6] [] (.tup [lsV S7,.agg (vwL V6)]) []:=by
 rw [<-A6_s,<-A6_v]
 exact Apply_con S6 S6_ok K6 (by decide) (fun _ _ h=>absurd h (by decide))
theorem A7_s:lsV (ApS S7 K7)=lsV S8:=by kernel_rfl
theorem A7_v:AV.agg (vwL (ApV S7 K7))=AV.agg (vwL V7):=by kernel_rfl
theorem A7_con:Con PG 15 [lsV S7,cmV K7] [] (.tup [lsV S8,.agg (vwL V7)]) []:=by
 rw [<-A7_s,<-A7_v]
 exact Apply_con S7 S7_ok K7 (by decide) (fun _ _ h=>absurd h (by decide))
theorem A8_s:lsV (ApS S8 K8)=lsV S9:=by kernel_rfl
theorem A8_v:AV.agg (vwL (ApV S8 K8))=AV.agg (vwL V8):=by kernel_rfl
theorem A8_con:Con PG 15 [lsV S8,cmV K8] [] (.tup [lsV S9,.agg (vwL V8)]) []:=by
 rw [<-A8_s,<-A8_v]
 exact Apply_con S8 S8_ok K8 (by decide) (fun _ _ h=>absurd h (by decide))
def b9:List Nat:=[3,61,1,3,0,1,2,3,1,1,1,1,2,121,0,2,1,0,2,1,3,0,1,2,3,1,1,1,0,0,1,1,121,0,1,3,0,1,1,3,0,1,2,3,1,1,1,0,0,0,0,0,0,0,0,0,0,0,0,0,0,0,0,0,0,0,0,0,0,0,0,0,0,0,0,0,0,0,0,0,0,0,0,0,0,0,0,0,0,0,0,0,0,0,0,0,0,0,0,0,0,0,0,0,0,0,0,0,0,0,0,0,0,0,0,0,0,0,0,0,0,0,0,0,0,0,0,0,0,0,0,0,0,0,0,0,0,0]
def lA:AV:=.sv 1 3 (listF 1 [.i .i64 0,.i .i64 1,.i .i64 2] 3)
def lB:AV:=.sv 1 3 (listF 1 [.i .i64 1,.i .i64 1,.i .i64 1] 3)
def iA:AV:=isv 3 (fun i=>([0,1,2]:List Int).getD i 0)
def iB:AV:=isv 3 (fun i=>([1,1,1]:List Int).getD i 0)
def i0:AV:=isv 0 (fun i=>([]:List Int).getD i 0)
def q0:AV:=svN 0 (qA []) (qM []) (qW [])
theorem three {P:Nat->Nat->Prop} (a:P 0 0) (b:P 1 0) (c:P 2 0) (i j:Nat) (hi:i<3) (hj:j<1):P i j:=by
 obtain rfl:j=0:=by omega
 match i,hi with
 | 0,_=>exact a
 | 1,_=>exact b
 | 2,_=>exact c
theorem lA_vw:VW lA iA:=VW.sv (three (by kernel_rfl) (by kernel_rfl) (by kernel_rfl))
theorem lB_vw:VW lB iB:=VW.sv (three (by kernel_rfl) (by kernel_rfl) (by kernel_rfl))
def L9:List AV:=[.i .i64 3,.i .i64 61,.i .i64 1,lA,lB,.i .i64 1,.i .i64 2,.i .i64 121,.i .i64 (-1),.i .i64 2,.i .i64 1,.i .i64 0,.i .i64 2,.i .i64 1,lA,lB,.l0,.l0,.i .i64 1,.i .i64 1,.i .i64 121,.i .i64 (-1),.i .i64 1,.i .i64 3,.i .i64 0,.i .i64 1,.i .i64 1,lA,lB,.l0,.l0,.i .i64 0,.i .i64 0,.i .i64 0,.i .i64 (-1),.i .i64 0,.i .i64 0,.i .i64 0,.i .i64 0,.i .i64 0,.l0,.l0,.l0,.l0,.i .i64 0,.i .i64 0,.i .i64 0,.i .i64 0,.i .i64 0,.i .i64 0,.i .i64 0,.i .i64 0,.i .i64 0,.i .i64 0,.i .i64 0,.i .i64 0,.i .i64 0,.i .i64 0,.i .i64 0,.i .i64 0,.i .i64 0,.i .i64 0,.i .i64 0,.i .i64 0,.i .i64 0,.i .i64 0,.i .i64 0,.i .i64 0,.i .i64 0,.i .i64 0,.i .i64 0,.i .i64 0,.i .i64 0,.i .i64 0,.i .i64 0,.i .i64 0,.i .i64 0,.i .i64 0,.i .i64 0,.i .i64 0,.i .i64 0,.i .i64 0,.i .i64 0,.i .i64 0,.i .i64 0,.i .i64 0,.i .i64 0,.i .i64 0,.i .i64 0,.i .i64 0,.i .i64 0,.i .i64 0,.i .i64 0,.i .i64 0,.i .i64 0,.i .i64 0,.i .i64 0,.i .i64 0,.i .i64 0,.i .i64 0,.i .i64 0,.l0,.l0,.l0,.l0,.l0,.l0,.l0,.l0,.l0,.l0,.l0,.l0,.l0,.l0,.l0,.l0,.l0,.l0,.l0]
def M9:List AV:=[.i .i64 3,.i .i64 61,.i .i64 1,iA,iB,.i .i64 1,.i .i64 2,.i .i64 121,.i .i64 (-1),.i .i64 2,.i .i64 1,.i .i64 0,.i .i64 2,.i .i64 1,iA,iB,q0,q0,.i .i64 1,.i .i64 1,.i .i64 121,.i .i64 (-1),.i .i64 1,.i .i64 3,.i .i64 0,.i .i64 1,.i .i64 1,iA,iB,q0,q0,.i .i64 0,.i .i64 0,.i .i64 0,.i .i64 (-1),.i .i64 0,.i .i64 0,.i .i64 0,.i .i64 0,.i .i64 0,i0,i0,q0,q0,.i .i64 0,.i .i64 0,.i .i64 0,.i .i64 0,.i .i64 0,.i .i64 0,.i .i64 0,.i .i64 0,.i .i64 0,.i .i64 0,.i .i64 0,.i .i64 0,.i .i64 0,.i .i64 0,.i .i64 0,.i .i64 0,.i .i64 0,.i .i64 0,.i .i64 0,.i .i64 0,.i .i64 0,.i .i64 0,.i .i64 0,.i .i64 0,.i .i64 0,.i .i64 0,.i .i64 0,.i .i64 0,.i .i64 0,.i .i64 0,.i .i64 0,.i .i64 0,.i .i64 0,.i .i64 0,.i .i64 0,.i .i64 0,.i .i64 0,.i .i64 0,.i .i64 0,.i .i64 0,.i .i64 0,.i .i64 0,.i .i64 0,.i .i64 0,.i .i64 0,.i .i64 0,.i .i64 0,.i .i64 0,.i .i64 0,.i .i64 0,.i .i64 0,.i .i64 0,.i .i64 0,.i .i64 0,.i .i64 0,.i .i64 0,.i .i64 0,q0,q0,q0,q0,q0,q0,q0,q0,q0,q0,q0,q0,q0,q0,q0,q0,q0,q0,q0]
theorem L9_vw:VWL L9 M9:=⟨.refl _,.refl _,.refl _,lA_vw,lB_vw,.refl _,.refl _,.refl _,.refl _,.refl _,.refl _,.refl _,.refl _,.refl _,lA_vw,lB_vw,.nil _ _,.nil _ _,.refl _,.refl _,.refl _,.refl _,.refl _,.refl _,.refl _,.refl _,.refl _,lA_vw,lB_vw,.nil _ _,.nil _ _,.refl _,.refl _,.refl _,.refl _,.refl _,.refl _,.refl _,.refl _,.refl _,.nil _ _,.nil _ _,.nil _ _,.nil _ _,.refl _,.refl _,.refl _,.refl _,.refl _,.refl _,.refl _,.refl _,.refl _,.refl _,.refl _,.refl _,.refl _,.refl _,.refl _,.refl _,.refl _,.refl _,.refl _,.refl _,.refl _,.refl _,.refl _,.refl _,.refl _,.refl _,.refl _,.refl _,.refl _,.refl _,.refl _,.refl _,.refl _,.refl _,.refl _,.refl _,.refl _,.refl _,.refl _,.refl _,.refl _,.refl _,.refl _,.refl _,.refl _,.refl _,.refl _,.refl _,.refl _,.refl _,.refl _,.refl _,.refl _,.refl _,.refl _,.refl _,.refl _,.nil _ _,.nil _ _,.nil _ _,.nil _ _,.nil _ _,.nil _ _,.nil _ _,.nil _ _,.nil _ _,.nil _ _,.nil _ _,.nil _ _,.nil _ _,.nil _ _,.nil _ _,.nil _ _,.nil _ _,.nil _ _,.nil _ _,trivial⟩
theorem M9_eq:AV.agg M9=lsV S9:=by kernel_rfl
set_option maxRecDepth 1000000 in
theorem enc9_con:Con PG 26 [lsV S9] [] (.tup [.s b9,.i .i64 0]) []:=con_xx (fuel:=100000000) (fz:=[]) (nx:=100) (by kernel_rfl)
set_option maxRecDepth 1000000 in
theorem dec9_con0:Con PG 30 [.s b9] [] (.tup [.agg L9,.i .i64 0]) []:=con_xx (fuel:=100000000) (fz:=[15,24,33,42,51,60]) (nx:=100) (by kernel_rfl)
theorem dec9_con:Con PG 30 [.s b9] [] (.tup [lsV S9,.i .i64 0]) []:=by
 rw [<-M9_eq]
 exact dec9_con0.post (.tup ⟨.agg L9_vw,.refl _,trivial⟩) (.refl _)
def P3:List AV:=[.i .i64 3,.i .i64 0,.i .i64 1,lA,lB,.i .i64 0,.i .i64 0,.i .i64 0,.i .i64 (-1),.i .i64 0,.i .i64 0,.i .i64 0,.i .i64 0,.i .i64 0,.l0,.l0,.l0,.l0,.i .i64 0,.i .i64 0,.i .i64 0,.i .i64 (-1),.i .i64 0,.i .i64 0,.i .i64 0,.i .i64 0,.i .i64 0,.l0,.l0,.l0,.l0,.i .i64 0,.i .i64 0,.i .i64 0,.i .i64 (-1),.i .i64 0,.i .i64 0,.i .i64 0,.i .i64 0,.i .i64 0,.l0,.l0,.l0,.l0,.i .i64 0,.i .i64 0,.i .i64 0,.i .i64 0,.i .i64 0,.i .i64 0,.i .i64 0,.i .i64 0,.i .i64 0,.i .i64 0,.i .i64 0,.i .i64 0,.i .i64 0,.i .i64 0,.i .i64 0,.i .i64 0,.i .i64 0,.i .i64 0,.i .i64 0,.i .i64 0,.i .i64 0,.i .i64 0,.i .i64 0,.i .i64 0,.i .i64 0,.i .i64 0,.i .i64 0,.i .i64 0,.i .i64 0,.i .i64 0,.i .i64 0,.i .i64 0,.i .i64 0,.i .i64 0,.i .i64 0,.i .i64 0,.i .i64 0,.i .i64 0,.i .i64 0,.i .i64 0,.i .i64 0,.i .i64 0,.i .i64 0,.i .i64 0,.i .i64 0,.i .i64 0,.i .i64 0,.i .i64 0,.i .i64 0,.i .i64 0,.i .i64 0,.i .i64 0,.i .i64 0,.i .i64 0,.i .i64 0,.i .i64 0,.i .i64 0,.l0,.l0,.l0,.l0,.l0,.l0,.l0,.l0,.l0,.l0,.l0,.l0,.l0,.l0,.l0,.l0,.l0,.l0,.l0]
def Q3:List AV:=[.i .i64 3,.i .i64 0,.i .i64 1,iA,iB,.i .i64 0,.i .i64 0,.i .i64 0,.i .i64 (-1),.i .i64 0,.i .i64 0,.i .i64 0,.i .i64 0,.i .i64 0,i0,i0,q0,q0,.i .i64 0,.i .i64 0,.i .i64 0,.i .i64 (-1),.i .i64 0,.i .i64 0,.i .i64 0,.i .i64 0,.i .i64 0,i0,i0,q0,q0,.i .i64 0,.i .i64 0,.i .i64 0,.i .i64 (-1),.i .i64 0,.i .i64 0,.i .i64 0,.i .i64 0,.i .i64 0,i0,i0,q0,q0,.i .i64 0,.i .i64 0,.i .i64 0,.i .i64 0,.i .i64 0,.i .i64 0,.i .i64 0,.i .i64 0,.i .i64 0,.i .i64 0,.i .i64 0,.i .i64 0,.i .i64 0,.i .i64 0,.i .i64 0,.i .i64 0,.i .i64 0,.i .i64 0,.i .i64 0,.i .i64 0,.i .i64 0,.i .i64 0,.i .i64 0,.i .i64 0,.i .i64 0,.i .i64 0,.i .i64 0,.i .i64 0,.i .i64 0,.i .i64 0,.i .i64 0,.i .i64 0,.i .i64 0,.i .i64 0,.i .i64 0,.i .i64 0,.i .i64 0,.i .i64 0,.i .i64 0,.i .i64 0,.i .i64 0,.i .i64 0,.i .i64 0,.i .i64 0,.i .i64 0,.i .i64 0,.i .i64 0,.i .i64 0,.i .i64 0,.i .i64 0,.i .i64 0,.i .i64 0,.i .i64 0,.i .i64 0,.i .i64 0,.i .i64 0,.i .i64 0,q0,q0,q0,q0,q0,q0,q0,q0,q0,q0,q0,q0,q0,q0,q0,q0,q0,q0,q0]
theorem P3_vw:VWL P3 Q3:=⟨.refl _,.refl _,.refl _,lA_vw,lB_vw,.refl _,.refl _,.refl _,.refl _,.refl _,.refl _,.refl _,.refl _,.refl _,.nil _ _,.nil _ _,.nil _ _,.nil _ _,.refl _,.refl _,.refl _,.refl _,.refl _,.refl _,.refl _,.refl _,.refl _,.nil _ _,.nil _ _,.nil _ _,.nil _ _,.refl _,.refl _,.refl _,.refl _,.refl _,.refl _,.refl _,.refl _,.refl _,.nil _ _,.nil _ _,.nil _ _,.nil _ _,.refl _,.refl _,.refl _,.refl _,.refl _,.refl _,.refl _,.refl _,.refl _,.refl _,.refl _,.refl _,.refl _,.refl _,.refl _,.refl _,.refl _,.refl _,.refl _,.refl _,.refl _,.refl _,.refl _,.refl _,.refl _,.refl _,.refl _,.refl _,.refl _,.refl _,.refl _,.refl _,.refl _,.refl _,.refl _,.refl _,.refl _,.refl _,.refl _,.refl _,.refl _,.refl _,.refl _,.refl _,.refl _,.refl _,.refl _,.refl _,.refl _,.refl _,.refl _,.refl _,.refl _,.refl _,.refl _,.refl _,.refl _,.nil _ _,.nil _ _,.nil _ _,.nil _ _,.nil _ _,.nil _ _,.nil _ _,.nil _ _,.nil _ _,.nil _ _,.nil _ _,.nil _ _,.nil _ _,.nil _ _,.nil _ _,.nil _ _,.nil _ _,.nil _ _,.nil _ _,trivial⟩
theorem Q3_eq:AV.agg Q3=lsV S0:=by kernel_rfl
set_option maxRecDepth 1000000 in
theorem start3_con0:Con PG 13 [.i .i64 3] [] (.tup [.agg P3,.i .i64 0]) []:=con_xx (fuel:=100000000) (fz:=[12,14]) (nx:=100) (by kernel_rfl)
theorem start3_con:Con PG 13 [.i .i64 3] [] (.tup [lsV S0,.i .i64 0]) []:=by
 rw [<-Q3_eq]
 exact start3_con0.post (.tup ⟨.agg P3_vw,.refl _,trivial⟩) (.refl _)
theorem B0_con:Con PG 15 [lsV S0,.agg [.i .i64 1,.i .i64 0,.i .i64 1,.i .i64 1,.i .i64 0,.i .i64 0,.i .i64 0,.i .i64 0,.l0,.i .i64 0]] [] (.tup [lsV S1,.agg (vwL V0)]) []:=A0_con.pre ⟨.refl _,.agg ⟨.refl _,.refl _,.refl _,.refl _,.refl _,.refl _,.refl _,.refl _,.nil _ _,.refl _,trivial⟩,trivial⟩
theorem B1_con:Con PG 15 [lsV S1,.agg [.i .i64 3,.i .i64 0,.i .i64 1,.i .i64 2,.i .i64 1,.i .i64 4,.i .i64 2,.i .i64 0,.l0,.i .i64 0]] [] (.tup [lsV S2,.agg (vwL V1)]) []:=A1_con.pre ⟨.refl _,.agg ⟨.refl _,.refl _,.refl _,.refl _,.refl _,.refl _,.refl _,.refl _,.nil _ _,.refl _,trivial⟩,trivial⟩
theorem B2_con:Con PG 15 [lsV S2,.agg [.i .i64 3,.i .i64 0,.i .i64 1,.i .i64 2,.i .i64 1,.i .i64 4,.i .i64 2,.i .i64 0,.l0,.i .i64 0]] [] (.tup [lsV S3,.agg (vwL V2)]) []:=A2_con.pre ⟨.refl _,.agg ⟨.refl _,.refl _,.refl _,.refl _,.refl _,.refl _,.refl _,.refl _,.nil _ _,.refl _,trivial⟩,trivial⟩
theorem B3_con:Con PG 15 [lsV S3,.agg [.i .i64 8,.i .i64 0,.i .i64 0,.i .i64 0,.i .i64 0,.i .i64 0,.i .i64 0,.i .i64 0,.l0,.i .i64 61]] [] (.tup [lsV S4,.agg (vwL V3)]) []:=A3_con.pre ⟨.refl _,.agg ⟨.refl _,.refl _,.refl _,.refl _,.refl _,.refl _,.refl _,.refl _,.nil _ _,.refl _,trivial⟩,trivial⟩
theorem B4_con:Con PG 15 [lsV S4,.agg [.i .i64 2,.i .i64 0,.i .i64 1,.i .i64 3,.i .i64 1,.i .i64 0,.i .i64 0,.i .i64 0,.l0,.i .i64 0]] [] (.tup [lsV S5,.agg (vwL V4)]) []:=A4_con.pre ⟨.refl _,.agg ⟨.refl _,.refl _,.refl _,.refl _,.refl _,.refl _,.refl _,.refl _,.nil _ _,.refl _,trivial⟩,trivial⟩
theorem B5_con:Con PG 15 [lsV S5,.agg [.i .i64 1,.i .i64 1,.i .i64 1,.i .i64 1,.i .i64 0,.i .i64 0,.i .i64 0,.i .i64 0,.l0,.i .i64 0]] [] (.tup [lsV S6,.agg (vwL V5)]) []:=A5_con.pre ⟨.refl _,.agg ⟨.refl _,.refl _,.refl _,.refl _,.refl _,.refl _,.refl _,.refl _,.nil _ _,.refl _,trivial⟩,trivial⟩
theorem B6_con:Con PG 15 [lsV S6,.agg [.i .i64 5,.i .i64 1,.i .i64 1,.i .i64 2,.i .i64 1,.i .i64 0,.i .i64 0,.i .i64 0,.l0,.i .i64 0]] [] (.tup [lsV S7,.agg (vwL V6)]) []:=A6_con.pre ⟨.refl _,.agg ⟨.refl _,.refl _,.refl _,.refl _,.refl _,.refl _,.refl _,.refl _,.nil _ _,.refl _,trivial⟩,trivial⟩
theorem B7_con:Con PG 15 [lsV S7,.agg [.i .i64 6,.i .i64 1,.i .i64 1,.i .i64 3,.i .i64 1,.i .i64 0,.i .i64 0,.i .i64 0,.l0,.i .i64 0]] [] (.tup [lsV S8,.agg (vwL V7)]) []:=A7_con.pre ⟨.refl _,.agg ⟨.refl _,.refl _,.refl _,.refl _,.refl _,.refl _,.refl _,.refl _,.nil _ _,.refl _,trivial⟩,trivial⟩
theorem B8_con:Con PG 15 [lsV S8,.agg [.i .i64 1,.i .i64 0,.i .i64 2,.i .i64 1,.i .i64 0,.i .i64 0,.i .i64 0,.i .i64 0,.l0,.i .i64 0]] [] (.tup [lsV S9,.agg (vwL V8)]) []:=A8_con.pre ⟨.refl _,.agg ⟨.refl _,.refl _,.refl _,.refl _,.refl _,.refl _,.refl _,.refl _,.nil _ _,.refl _,trivial⟩,trivial⟩
theorem awk_vc (t0 t1 t2 t3 t4 t5 t6 t7 t8 t9:TS) (v0 v1 v2 v3 v4 v5 v6 v7 v8:Mb) (bs:List Nat) (h0:decide (v0.x 6=0)=true) (h1:decide (v0.x 7=1)=true) (h2:decide (v0.x 8=1)=true) (h3:decide (v3.x 6=0)=true) (h4:decide (v4.x 6=27)=true) (h5:decide (v5.x 6=0)=true) (h6:decide (v6.x 6=0)=true) (h7:decide (v7.x 6=0)=true) (h8:decide (v8.x 7=2)=true) (g0:decide (ofNat v1.hn=1)=true) (g1:(decide (v1.hA 0=4) && (decide (v1.hM 0=2) && (decide (v1.hW 0=0) && true)))=true) (g4:decide (ofNat v4.dn=1)=true) (g5:(decide (v4.dA 0=0) && (decide (v4.dM 0=2) && (decide (v4.dW 0=-1) && true)))=true) (g8:decide (ofNat v6.dn=1)=true) (g9:decide (v6.dW 0=1)=true) (ga:decide (ofNat v7.dn=0)=true) (gb:decide (t9.h 4 0=0)=true) (V:AV):runK PG 1000000 (.call 14 [] (mkH [])) (.cal [] (.tup [tsV t0,.i .i64 0]) [] (.inl (.cal [] (.tup [tsV t1,.agg (vwL v0)]) [] (.inl (.cal [] (.tup [tsV t2,.agg (vwL v1)]) [] (.cal [] (.tup [tsV t3,.agg (vwL v2)]) [] (oc 4 (ot 3 (.f (ot 4 (.f (ot 4 (.f (ot 6 (.f (ot 3 (.cal [] (.b true) [] (.t (.f (.c (.cal [] (.tup [tsV t4,.agg (vwL v3)]) [] (.inl (.cal [] (.tup [tsV t5,.agg (vwL v4)]) [] (.inl (.cal [] (.tup [tsV t6,.agg (vwL v5)]) [] (ot 3 (.f (ot 4 (.f (ot 6 (.f (ot 3 (.f (.f (.inl (.cal [] (.tup [tsV t7,.agg (vwL v6)]) [] (.inl (.cal [] (.tup [tsV t8,.agg (vwL v7)]) [] (.inl (.cal [] (.tup [tsV t9,.agg (vwL v8)]) [] (.cal
 [] (.tup [.s bs,.i .i64 0]) [] (.cal [] (.tup [tsV t9,.i .i64 0]) [] (ot 28 (oc 6 (.cal [] (.b true) [] (oc 9 .z)))))))))))))))))))))))))))))))))))))))))))))) (fun r _=>rvIs V r)=((fun (q5:Bool)=>((fun (q4:List AV)=>((fun (q3:Bool)=>((fun (q2:Bool)=>((fun (q1:Bool)=>((fun (q0:Bool)=>(Con PG 13 [.i .i64 3] [] (.tup [tsV t0,.i .i64 0]) []/\Con PG 15 [tsV t0,.agg [.i .i64 1,.i .i64 0,.i .i64 1,.i .i64 1,.i .i64 0,.i .i64 0,.i .i64 0,.i .i64 0,.l0,.i .i64 0]] [] (.tup [tsV t1,.agg (vwL v0)]) []/\True/\True/\Con PG 15 [tsV t1,.agg q4] [] (.tup [tsV t2,.agg (vwL v1)]) []/\Con PG 15 [tsV t2,.agg q4] [] (.tup [tsV t3,.agg (vwL v2)]) []/\True/\(!!decide (Mb.x v0 6=0))=true/\True/\r2 ((!!decide (Mb.x v0 6=0))=true) ((!decide (Mb.x v0 6=0))=false/\q5=true/\True/\q5=true/\True/\r2 (q5=true) ((!decide (Mb.x v0 7=1))=false/\(!!decide (Mb.x v0 8=1))=true/\True/\r3 ((!!decide (Mb.x v0 8=1))=true) ((!decide (Mb.x v0 8=1))=false/\q2=true/\True/\r2 (q2=true) (((0:Int)<=(0:Int)/\(0:Int)<↑(Mb.hn v1))/\q2=true/\True/\r2 (q2=true) (True/\(!decide (ofNat (Mb.hn v1)=1))=false/\r3 ((!!q1)=true) (Con PG 20 [.agg (vwL v1),.agg (vwL v2)] [] (.b true) []/\(!!q1)=true/\True/\(!q1)=false/\Con PG 15 [tsV t3,.agg [.i .i64 8,.i .i64 0,.i .i64 0,.i .i64 0,.i .i64 0,.i .i64 0,.i .i64 0,.i .i64 0,.l0,.i .i64 61]] [] (.tup [tsV t4,.agg (vwL v3)]) []/\Con PG 15
 [tsV t4,.agg [.i .i64 2,.i .i64 0,.i .i64 1,.i .i64 3,.i .i64 1,.i .i64 0,.i .i64 0,.i .i64 0,.l0,.i .i64 0]] [] (.tup [tsV t5,.agg (vwL v4)]) []/\Con PG 15 [tsV t5,.agg [.i .i64 1,.i .i64 1,.i .i64 1,.i .i64 1,.i .i64 0,.i .i64 0,.i .i64 0,.i .i64 0,.l0,.i .i64 0]] [] (.tup [tsV t6,.agg (vwL v5)]) []/\True/\(!!decide (Mb.x v3 6=0))=true/\True/\r2 ((!!decide (Mb.x v3 6=0))=true) ((!decide (Mb.x v3 6=0))=false/\(!!decide (Mb.x v4 6=27))=true/\True/\r3 ((!!decide (Mb.x v4 6=27))=true) ((!decide (Mb.x v4 6=27))=false/\q3=true/\True/\r2 (q3=true) (((0:Int)<=(0:Int)/\(0:Int)<↑(Mb.dn v4))/\q3=true/\True/\r2 (q3=true) (True/\(!decide (ofNat (Mb.dn v4)=1))=false/\(!!q0)=true/\True/\r2 ((!!q0)=true) ((!q0)=false/\(!decide (Mb.x v5 6=0))=false/\Con PG 15 [tsV t6,.agg [.i .i64 5,.i .i64 1,.i .i64 1,.i .i64 2,.i .i64 1,.i .i64 0,.i .i64 0,.i .i64 0,.l0,.i .i64 0]] [] (.tup [tsV t7,.agg (vwL v6)]) []/\Con PG 15 [tsV t7,.agg [.i .i64 6,.i .i64 1,.i .i64 1,.i .i64 3,.i .i64 1,.i .i64 0,.i .i64 0,.i .i64 0,.l0,.i .i64 0]] [] (.tup [tsV t8,.agg (vwL v7)]) []/\Con PG 15 [tsV t8,.agg [.i .i64 1,.i .i64 0,.i .i64 2,.i .i64 1,.i .i64 0,.i .i64 0,.i .i64 0,.i .i64 0,.l0,.i .i64 0]] [] (.tup [tsV t9,.agg (vwL v8)]) []/\Con PG 26 [tsV t9] [] (.tup [.s bs,.i .i64 0]) []/\Con PG 30 [.s bs] [] (.tup [tsV t9,.i .i64 0]) []/\True/\decide (Mb.x v6 6=0)=true/\
 True/\r4 (decide (Mb.x v6 6=0)=true) (decide (ofNat (Mb.dn v6)=1)=true/\True/\r2 (decide (ofNat (Mb.dn v6)=1)=true) (((0:Int)<=(0:Int)/\(0:Int)<↑(Mb.dn v6))/\decide (ofNat (Mb.dn v6)=1)=true/\True/\decide (ofNat (Mb.dn v6)=1)=true/\True/\r2 (decide (ofNat (Mb.dn v6)=1)=true) (decide (Mb.dW v6 0=1)=true/\True/\r3 (decide (Mb.dW v6 0=1)=true) (decide (Mb.x v7 6=0)=true/\True/\r4 (decide (Mb.x v7 6=0)=true) (decide (ofNat (Mb.dn v7)=0)=true/\True/\r3 (decide (ofNat (Mb.dn v7)=0)=true) (r3 (decide (Mb.x v8 7=2)=true) (Con PG 19 [tsV t9,tsV t9] [] (.b true) []/\True/\(.b (decide (TS.h t9 4 0=0)))=V)))))))))))))))))))) (decide (Mb.dA v4 0=0) && (decide (Mb.dM v4 0=2) && (decide (Mb.dW v4 0=(-1)) && true))))) (decide (Mb.hA v1 0=4) && (decide (Mb.hM v1 0=2) && (decide (Mb.hW v1 0=0) && true))))) (!!decide (ofNat (Mb.hn v1)=1)))) (!!decide (ofNat (Mb.dn v4)=1)))) [.i .i64 3,.i .i64 0,.i .i64 1,.i .i64 2,.i .i64 1,.i .i64 4,.i .i64 2,.i .i64 0,.l0,.i .i64 0])) (!!decide (Mb.x v0 7=1))):=by kernel_rfl
theorem awake_con:Con PG 14 [] [] (.b true) []:=con_pureX (awk_vc S0.ts S1.ts S2.ts S3.ts S4.ts S5.ts S6.ts S7.ts S8.ts S9.ts V0 V1 V2 V3 V4 V5 V6 V7 V8 b9 (by kernel_rfl) (by kernel_rfl) (by kernel_rfl) (by kernel_rfl) (by kernel_rfl) (by kernel_rfl) (by kernel_rfl) (by kernel_rfl) (by kernel_rfl) (by kernel_rfl) (by kernel_rfl) (by kernel_rfl) (by kernel_rfl) (by kernel_rfl) (by kernel_rfl) (by kernel_rfl) (by kernel_rfl) _) rfl ⟨start3_con,B0_con,trivial,trivial,B1_con,B2_con,trivial,(by kernel_rfl),trivial,(by kernel_rfl),(by kernel_rfl),(by kernel_rfl),(by kernel_rfl),trivial,(by kernel_rfl),trivial,(by kernel_rfl),(by kernel_rfl),(by kernel_rfl),(by kernel_rfl),trivial,(by kernel_rfl),(by kernel_rfl),(by kernel_rfl),(by kernel_rfl),(by kernel_rfl),trivial,(by kernel_rfl),(by kernel_rfl),(by decide),(by kernel_rfl),trivial,(by kernel_rfl),(by kernel_rfl),trivial,(by kernel_rfl),(by kernel_rfl),(by kernel_rfl),(by kernel_rfl),sv_con V1 (by decide),(by kernel_rfl),trivial,(by kernel_rfl),B3_con,B4_con,B5_con,trivial,(by kernel_rfl),trivial,(by kernel_rfl),(by kernel_rfl),(by kernel_rfl),(by kernel_rfl),trivial,(by kernel_rfl),(by kernel_rfl),(by kernel_rfl),(by kernel_rfl),(by kernel_rfl),trivial,(by kernel_rfl),(by kernel_rfl),(by decide),(by kernel_rfl),trivial,(by kernel_rfl),(by kernel_rfl),trivial,(by kernel_rfl),(by kernel_rfl),trivial,(by kernel_rfl),(by kernel_rfl),(by kernel_rfl),(by kernel_rfl),B6_con,B7_con,B8_con,enc9_con,dec9_con,trivial,(by kernel_rfl),trivial,(by kernel_rfl),(by kernel_rfl),(by kernel_rfl),(by kernel_rfl),(by kernel_rfl),trivial,(by kernel_rfl),(by kernel_rfl),(by decide),(by kernel_rfl),trivial,(by kernel_rfl),trivial,(by kernel_rfl),(by kernel_rfl),(by kernel_rfl),trivial,(by kernel_rfl),(by kernel_rfl),(by kernel_rfl),(by kernel_rfl),trivial,(by kernel_rfl),(by kernel_rfl),(by kernel_rfl),(by kernel_rfl),(by kernel_rfl),trivial,(by kernel_rfl),(by kernel_rfl),(by kernel_rfl),(by kernel_rfl),(by kernel_rfl),(by kernel_rfl),sam_con S9 S9_ok,trivial,(by kernel_rfl)⟩
theorem sL_s (s:LS) (j i:Nat) (b:Mb):(sL s j b).r.s i=bif Nat.beq i j then b else s.r.s i:=rfl
theorem hx_n (h:Nat->Int):∀i,i<3->hx h (ofNat i)=h i
 | 0,_=>rfl
 | 1,_=>rfl
 | 2,_=>rfl
theorem lt3 {s:Nat} (h:s<3):s=0\/s=1\/s=2:=by omega
def Hm (s u:LS) (i:Nat):Prop:=∀l,l<19->(s.row l).h i<=(u.row l).h i
def Hz (u:LS) (i:Nat):Prop:=∀l,l<19->(u.row l).h i=0
theorem Hm.refl (s:LS) (i:Nat):Hm s s i:=fun _ _=>Int.le_refl _
theorem onR_at {r:Rw} (w:RowW r) {k:Int} (hk:0<=k/\k<3):hx (onR (freeR r k)).h k=0/\∀b,0<=b/\b<3->b≠k->hx r.h b<=hx (onR (freeR r k)).h b:=by
 have wf:=free_w w hk
 have e:onR (freeR r k)=goL (setH r.h k 0) (rmQ k r.q):=by rw [freeR_eq];rfl
 rw [freeR_eq] at wf
 obtain ⟨p,p1,p2,p3⟩:=goL_spec (rmQ k r.q) (setH r.h k 0) wf
 rw [e]
 refine ⟨?_,fun b hb hne=>?_⟩
 · rw [p3 k hk fun x hx9=>rmQ_ne k r.q w.once x (by rw [p1];exact List.mem_append_left _ hx9),hx_set _ _ hk hk,if_pos rfl]
 · have:=goL_mono wf hb
   rwa [hx_set _ _ hk hb,if_neg hne] at this
theorem set_row (s:LS) (l j:Nat) (r:Rw):(s.set l r).row j=bif Nat.beq j l then r else s.row j:=rfl
theorem hm_lk {s:LS} (v:vaS s=true) (c:Cm) (i:Nat) (hi:i<3):Hm s (lkS s c) i:=by
 unfold lkS
 cases h:decide (askE s c.lk c.sv c.md=0) with
 | false=>exact .refl s i
 | true=>
   rw [cond_true]
   have h:=of_decide_eq_true h
   unfold askE at h
   cases ok:okA s c.lk c.sv c.md with
   | false=>rw [ok] at h;cases h
   | true=>
     obtain ⟨h1,h2,h3,_⟩:=okA_iff.1 ok
     unfold askS
     rw [ok,cond_true]
     intro l hl
     rw [set_row]
     cases e:Nat.beq l c.lk.toNat with
     | false=>exact Int.le_refl _
     | true=>
       have e:=Nat.eq_of_beq_eq_true e
       rw [<-e,cond_true]
       have w:=(mayB_ok (va_row v hl)).w.1
       have q:hx (s.row l).h (ofNat i)<=hx (onR (askR (s.row l) c.sv c.md)).h (ofNat i):=goL_mono (ask_w w h2 h3) (b:=ofNat i) ⟨by simp,by simp;omega⟩
       rw [hx_n _ i hi,hx_n _ i hi] at q
       exact q
theorem hm_ul {s:LS} (v:vaS s=true) (c:Cm) (i:Nat) (hi:i<3) (hne:ofNat i≠c.sv):Hm s (ulS s c) i:=by
 unfold ulS
 cases h:decide (freeE s c.lk c.sv=0) with
 | false=>exact .refl s i
 | true=>
   rw [cond_true]
   have h:=of_decide_eq_true h
   unfold freeE at h
   cases ok:okF s c.lk c.sv with
   | false=>rw [ok] at h;cases h
   | true=>
     obtain ⟨h1,h2,_⟩:=okF_iff.1 ok
     unfold freeS
     rw [ok,cond_true]
     intro l hl
     rw [set_row]
     cases e:Nat.beq l c.lk.toNat with
     | false=>exact Int.le_refl _
     | true=>
       have e:=Nat.eq_of_beq_eq_true e
       rw [<-e,cond_true]
       have q:=(onR_at (mayB_ok (va_row v hl)).w.1 h2).2 (ofNat i) ⟨by simp,by simp;omega⟩ hne
       rw [hx_n _ i hi,hx_n _ i hi] at q
       exact q
theorem hm_dr {s:LS} (v:vaS s=true) (j:Nat) (hj:j<3):Hz (dropS s (ofNat j)) j/\∀i,i<3->i≠j->Hm s (dropS s (ofNat j)) i:=by
 have hk:0<=ofNat j/\ofNat j<3:=⟨by simp,by simp;omega⟩
 refine ⟨fun l hl=>?_,fun i hi hne l hl=>?_⟩
 · rw [dropS_row v hk hl]
   have q:=(onR_at (mayB_ok (va_row v hl)).w.1 hk).1
   rw [hx_n _ j hj] at q
   exact q
 · rw [dropS_row v hk hl]
   have q:=(onR_at (mayB_ok (va_row v hl)).w.1 hk).2 (ofNat i) ⟨by simp,by simp;omega⟩ (by simp;omega)
   rw [hx_n _ i hi,hx_n _ i hi] at q
   exact q
structure Sr (w u:LS) (c:Cm) (e:Int) (i:Nat):Prop where
 g:(w.r.s i).x 1<=(u.r.s i).x 1
 b:(w.r.s i).x 4<=(u.r.s i).x 4
 a:(w.r.s i).x 0=2->((u.r.s i).x 0=2/\Hm w u i/\((u.r.s i).x 3=(w.r.s i).x 3\/(c.k=5/\c.sv=(u.r.s i).x 3/\∀h,h<3->ofNat h=(w.r.s i).x 3->(u.r.s h).x 0≠1)))\/
  ((u.r.s i).x 0=0/\Hz u i/\c.k=6/\c.ot=ofNat i/\c.sv=(w.r.s i).x 3/\e=0)
theorem Sr.same {w u:LS} {i:Nat} (h:∀n,n<5->(u.r.s i).x n=(w.r.s i).x n) (hr:Hm w u i) (c:Cm) (e:Int):Sr w u c e i:=
 ⟨by rw [h 1 (by decide)];exact Int.le_refl _,by rw [h 4 (by decide)];exact Int.le_refl _,fun q=>.inl ⟨by rw [h 0 (by decide)];exact q,hr,.inl (h 3 (by decide))⟩⟩
structure De (w u:LS) (c:Cm) (e:Int):Prop where
 tm:w.r.x 1<=u.r.x 1
 ep:w.r.x 2<=u.r.x 2/\u.r.x 2<=w.r.x 2+1
 sv:∀i,i<3->Sr w u c e i
theorem De.refl (w:LS) (c:Cm) (e:Int):De w w c e:=⟨Int.le_refl _,⟨Int.le_refl _,by omega⟩,fun i hi=>.same (fun _ _=>rfl) (.refl _ _) c e⟩
theorem De.row {w u:LS} (h:u.r=w.r) (c:Cm) (e:Int) (hm:∀i,i<3->(w.r.s i).x 0=2->Hm w u i):De w u c e:=
 ⟨by rw [h];exact Int.le_refl _,by rw [h];exact ⟨Int.le_refl _,by omega⟩,fun i hi=>⟨by rw [h];exact Int.le_refl _,by rw [h];exact Int.le_refl _,fun q=>.inl ⟨by rw [h];exact q,hm i hi q,.inl (by rw [h])⟩⟩⟩
theorem sL_h (s:LS) (j:Nat) (b:Mb) (i:Nat):Hm s (sL s j b) i:=fun _ _=>Int.le_refl _
theorem De.one (w:LS) (j:Nat) (b:Mb) (c:Cm) (e:Int) (h1:(w.r.s j).x 1<=b.x 1) (h4:(w.r.s j).x 4<=b.x 4) (h0:(w.r.s j).x 0=2->b.x 0=2/\b.x 3=(w.r.s j).x 3):De w (sL w j b) c e:=by
 refine ⟨Int.le_refl _,⟨Int.le_refl _,by show w.r.x 2<=_;omega⟩,fun i hi=>?_⟩
 cases e':Nat.beq i j with
 | false=>
   have q:(sL w j b).r.s i=w.r.s i:=by rw [sL_s,e'];rfl
   exact .same (fun _ _=>by rw [q]) (sL_h _ _ _ _) c e
 | true=>
   have hh:=Nat.eq_of_beq_eq_true e'
   subst hh
   have q:(sL w i b).r.s i=b:=by rw [sL_s,e'];rfl
   exact ⟨by rw [q];exact h1,by rw [q];exact h4,fun z=>.inl ⟨by rw [q];exact (h0 z).1,sL_h _ _ _ _,.inl (by rw [q];exact (h0 z).2)⟩⟩
theorem hasH_of {r:Rs} {j:Nat} (h:hasHB r j=false):∀k,k<3->ofNat k=(r.s j).x 3->(r.s k).x 0≠1:=by
 intro k hk e
 unfold hasHB at h
 have n1:decide ((r.s j).x 3=-1)=false:=decide_eq_false (by rw [<-e];simp)
 rw [n1,cond_false,<-e] at h
 have h:=of_decide_eq_false h
 match k,hk,h with
 | 0,_,h=>exact h
 | 1,_,h=>exact h
 | 2,_,h=>exact h
theorem de_hp {w:LS} (c:Cm) (j:Nat) (hj:j<3) (h2:(w.r.s j).x 0=2) (hk:c.k=5) (e:Int) (hne:(w.r.s j).x 3≠c.sv->hasHB w.r j=false):De w (sL w j (xM (w.r.s j) 3 c.sv)) c e:=by
 refine ⟨Int.le_refl _,⟨Int.le_refl _,by show w.r.x 2<=_;omega⟩,fun i hi=>?_⟩
 have st:∀k,((sL w j (xM (w.r.s j) 3 c.sv)).r.s k).x 0=(w.r.s k).x 0:=fun k=>by
  rw [sL_s]
  cases e':Nat.beq k j with
  | false=>rfl
  | true=>have:=Nat.eq_of_beq_eq_true e';subst this;rfl
 cases e':Nat.beq i j with
 | false=>
   have q:(sL w j (xM (w.r.s j) 3 c.sv)).r.s i=w.r.s i:=by rw [sL_s,e'];rfl
   exact .same (fun _ _=>by rw [q]) (sL_h _ _ _ _) c e
 | true=>
   have hh:=Nat.eq_of_beq_eq_true e'
   subst hh
   have q:(sL w i (xM (w.r.s i) 3 c.sv)).r.s i=xM (w.r.s i) 3 c.sv:=by rw [sL_s,e'];rfl
   refine ⟨by rw [q];exact Int.le_refl _,by rw [q];exact Int.le_refl _,fun z=>.inl ⟨by rw [q];exact z,sL_h _ _ _ _,?_⟩⟩
   by_cases hs:(w.r.s i).x 3=c.sv
   · exact .inl (by rw [q];exact hs.symm)
   · exact .inr ⟨hk,by rw [q];rfl,fun k hk9 e9=>by rw [st];exact hasH_of (hne hs) k hk9 e9⟩
theorem de_dn {w:LS} (v:vaS w=true) (c:Cm) (j:Nat) (hj:j<3) (hk:c.k=6) (ho:c.ot=ofNat j) (h3:(w.r.s j).x 3=c.sv) :
 De w (sL (dropS w (ofNat j)) j (absM ((dropS w (ofNat j)).r.s j))) c 0:=by
 have er:(dropS w (ofNat j)).r=w.r:=dropS_r w _
 obtain ⟨dz,dm⟩:=hm_dr v j hj
 generalize hd:dropS w (ofNat j)=d at *
 refine ⟨by show w.r.x 1<=d.r.x 1;rw [er];exact Int.le_refl _,⟨by show w.r.x 2<=d.r.x 2;rw [er];exact Int.le_refl _,by show d.r.x 2<=_;rw [er];omega⟩,fun i hi=>?_⟩
 cases e':Nat.beq i j with
 | false=>
   have q:(sL d j (absM (d.r.s j))).r.s i=w.r.s i:=by rw [sL_s,e',er];rfl
   exact Sr.same (w:=w) (u:=sL d j (absM (d.r.s j))) (fun _ _=>by rw [q]) (dm i hi (fun h=>by rw [h,Nat.beq_refl] at e';cases e')) c 0
 | true=>
   have hh:=Nat.eq_of_beq_eq_true e'
   subst hh
   have q:(sL d i (absM (d.r.s i))).r.s i=absM (w.r.s i):=by rw [sL_s,e',er];rfl
   exact ⟨by rw [q];exact Int.le_refl _,by rw [q];exact Int.le_refl _,fun _=>.inr ⟨by rw [q];rfl,dz,hk,ho,h3.symm,rfl⟩⟩
theorem de_all {w:LS} (v:Va w) (c:Cm) (i:Nat) (hi:i<3) (hc:c.sv=ofNat i) (ho:0<=c.ot/\c.ot<=2):De w (deS w c i) c (deE w c i):=by
 have hj:c.ot.toNat<3:=by omega
 have hot:c.ot=ofNat c.ot.toNat:=by simp;omega
 unfold deS deE
 cases h1:decide (c.k=1) with
 | true=>
   rw [cond_true,cond_true]
   have hg:=(sb_mm (v.sb i hi)).g
   refine .one w i _ c _ ?_ ?_ ?_
   · unfold mntB
     cases decide ((w.r.s i).x 0=1) with
     | true=>exact Int.le_refl _
     | false=>cases decide ((w.r.s i).x 0=2) with
       | true=>exact Int.le_refl _
       | false=>cases decide ((w.r.s i).x 1=1099511627776) with
         | true=>exact Int.le_refl _
         | false=>show _<=(w.r.s i).x 1+1;omega
   · unfold mntB
     cases decide ((w.r.s i).x 0=1)<;>cases decide ((w.r.s i).x 0=2)<;>cases decide ((w.r.s i).x 1=1099511627776)<;>exact Int.le_refl _
   · intro z
     unfold mntB
     rw [decide_eq_false (by omega:¬(w.r.s i).x 0=1),decide_eq_true z]
     exact ⟨z,rfl⟩
 | false=>
   cases h56:decide (c.k=5) || decide (c.k=6) with
   | true=>
     simp only [cond_false,cond_true]
     cases !decide (c.ot=c.sv) && !alB (w.r.s i) c.gn with
     | true=>exact .refl _ _ _
     | false=>
       simp only [cond_false]
       cases h2:decide ((w.r.s c.ot.toNat).x 0=2) with
       | false=>exact .refl _ _ _
       | true=>
         have h2:=of_decide_eq_true h2
         simp only [cond_true]
         cases h5:decide (c.k=5) with
         | true=>
           have h5:=of_decide_eq_true h5
           simp only [cond_true]
           unfold hpS
           cases h3:decide ((w.r.s c.ot.toNat).x 3=c.sv) with
           | true=>exact de_hp c _ hj h2 h5 _ fun q=>absurd (of_decide_eq_true h3) q
           | false=>
             cases hh:hasHB w.r c.ot.toNat with
             | true=>exact .refl _ _ _
             | false=>exact de_hp c _ hj h2 h5 _ fun _=>hh
         | false=>
           have h6:c.k=6:=by rw [h5,Bool.false_or] at h56;exact of_decide_eq_true h56
           simp only [cond_false]
           unfold dnS dnE
           cases h3:decide ((w.r.s c.ot.toNat).x 3=c.sv) with
           | true=>exact de_dn v.lk c _ hj h6 hot (of_decide_eq_true h3)
           | false=>exact .refl _ _ _
   | false=>
     simp only [cond_false]
     cases ha:alB (w.r.s i) c.gn with
     | false=>exact .refl _ _ _
     | true=>
       simp only [cond_true]
       have a0:(w.r.s i).x 0=1:=by unfold alB at ha;rw [Bool.and_eq_true] at ha;exact of_decide_eq_true ha.1
       cases decide (c.k=2) with
       | true=>exact .one w i _ c _ (Int.le_refl _) (Int.le_refl _) (fun q=>⟨q,rfl⟩)
       | false=>
         cases decide (c.k=3) with
         | true=>
           simp only [cond_false,cond_true]
           have r:(lkS w c).r=w.r:=by
            unfold lkS
            cases h:decide (askE w c.lk c.sv c.md=0) with
            | true=>exact askS_r w _ _ _ (of_decide_eq_true h)
            | false=>rfl
           exact .row r c _ fun k hk _=>hm_lk v.lk c k hk
         | false=>
           cases decide (c.k=4) with
           | true=>
             simp only [cond_false,cond_true]
             have r:(ulS w c).r=w.r:=by
              unfold ulS
              cases h:decide (freeE w c.lk c.sv=0) with
              | true=>exact freeS_r w _ _ (of_decide_eq_true h)
              | false=>rfl
             refine .row r c _ fun k hk h0=>hm_ul v.lk c k hk fun q=>?_
             rw [hc] at q
             have:k=i:=by have:=q;simp at this;omega
             subst this
             omega
           | false=>
             simp only [cond_false]
             unfold lnS
             cases decide (lnE w c=0) with
             | true=>exact ⟨Int.le_refl _,⟨by show w.r.x 2<=w.r.x 2+1;omega,by show w.r.x 2+1<=_;omega⟩,fun k hk=>Sr.same (w:=w) (u:=wL w (lnR w.r (nxL w.r c.mn c.mf))) (fun _ _=>rfl) (fun _ _=>Int.le_refl _) c _⟩
             | false=>exact .refl _ _ _
theorem de_pas (s:LS) (d:Int) (hd:0<=d):(pasL s d).r.x 2=s.r.x 2/\(pasL s d).row=s.row/\s.r.x 1<=(pasL s d).r.x 1/\∀i,((pasL s d).r.s i).x 1=(s.r.s i).x 1/\((pasL s d).r.s i).x 4=(s.r.s i).x 4/\((s.r.s i).x 0=2->((pasL s d).r.s i).x 0=2/\((pasL s d).r.s i).x 3=(s.r.s i).x 3):=by
 unfold pasL
 cases decide (4503599627370496<s.r.x 1+d) with
 | true=>exact ⟨rfl,rfl,Int.le_refl _,fun i=>⟨rfl,rfl,fun q=>⟨q,rfl⟩⟩⟩
 | false=>
   refine ⟨rfl,rfl,by show s.r.x 1<=s.r.x 1+d;omega,fun i=>?_⟩
   have e:((bif false then s else wL s (psR (setX s.r 1 (s.r.x 1+d)) 3)).r.s i)=bif Nat.blt i 3 then pasM (s.r.x 1+d) (s.r.s i) else s.r.s i:=rfl
   rw [e]
   cases Nat.blt i 3 with
   | false=>exact ⟨rfl,rfl,fun q=>⟨q,rfl⟩⟩
   | true=>
     rw [cond_true]
     unfold pasM diesB
     by_cases h1:(s.r.s i).x 0=1
     · rw [decide_eq_true h1]
       cases decide ((s.r.s i).x 2<s.r.x 1+d) with
       | true=>exact ⟨rfl,rfl,fun q=>by omega⟩
       | false=>exact ⟨rfl,rfl,fun q=>⟨q,rfl⟩⟩
     · rw [decide_eq_false h1]
       exact ⟨rfl,rfl,fun q=>⟨q,rfl⟩⟩
theorem De.pas (s:LS) (d:Int) (hd:0<=d) (c:Cm) (e:Int):De s (pasL s d) c e:=by
 obtain ⟨h1,h2,h3,h4⟩:=de_pas s d hd
 refine ⟨h3,by rw [h1];exact ⟨Int.le_refl _,by omega⟩,fun i _=>?_⟩
 obtain ⟨a,b,g⟩:=h4 i
 exact ⟨by rw [a];exact Int.le_refl _,by rw [b];exact Int.le_refl _,fun q=>.inl ⟨(g q).1,fun l _=>by rw [h2];exact Int.le_refl _,.inl (g q).2⟩⟩
theorem ans_x (b v:Mb):∀n,n<6->(ansM b v).x n=b.x n:=fun n hn=>by
 show (bif Nat.blt n 6 then b.x n else v.x n)= _
 rw [show Nat.blt n 6=true by rw [Nat.blt_eq];exact hn];rfl
theorem de_ap {s:LS} (v:Va s) (c:Cm):De s (ApS s c) c (ApV s c |>.x 6):=by
 unfold ApS
 cases hs:vaB s && vcB c with
 | false=>exact .refl _ _ _
 | true=>
   have hs':=hs
   rw [Bool.and_eq_true] at hs
   obtain ⟨hk,hd,hr⟩:=vc_gd hs.2
   rw [cond_true]
   cases h8:decide (c.k=8) with
   | true=>exact .pas s c.d hd.1 c _
   | false=>
     have q:=of_decide_eq_false h8
     obtain ⟨r1,r2,r3⟩:=hr (by omega)
     have rb:=vc_bt hs.2 (by omega)
     have eV:ApV s c=apV s c c.sv.toNat:=by unfold ApV;rw [hs',h8];rfl
     rw [cond_false,eV]
     have hc:c.sv=ofNat c.sv.toNat:=by simp;omega
     have hi:c.sv.toNat<3:=by omega
     generalize c.sv.toNat=i at hc hi
     unfold apS apV
     cases h1:staB (s.r.s i) c.bt c.sq with
     | true=>exact .refl _ _ _
     | false=>
       cases h2:agB (s.r.s i) c with
       | true=>exact .refl _ _ _
       | false=>
         cases h3:decide (pasE s.ts c.d=0) with
         | false=>exact .pas s c.d hd.1 c _
         | true=>
           simp only [cond_false,cond_true]
           have v2:=va_s2 v c i hi hd.1 (by omega) (by omega)
           have D:=de_all v2 c i hi hc r3
           obtain ⟨p1,p2,p3,p4⟩:=de_pas s c.d hd.1
           -- the server's boot rises
           have hb:(s.r.s i).x 4<=c.bt:=by
            unfold staB at h1
            cases hq:decide (c.bt=(s.r.s i).x 4) with
            | true=>have:=of_decide_eq_true hq;omega
            | false=>
              rw [hq,cond_false,Bool.or_eq_false_iff] at h1
              have:=of_decide_eq_false h1.1
              omega
           have s2x:∀k n,n≠4->n≠5->((s2L s c i).r.s k).x n=((pasL s c.d).r.s k).x n:=fun k n h4 h5=>by
            unfold s2L
            rw [sL_s]
            cases e':Nat.beq k i with
            | false=>rfl
            | true=>
              have:=Nat.eq_of_beq_eq_true e'
              subst this
              show (bif Nat.beq n 4 then c.bt else bif Nat.beq n 5 then c.sq else ((pasL s c.d).r.s k).x n)= _
              rw [show Nat.beq n 4=false by rw [Bool.eq_false_iff,ne_eq,Nat.beq_eq];exact h4,show Nat.beq n 5=false by rw [Bool.eq_false_iff,ne_eq,Nat.beq_eq];exact h5];rfl
           have s2b:∀k,(s.r.s k).x 4<=((s2L s c i).r.s k).x 4:=fun k=>by
            unfold s2L
            rw [sL_s]
            cases e':Nat.beq k i with
            | false=>rw [cond_false,(p4 k).2.1];exact Int.le_refl _
            | true=>have:=Nat.eq_of_beq_eq_true e';subst this;exact hb
           have ansx:∀(w:LS) (x:Mb) k n,n<6->((sL w i (ansM (w.r.s i) x)).r.s k).x n=(w.r.s k).x n:=fun w x k n hn=>by
            rw [sL_s]
            cases e':Nat.beq k i with
            | false=>rfl
            | true=>have:=Nat.eq_of_beq_eq_true e';subst this;rw [cond_true,ans_x _ _ n hn]
           unfold ap1S
           have e6:(vwS (deS (s2L s c i) c i) i (deE (s2L s c i) c i)).x 6=deE (s2L s c i) c i:=rfl
           rw [e6]
           have t2:(s2L s c i).r.x 1=(pasL s c.d).r.x 1:=rfl
           have t3:(s2L s c i).r.x 2=(pasL s c.d).r.x 2:=rfl
           have rw2:(s2L s c i).row=s.row:=by show (pasL s c.d).row= _;exact p2
           generalize s2L s c i=w at *
           generalize hu:deS w c i=u at *
           generalize vwS u i (deE w c i)=vv
           have D1:=D.tm
           have D2:=D.ep
           refine ⟨by show s.r.x 1<=u.r.x 1;omega,⟨by show s.r.x 2<=u.r.x 2;omega,by show u.r.x 2<=_;omega⟩,fun k hk9=>?_⟩
           have S:=D.sv k hk9
           obtain ⟨pa,pb,pg⟩:=p4 k
           have hb2:=s2b k
           have Sg:=S.g
           have Sb:=S.b
           refine ⟨?_,?_,fun z=>?_⟩
           · rw [ansx u vv k 1 (by decide)]
             have:=s2x k 1 (by decide) (by decide)
             omega
           · rw [ansx u vv k 4 (by decide)];omega
           · have z2:(w.r.s k).x 0=2:=by rw [s2x k 0 (by decide) (by decide)];exact (pg z).1
             have z3:(w.r.s k).x 3=(s.r.s k).x 3:=by rw [s2x k 3 (by decide) (by decide)];exact (pg z).2
             rcases S.a z2 with ⟨a1,a2,a3⟩ | ⟨a1,a2,a3,a4,a5,a6⟩
             · refine .inl ⟨by rw [ansx u vv k 0 (by decide)];exact a1,fun l hl=>?_,?_⟩
               · have:=a2 l hl
                 rw [rw2] at this
                 exact this
               · rcases a3 with a3 | ⟨b1,b2,b3⟩
                 · exact .inl (by rw [ansx u vv k 3 (by decide),a3,z3])
                 · exact .inr ⟨b1,by rw [ansx u vv k 3 (by decide)];exact b2,fun h9 hh9 e9=>by rw [ansx u vv h9 0 (by decide)];exact b3 h9 hh9 (by rw [z3];exact e9)⟩
             · exact .inr ⟨by rw [ansx u vv k 0 (by decide)];exact a1,a2,a3,a4,by rw [<-z3];exact a5,a6⟩
theorem ok_ans {s:LS} (g:Gv s) (i:Nat) (hi:i<3) (e:Int):(sL s i (ansM (s.r.s i) (vwS s i e))).ok:=ok_sL g.ok i (vw_ok g i hi e)
def bok (b:Mb):Prop:=b.mn<=17592186044416/\b.sn<=17592186044416/\b.hn<=5864062014805/\b.dn<=5864062014805
theorem cd_ok (e:Int):bok (cdM e):=⟨Nat.zero_le _,Nat.zero_le _,Nat.zero_le _,Nat.zero_le _⟩
theorem oks {s:LS} (ok:s.ok) (c:Cm):(ApS s c).ok/\bok (ApV s c):=by
 unfold ApS ApV
 cases hs:vaB s && vcB c with
 | false=>exact ⟨ok,cd_ok _⟩
 | true=>
   rw [Bool.and_eq_true] at hs
   have g:=gd_of ok hs.1
   obtain ⟨hk,hd,hr⟩:=vc_gd hs.2
   rw [cond_true,cond_true]
   cases h8:decide (c.k=8) with
   | true=>exact ⟨(gd_pas g c.d hd.1).ok,cd_ok _⟩
   | false=>
     have q:=of_decide_eq_false h8
     obtain ⟨r1,r2,r3⟩:=hr (by omega)
     rw [cond_false,cond_false]
     unfold apS apV
     cases staB (s.r.s c.sv.toNat) c.bt c.sq with
     | true=>exact ⟨ok,cd_ok _⟩
     | false=>
       cases agB (s.r.s c.sv.toNat) c with
       | true=>exact ⟨ok,ok.s _⟩
       | false=>
         cases decide (pasE s.ts c.d=0) with
         | false=>exact ⟨(gd_pas g c.d hd.1).ok,cd_ok _⟩
         | true=>
           have g2:=gd_s2 g c c.sv.toNat (by omega) hd.1 (by omega)
           have gw:=gv_de g2 c c.sv.toNat (by omega) r3 (.inr (gv_ln g2.gv c)) ⟨hk.1,by omega⟩
           exact ⟨ok_ans gw _ (by omega) _,vw_ok gw _ (by omega) _⟩
structure KD where
 s:LS
 i:Nat
end Go.Proofs.Sv
