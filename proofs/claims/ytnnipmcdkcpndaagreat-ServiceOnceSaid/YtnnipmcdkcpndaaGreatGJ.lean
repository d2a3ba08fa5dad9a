/- Runs over unknown values, told by the kernel: part GJ. -/
import Derived.Test.YtnnipmcdkcpndaaGreatGI
noncomputable section
open Int (ofNat)
set_option linter.unusedSimpArgs false
set_option linter.unusedVariables false
set_option maxRecDepth 20000
namespace Go.Proofs.Sv
open Go Go.Sim Go.Proofs Go.Proofs.Lk Go.Proofs.YtnnipmcdkcpndaaGreat
def tt1 (x:Int):Prop:=(!!decide (x=x))=true
def tt0 (x:Int):Prop:=(!decide (x=x))=false
theorem tt1_ (x:Int):tt1 x:=by unfold tt1;simp
theorem tt0_ (x:Int):tt0 x:=by unfold tt0;simp
theorem siE_lq (n:Nat) (f:Nat→Int) (h1:decide (ofNat n<ofNat n)=false):LD PG (loopAt PG 78 0) 26 0 [(0,isv n f),(1,isv n f),(5,.i .i64 (ofNat n))] [] (.f .z) (.exit 0) [] [] [] 0 (fun Lf=>decide (ofNat n<ofNat n)=false∧Lf):=by unfold LD LQ;kernel_rfl
theorem siR_lq (n:Nat) (f:Nat→Int) (i:Nat) (h1:decide (ofNat i<ofNat n)=true):LD PG (loopAt PG 78 0) 26 0 [(0,isv n f),(1,isv n f),(5,.i .i64 (ofNat i))] [] (.t (.f .z)) .nrm [] [(0,isv n f),(1,isv n f),(5,.i .i64 (ofNat i+1))] [] 0 (fun Lf=>decide (ofNat i<ofNat n)=true∧(0≤ofNat i∧ofNat i<↑n)∧True∧(0≤ofNat i∧ofNat i<↑n)∧True∧tt0 (f i)∧rg (ofNat i+1)∧Lf):=by unfold LD LQ;kernel_rfl
theorem si_vq (n:Nat) (f:Nat→Int):VD PG 78 [isv n f,isv n f] [] (.f (.lop [] [0,1,5] 0 (.exit 0) [] [] .z)) (.b true) [] [] 0 (fun Lf=>tt0 (ofNat n)∧LDoes PG (loopAt PG 78 0) 26 0 (mkT [(0,isv n f),(1,isv n f),(5,.i .i64 0)]) [] (.exit 0) (mkT []) []∧Lf):=by unfold VD VQ;kernel_rfl
theorem sc_vq (e:Int) (n m:Nat) (f g:Nat→Int):VD PG 47 [.agg [.i .i64 e,isv n f,isv m g],.agg [.i .i64 e,isv n f,isv m g]] [] (.t (.t (.t (.t (.t (.cal [] (.b true) [] (.t (oc 5 (.cal [] (.b true) [] (.c .z)))))))))) (.b true) [] [] 2 (fun Lf=>True∧True∧decide (e=e)=true∧True∧decide (e=e)=true∧decide (e=e)=true∧True∧decide (e=e)=true∧decide (e=e)=true∧Con PG 78 [isv n f,isv n f] [] (.b true) []∧decide (e=e)=true∧True∧True∧Con PG 78 [isv m g,isv m g] [] (.b true) []∧Lf):=by unfold VD VQ;kernel_rfl
theorem svE_lq (b:Mb) (h1:decide (ofNat b.dn<ofNat b.dn)=false):LD PG (loopAt PG 20 0) 61 2 [(2,.p 0 0),(3,.p 1 0),(5,.i .i64 (ofNat b.dn))] [some (vwO b),some (vwO b)] (.f .z) (.exit 0) [0,1] [] [some (vwO b),some (vwO b)] 2 (fun Lf=>True∧decide (ofNat (Mb.dn b)<ofNat (Mb.dn b))=false∧Lf):=by unfold LD LQ;kernel_rfl
theorem svR_lq (b:Mb) (i:Nat) (h1:decide (ofNat i<ofNat b.dn)=true) (h2:(!(decide (b.dA i=b.dA i) && (decide (b.dM i=b.dM i) && (decide (b.dW i=b.dW i) && true))))=false):LD PG (loopAt PG 20 0) 61 2 [(2,.p 0 0),(3,.p 1 0),(5,.i .i64 (ofNat i))] [some (vwO b),some (vwO b)] (.t (.f .z)) .nrm [0,1] [(2,.p 0 0),(3,.p 1 0),(5,.i .i64 (ofNat i+1))] [some (vwO b),some (vwO b)] 2 (fun Lf=>True∧decide (ofNat i<ofNat (Mb.dn b))=true∧True∧(0≤ofNat i∧ofNat i<↑(Mb.dn b))∧True∧True∧(0≤ofNat i∧ofNat i<↑(Mb.dn b))∧True∧True∧(!(decide (Mb.dA b i=Mb.dA b i) && (decide (Mb.dM b i=Mb.dM b i) && (decide (Mb.dW b i=Mb.dW b i) && true))))=false∧rg (ofNat i+1)∧Lf):=by unfold LD LQ;kernel_rfl
theorem sv_vq (b:Mb):VD PG 20 [.agg (vwL b),.agg (vwL b)] [] (.t (.t (.t (.t (.t (.f (.t (.t (.t (.t (.t (.cal [] (.b true) [] (.t (.f (oc 5 (.cal [] (.b true) [] (oc 10 (.f (.lop [0,1] [2,3,5] 2 (.exit 0) [] [some (vwO b),some (vwO b)] .z))))))))))))))))))) (.b true) [] [] 2 (fun Lf=>True∧True∧tt1 (Mb.x b 6)∧True∧tt1 (Mb.x b 6)∧tt1 (Mb.x b 6)∧True∧tt1 (Mb.x b 6)∧tt1 (Mb.x b 6)∧tt0 (Mb.x b 6)∧tt1 (Mb.x b 7)∧True∧tt1 (Mb.x b 7)∧tt1 (Mb.x b 7)∧True∧tt1 (Mb.x b 7)∧tt1 (Mb.x b 7)∧Con PG 47 [.agg [.i .i64 (Mb.x b 8),isv (Mb.mn b) (Mb.mf b),isv (Mb.sn b) (Mb.sf b)],.agg [.i .i64 (Mb.x b 8),isv (Mb.mn b) (Mb.mf b),isv (Mb.sn b) (Mb.sf b)]] [] (.b true) []∧tt1 (Mb.x b 7)∧True∧tt0 (Mb.x b 7)∧True∧True∧Con PG 49 [svN (Mb.hn b) (Mb.hA b) (Mb.hM b) (Mb.hW b),svN (Mb.hn b) (Mb.hA b) (Mb.hM b) (Mb.hW b)] [] (.b true) []∧True∧True∧True∧tt0 (ofNat (Mb.dn b))∧LDoes PG (loopAt PG 20 0) 61 2 (mkT [(2,.p 0 0),(3,.p 1 0),(5,.i .i64 0)]) [some (vwO b),some (vwO b)] (.exit 0) (mkT []) [some (vwO b),some (vwO b)]∧Lf):=by unfold VD VQ;kernel_rfl
theorem sam_vq (t:TS):VD PG 19 [tsV t,tsV t] [] (oc 2 (.t (.t (.t (.t (.t (.f (.t (.t (.t (.t (.t (.cal [] (.b true) [] (.t (.f (oc 3 (.cal [] (.b true) [] (oc 3 (.inl (oc 3 (.t (.t (.t (.t (.t (.f (.t (.t (.t (.t (.t (.f (.t (.t (.t (.t (.t (.f (.t (.t (.t (.t (.t (.f (.t (.t (.t (.t (.t (.f (.t (.t (.t (.t (.t (.cal [] (.b true) [] (.t (.f (.c (.inl (oc 3 (.t (.t (.t (.t (.t (.f (.t (.t (.t (.t (.t (.f (.t (.t (.t (.t (.t (.f (.t (.t (.t (.t (.t (.f (.t (.t (.t (.t (.t (.f (.t (.t (.t (.t (.t (.cal [] (.b true) [] (.t (.f (.c (.inl (oc 3 (.t (.t (.t (.t (.t (.f (.t (.t (.t (.t (.t (.f (.t (.t (.t (.t (.t (.f (.t (.t (.t (.t (.t (.f (.t (.t (.t (.t (.t (.f (.t (.t (.t (.t (.t (.cal [] (.b true) [] (.t (.f (.c (.inl (.c .z))))))))))))))))))))))))))))))))))))))))))))))))))))))))))))))))))))))))))))))))))))))))))))))))))))))))))))))))))))))))))))))))))))))))))))))) (.b true) [] [] 8 (fun Lf=>True∧True∧tt1 (Rs.x (TS.r t) 0)∧True∧tt1 (Rs.x (TS.r t) 0)∧tt1 (Rs.x (TS.r t) 0)∧True∧tt1 (Rs.x (TS.r t) 0)∧tt1 (Rs.x (TS.r t) 0)∧tt0 (Rs.x (TS.r t) 0)∧tt1 (Rs.x (TS.r t) 1)∧True∧tt1 (Rs.x (TS.r t) 1)∧tt1 (Rs.x (TS.r t) 1)∧True∧tt1 (Rs.x (TS.r t) 1)∧tt1 (Rs.x (TS.r t) 1)∧Con PG 47 [.agg [.i .i64 (Rs.x (TS.r t) 2),isv (Rs.mn (TS.r t)) (Rs.mf (TS.r t)),isv (Rs.sn (TS.r t)) (Rs.sf (TS.r t))],.agg [.i .i64 (Rs.x (TS.r t) 2),isv (Rs.mn (TS.r t)) (Rs.mf (TS.r t)),isv (Rs.sn (TS.r t)) (Rs.sf (TS.r t))]] [] (.b true) []∧tt1 (Rs.x (TS.r t) 1)∧True∧tt0 (Rs.x (TS.r t) 1)∧Con PG 48 [tsV t,tsV t] [] (.b true) []∧True∧True∧True∧True∧True∧tt1 (Mb.x (Rs.s (TS.r t) 0) 0)∧True∧tt1 (Mb.x (Rs.s (TS.r t) 0) 0)∧tt1 (Mb.x (Rs.s (TS.r t) 0) 0)∧True∧tt1 (Mb.x (Rs.s (TS.r t) 0) 0)∧tt1 (Mb.x (Rs.s (TS.r t) 0) 0)∧tt0 (Mb.x (Rs.s (TS.r t) 0) 0)∧tt1 (Mb.x (Rs.s (TS.r t) 0) 1)∧True∧tt1 (Mb.x (Rs.s (TS.r t) 0) 1)∧tt1 (Mb.x (Rs.s (TS.r t) 0) 1)∧True∧tt1 (Mb.x (Rs.s (TS.r t) 0) 1)∧tt1 (Mb.x (Rs.s (TS.r t) 0) 1)∧tt0 (Mb.x (Rs.s (TS.r t) 0) 1)∧tt1 (Mb.x (Rs.s (TS.r t) 0) 2)∧True∧tt1 (Mb.x (Rs.s (TS.r t) 0) 2)∧tt1 (Mb.x (Rs.s (TS.r t) 0) 2)∧True∧tt1 (Mb.x (Rs.s (TS.r t) 0) 2)∧tt1 (Mb.x (Rs.s (TS.r t) 0) 2)∧tt0 (Mb.x (Rs.s (TS.r t) 0) 2)∧tt1 (Mb.x (Rs.s (TS.r t) 0) 3)∧True∧tt1 (Mb.x (Rs.s (TS.r t) 0) 3)∧tt1 (Mb.x (Rs.s (TS.r t) 0) 3)∧True∧tt1 (Mb.x (Rs.s (TS.r t) 0) 3)∧tt1 (Mb.x (Rs.s (TS.r t) 0) 3)∧tt0 (Mb.x (Rs.s (TS.r t) 0) 3)∧tt1 (Mb.x (Rs.s (TS.r t) 0) 4)∧True∧tt1 (Mb.x (Rs.s (TS.r t) 0) 4)∧tt1 (Mb.x (Rs.s (TS.r t) 0) 4)∧True∧tt1 (Mb.x (Rs.s (TS.r t) 0) 4)∧tt1 (Mb.x (Rs.s (TS.r t) 0) 4)∧tt0 (Mb.x (Rs.s (TS.r t) 0) 4)∧tt1 (Mb.x (Rs.s (TS.r t) 0) 5)∧True∧tt1 (Mb.x (Rs.s (TS.r t) 0) 5)∧tt1 (Mb.x (Rs.s (TS.r t) 0) 5)∧True∧tt1 (Mb.x (Rs.s (TS.r t) 0) 5)∧tt1 (Mb.x (Rs.s (TS.r t) 0) 5)∧Con PG 20 [.agg (vwL (Rs.s (TS.r t) 0)),.agg (vwL (Rs.s (TS.r t) 0))] [] (.b true) []∧tt1 (Mb.x (Rs.s (TS.r t) 0) 5)∧True∧tt0 (Mb.x (Rs.s (TS.r t) 0) 5)∧rg (1)∧True∧True∧True∧True∧tt1 (Mb.x (Rs.s (TS.r t) 1) 0)∧True∧tt1 (Mb.x (Rs.s (TS.r t) 1) 0)∧tt1 (Mb.x (Rs.s (TS.r t) 1) 0)∧True∧tt1 (Mb.x (Rs.s (TS.r t) 1) 0)∧tt1 (Mb.x (Rs.s (TS.r t) 1) 0)∧tt0 (Mb.x (Rs.s (TS.r t) 1) 0)∧tt1 (Mb.x (Rs.s (TS.r t) 1) 1)∧True∧tt1 (Mb.x (Rs.s (TS.r t) 1) 1)∧tt1 (Mb.x (Rs.s (TS.r t) 1) 1)∧True∧tt1 (Mb.x (Rs.s (TS.r t) 1) 1)∧tt1 (Mb.x (Rs.s (TS.r t) 1) 1)∧tt0 (Mb.x (Rs.s (TS.r t) 1) 1)∧tt1 (Mb.x (Rs.s (TS.r t) 1) 2)∧True∧tt1 (Mb.x (Rs.s (TS.r t) 1) 2)∧tt1 (Mb.x (Rs.s (TS.r t) 1) 2)∧True∧tt1 (Mb.x (Rs.s (TS.r t) 1) 2)∧tt1 (Mb.x (Rs.s (TS.r t) 1) 2)∧tt0 (Mb.x (Rs.s (TS.r t) 1) 2)∧tt1 (Mb.x (Rs.s (TS.r t) 1) 3)∧True∧tt1 (Mb.x (Rs.s (TS.r t) 1) 3)∧tt1 (Mb.x (Rs.s (TS.r t) 1) 3)∧True∧tt1 (Mb.x (Rs.s (TS.r t) 1) 3)∧tt1 (Mb.x (Rs.s (TS.r t) 1) 3)∧tt0 (Mb.x (Rs.s (TS.r t) 1) 3)∧tt1 (Mb.x (Rs.s (TS.r t) 1) 4)∧True∧tt1 (Mb.x (Rs.s (TS.r t) 1) 4)∧tt1 (Mb.x (Rs.s (TS.r t) 1) 4)∧True∧tt1 (Mb.x (Rs.s (TS.r t) 1) 4)∧tt1 (Mb.x (Rs.s (TS.r t) 1) 4)∧tt0 (Mb.x (Rs.s (TS.r t) 1) 4)∧tt1 (Mb.x (Rs.s (TS.r t) 1) 5)∧True∧tt1 (Mb.x (Rs.s (TS.r t) 1) 5)∧tt1 (Mb.x (Rs.s (TS.r t) 1) 5)∧True∧tt1 (Mb.x (Rs.s (TS.r t) 1) 5)∧tt1 (Mb.x (Rs.s (TS.r t) 1) 5)∧Con PG 20 [.agg (vwL (Rs.s (TS.r t) 1)),.agg (vwL (Rs.s (TS.r t) 1))] [] (.b true) []∧tt1 (Mb.x (Rs.s (TS.r t) 1) 5)∧True∧tt0 (Mb.x (Rs.s (TS.r t) 1) 5)∧rg (2)∧True∧True∧True∧True∧tt1 (Mb.x (Rs.s (TS.r t) 2) 0)∧True∧tt1 (Mb.x (Rs.s (TS.r t) 2) 0)∧tt1 (Mb.x (Rs.s (TS.r t) 2) 0)∧True∧tt1 (Mb.x (Rs.s (TS.r t) 2) 0)∧tt1 (Mb.x (Rs.s (TS.r t) 2) 0)∧tt0 (Mb.x (Rs.s (TS.r t) 2) 0)∧tt1 (Mb.x (Rs.s (TS.r t) 2) 1)∧True∧tt1 (Mb.x (Rs.s (TS.r t) 2) 1)∧tt1 (Mb.x (Rs.s (TS.r t) 2) 1)∧True∧tt1 (Mb.x (Rs.s (TS.r t) 2) 1)∧tt1 (Mb.x (Rs.s (TS.r t) 2) 1)∧tt0 (Mb.x (Rs.s (TS.r t) 2) 1)∧tt1 (Mb.x (Rs.s (TS.r t) 2) 2)∧True∧tt1 (Mb.x (Rs.s (TS.r t) 2) 2)∧tt1 (Mb.x (Rs.s (TS.r t) 2) 2)∧True∧tt1 (Mb.x (Rs.s (TS.r t) 2) 2)∧tt1 (Mb.x (Rs.s (TS.r t) 2) 2)∧tt0 (Mb.x (Rs.s (TS.r t) 2) 2)∧tt1 (Mb.x (Rs.s (TS.r t) 2) 3)∧True∧tt1 (Mb.x (Rs.s (TS.r t) 2) 3)∧tt1 (Mb.x (Rs.s (TS.r t) 2) 3)∧True∧tt1 (Mb.x (Rs.s (TS.r t) 2) 3)∧tt1 (Mb.x (Rs.s (TS.r t) 2) 3)∧tt0 (Mb.x (Rs.s (TS.r t) 2) 3)∧tt1 (Mb.x (Rs.s (TS.r t) 2) 4)∧True∧tt1 (Mb.x (Rs.s (TS.r t) 2) 4)∧tt1 (Mb.x (Rs.s (TS.r t) 2) 4)∧True∧tt1 (Mb.x (Rs.s (TS.r t) 2) 4)∧tt1 (Mb.x (Rs.s (TS.r t) 2) 4)∧tt0 (Mb.x (Rs.s (TS.r t) 2) 4)∧tt1 (Mb.x (Rs.s (TS.r t) 2) 5)∧True∧tt1 (Mb.x (Rs.s (TS.r t) 2) 5)∧tt1 (Mb.x (Rs.s (TS.r t) 2) 5)∧True∧tt1 (Mb.x (Rs.s (TS.r t) 2) 5)∧tt1 (Mb.x (Rs.s (TS.r t) 2) 5)∧Con PG 20 [.agg (vwL (Rs.s (TS.r t) 2)),.agg (vwL (Rs.s (TS.r t) 2))] [] (.b true) []∧tt1 (Mb.x (Rs.s (TS.r t) 2) 5)∧True∧tt0 (Mb.x (Rs.s (TS.r t) 2) 5)∧rg (3)∧Lf):=by unfold VD VQ;kernel_rfl
theorem si_lp (n:Nat) (hn:n≤1152921504606846976) (f:Nat→Int):LDoes PG (loopAt PG 78 0) 26 0 (mkT [(0,isv n f),(1,isv n f),(5,.i .i64 0)]) [] (.exit 0) (mkT []) []:=by
 refine loop_q (fun i:Nat=>([(0,isv n f),(1,isv n f),(5,.i .i64 (ofNat i))],[])) (fun i=>n-i) (fun i=>i≤n) (fun _=>Nat.zero_le _) ?_ 0 (Nat.zero_le _)
 intro i hi
 rcases Nat.lt_or_ge i n with hlt | q
 · have h1:decide (ofNat i<ofNat n)=true:=decide_eq_true (by simp;omega)
   have bi:(0:Int)≤ofNat i∧ofNat i<(↑n:Int):=⟨by simp,by simp;omega⟩
   have ri:rg (ofNat i+1):=⟨by simp<;>omega,by simp<;>omega⟩
   exact rd_nrm (siR_lq n f i h1) (by repeat' first | exact trivial | exact tt1_ _ | exact tt0_ _ | assumption | exact bi | exact ri | exact rfl | (simp;done) | apply And.intro) (i+1) hlt (by show n-(i+1)<n-i;omega) rfl (.refl _) (.refl _)
 · obtain rfl:i=n:=Nat.le_antisymm hi q
   exact rd_out (siE_lq i f (decide_eq_false (by simp))) (by repeat' first | exact trivial | exact tt1_ _ | exact tt0_ _ | (simp;done) | exact rfl | apply And.intro) rfl rfl (.refl _) (.refl _)
theorem si_con (n:Nat) (hn:n≤1152921504606846976) (f:Nat→Int):Con PG 78 [isv n f,isv n f] [] (.b true) []:=
 con_d (si_vq ..) (by repeat' first | exact trivial | exact tt1_ _ | exact tt0_ _ | exact si_lp n hn f | (simp;done) | exact rfl | apply And.intro)
theorem sc_con (e:Int) (n m:Nat) (f g:Nat→Int) (hn:n≤1152921504606846976) (hm:m≤1152921504606846976):Con PG 47 [.agg [.i .i64 e,isv n f,isv m g],.agg [.i .i64 e,isv n f,isv m g]] [] (.b true) []:=
 con_d (sc_vq ..) (by repeat' first | exact trivial | exact tt1_ _ | exact tt0_ _ | exact si_con _ hn _ | exact si_con _ hm _ | (simp;done) | exact rfl | apply And.intro)
theorem sv_lp (b:Mb) (hn:b.dn≤1152921504606846976):LDoes PG (loopAt PG 20 0) 61 2 (mkT [(2,.p 0 0),(3,.p 1 0),(5,.i .i64 0)]) [some (vwO b),some (vwO b)] (.exit 0) (mkT []) [some (vwO b),some (vwO b)]:=by
 refine loop_q (fun i:Nat=>([(2,.p 0 0),(3,.p 1 0),(5,.i .i64 (ofNat i))],[some (vwO b),some (vwO b)])) (fun i=>b.dn-i) (fun i=>i≤b.dn) (fun _=>Nat.le_refl _) ?_ 0 (Nat.zero_le _)
 intro i hi
 rcases Nat.lt_or_ge i b.dn with hlt | q
 · have h1:decide (ofNat i<ofNat b.dn)=true:=decide_eq_true (by simp;omega)
   have bi:(0:Int)≤ofNat i∧ofNat i<(↑b.dn:Int):=⟨by simp,by simp;omega⟩
   have ri:rg (ofNat i+1):=⟨by simp<;>omega,by simp<;>omega⟩
   have h2:(!(decide (b.dA i=b.dA i) && (decide (b.dM i=b.dM i) && (decide (b.dW i=b.dW i) && true))))=false:=by simp
   exact rd_nrm (svR_lq b i h1 h2) (by repeat' first | exact trivial | exact tt1_ _ | exact tt0_ _ | assumption | exact bi | exact ri | exact rfl | (simp;done) | apply And.intro) (i+1) hlt (by show b.dn-(i+1)<b.dn-i;omega) rfl (.refl _) (.refl _)
 · have e:i=b.dn:=Nat.le_antisymm hi q
   subst e
   exact rd_out (svE_lq b (decide_eq_false (by simp))) (by repeat' first | exact trivial | exact tt1_ _ | exact tt0_ _ | (simp;done) | exact rfl | apply And.intro) rfl rfl (.refl _) (.refl _)
theorem shN_con (n:Nat) (A M W:Nat→Int) (hn:n≤1152921504606846976):Con PG 49 [svN n A M W,svN n A M W] [] (.b true) []:=con_pureX (sh_vc _ _ _ _ _) rfl ⟨by simp,sh_lp _ _ _ _ hn,rfl⟩
theorem sv_con (b:Mb) (h:b.mn≤17592186044416∧b.sn≤17592186044416∧b.hn≤5864062014805∧b.dn≤5864062014805):Con PG 20 [.agg (vwL b),.agg (vwL b)] [] (.b true) []:=
 con_d (sv_vq ..) (by repeat' first | exact trivial | exact tt1_ _ | exact tt0_ _ | exact sc_con _ _ _ _ _ (by omega) (by omega) | exact shN_con _ _ _ _ (by omega) | exact sv_lp b (by omega) | (simp;done) | exact rfl | apply And.intro)
theorem sam_con (s:LS) (ok:s.ok):Con PG 19 [lsV s,lsV s] [] (.b true) []:=by
 have h0:=same_con s ok
 have hc:=sc_con (s.r.x 2) s.r.mn s.r.sn s.r.mf s.r.sf (by have:=ok.m;have e:s.ts.r.mn=s.r.mn:=rfl;omega) (by have:=ok.m;have e:s.ts.r.sn=s.r.sn:=rfl;omega)
 have v0:=sv_con (s.r.s 0) (ok.s 0)
 have v1:=sv_con (s.r.s 1) (ok.s 1)
 have v2:=sv_con (s.r.s 2) (ok.s 2)
 exact con_d (sam_vq s.ts) ⟨trivial,trivial,tt1_ _,trivial,tt1_ _,tt1_ _,trivial,tt1_ _,tt1_ _,tt0_ _,tt1_ _,trivial,tt1_ _,tt1_ _,trivial,tt1_ _,tt1_ _,hc,tt1_ _,trivial,tt0_ _,h0,trivial,trivial,trivial,trivial,trivial,tt1_ _,trivial,tt1_ _,tt1_ _,trivial,tt1_ _,tt1_ _,tt0_ _,tt1_ _,trivial,tt1_ _,tt1_ _,trivial,tt1_ _,tt1_ _,tt0_ _,tt1_ _,trivial,tt1_ _,tt1_ _,trivial,tt1_ _,tt1_ _,tt0_ _,tt1_ _,trivial,tt1_ _,tt1_ _,trivial,tt1_ _,tt1_ _,tt0_ _,tt1_ _,trivial,tt1_ _,tt1_ _,trivial,tt1_ _,tt1_ _,tt0_ _,tt1_ _,trivial,tt1_ _,tt1_ _,trivial,tt1_ _,tt1_ _,v0,tt1_ _,trivial,tt0_ _,(by decide),trivial,trivial,trivial,trivial,tt1_ _,trivial,tt1_ _,tt1_ _,trivial,tt1_ _,tt1_ _,tt0_ _,tt1_ _,trivial,tt1_ _,tt1_ _,trivial,tt1_ _,tt1_ _,tt0_ _,tt1_ _,trivial,tt1_ _,tt1_ _,trivial,tt1_ _,tt1_ _,tt0_ _,tt1_ _,trivial,tt1_ _,tt1_ _,trivial,tt1_ _,tt1_ _,tt0_ _,tt1_ _,trivial,tt1_ _,tt1_ _,trivial,tt1_ _,tt1_ _,tt0_ _,tt1_ _,trivial,tt1_ _,tt1_ _,trivial,tt1_ _,tt1_ _,v1,tt1_ _,trivial,tt0_ _,(by decide),trivial,trivial,trivial,trivial,tt1_ _,trivial,tt1_ _,tt1_ _,trivial,tt1_ _,tt1_ _,tt0_ _,tt1_ _,trivial,tt1_ _,tt1_ _,trivial,tt1_ _,tt1_ _,tt0_ _,tt1_ _,trivial,tt1_ _,tt1_ _,trivial,tt1_ _,tt1_ _,tt0_ _,tt1_ _,trivial,tt1_ _,tt1_ _,trivial,tt1_ _,tt1_ _,tt0_ _,tt1_ _,trivial,tt1_ _,tt1_ _,trivial,tt1_ _,tt1_ _,tt0_ _,tt1_ _,trivial,tt1_ _,tt1_ _,trivial,tt1_ _,tt1_ _,v2,tt1_ _,trivial,tt0_ _,(by decide),rfl⟩
end Go.Proofs.Sv
namespace Go.Proofs.Sv
open Go Go.Sim Go.Proofs Go.Proofs.Lk
def mbK (xs mf sf:List Int) (hs ds:List HQ):Mb:=⟨fun k=>xs.getD k 0,mf.length,fun i=>mf.getD i 0,sf.length,fun i=>sf.getD i 0,hs.length,qA hs,qM hs,qW hs,ds.length,qA ds,qM ds,qW ds⟩
def rwK (h:List Int) (q:List HQ):Rw:=⟨fun k=>h.getD k 0,q⟩
def lsK (xs mf sf:List Int) (a b c:Mb) (w:Rw):LS:=⟨⟨fun k=>xs.getD k 0,mf.length,fun i=>mf.getD i 0,sf.length,fun i=>sf.getD i 0,fun j=>bif Nat.beq j 0 then a else bif Nat.beq j 1 then b else c⟩,fun l=>bif Nat.beq l 4 then w else ⟨fun _=>0,[]⟩⟩
def cmK (k sv bt sq gn lk md ot d:Int):Cm:=⟨k,sv,bt,sq,gn,lk,md,ot,0,fun _=>0,d⟩
end Go.Proofs.Sv
namespace Go.Proofs.Sv
open Go Go.Sim Go.Proofs Go.Proofs.Lk Go.Proofs.YtnnipmcdkcpndaaGreat
def zK:Mb:=mbK [0,0,0,-1,0,0,0,0,0] [] [] [] []
def S0:LS:=lsK [3,0,1] [0,1,2] [1,1,1] zK zK zK (rwK [0,0,0] [])
def S1:LS:=lsK [3,0,1] [0,1,2] [1,1,1] (mbK [1,1,60,-1,1,1,0,1,1] [0,1,2] [1,1,1] [] []) zK zK (rwK [0,0,0] [])
def S2:LS:=lsK [3,0,1] [0,1,2] [1,1,1] (mbK [1,1,60,-1,1,2,0,1,1] [0,1,2] [1,1,1] [⟨4,2,0⟩] []) zK zK (rwK [2,0,0] [])
def S3:LS:=lsK [3,0,1] [0,1,2] [1,1,1] (mbK [1,1,60,-1,1,2,0,1,1] [0,1,2] [1,1,1] [⟨4,2,0⟩] []) zK zK (rwK [2,0,0] [])
def S4:LS:=lsK [3,61,1] [0,1,2] [1,1,1] (mbK [2,1,60,-1,1,2,0,1,1] [0,1,2] [1,1,1] [⟨4,2,0⟩] []) zK zK (rwK [2,0,0] [])
def S5:LS:=lsK [3,61,1] [0,1,2] [1,1,1] (mbK [2,1,60,-1,1,3,27,1,1] [0,1,2] [1,1,1] [] [⟨0,2,-1⟩]) zK zK (rwK [2,0,0] [])
def S6:LS:=lsK [3,61,1] [0,1,2] [1,1,1] (mbK [2,1,60,-1,1,3,27,1,1] [0,1,2] [1,1,1] [] [⟨0,2,-1⟩]) (mbK [1,1,121,-1,1,1,0,1,1] [0,1,2] [1,1,1] [] [⟨0,2,-1⟩]) zK (rwK [2,0,0] [])
def S7:LS:=lsK [3,61,1] [0,1,2] [1,1,1] (mbK [2,1,60,1,1,3,27,1,1] [0,1,2] [1,1,1] [] [⟨0,2,-1⟩]) (mbK [1,1,121,-1,1,2,0,1,1] [0,1,2] [1,1,1] [] [⟨0,2,1⟩]) zK (rwK [2,0,0] [])
def S8:LS:=lsK [3,61,1] [0,1,2] [1,1,1] (mbK [0,1,60,-1,1,3,27,1,1] [0,1,2] [1,1,1] [] [⟨0,2,-1⟩]) (mbK [1,1,121,-1,1,3,0,1,1] [0,1,2] [1,1,1] [] []) zK (rwK [0,0,0] [])
def S9:LS:=lsK [3,61,1] [0,1,2] [1,1,1] (mbK [1,2,121,-1,2,1,0,2,1] [0,1,2] [1,1,1] [] []) (mbK [1,1,121,-1,1,3,0,1,1] [0,1,2] [1,1,1] [] []) zK (rwK [0,0,0] [])
def V0:Mb:=(mbK [1,1,1,1,1,1,0,1,1] [0,1,2] [1,1,1] [] [])
def V1:Mb:=(mbK [1,1,1,1,1,1,0,1,1] [0,1,2] [1,1,1] [⟨4,2,0⟩] [])
def V2:Mb:=(mbK [1,1,60,-1,1,2,0,1,1] [0,1,2] [1,1,1] [⟨4,2,0⟩] [])
def V3:Mb:=(mbK [0,0,0,0,0,0,0,0,0] [] [] [] [])
def V4:Mb:=(mbK [1,1,1,1,1,1,27,1,1] [0,1,2] [1,1,1] [] [⟨0,2,-1⟩])
def V5:Mb:=(mbK [1,1,1,1,1,1,0,1,1] [0,1,2] [1,1,1] [] [⟨0,2,-1⟩])
def V6:Mb:=(mbK [1,1,1,1,1,1,0,1,1] [0,1,2] [1,1,1] [] [⟨0,2,1⟩])
def V7:Mb:=(mbK [1,1,1,1,1,1,0,1,1] [0,1,2] [1,1,1] [] [])
def V8:Mb:=(mbK [1,1,1,1,1,1,0,2,1] [0,1,2] [1,1,1] [] [])
def K0:Cm:=cmK 1 0 1 1 0 0 0 0 0
def K1:Cm:=cmK 3 0 1 2 1 4 2 0 0
def K2:Cm:=cmK 3 0 1 2 1 4 2 0 0
def K3:Cm:=cmK 8 0 0 0 0 0 0 0 61
def K4:Cm:=cmK 2 0 1 3 1 0 0 0 0
def K5:Cm:=cmK 1 1 1 1 0 0 0 0 0
def K6:Cm:=cmK 5 1 1 2 1 0 0 0 0
def K7:Cm:=cmK 6 1 1 3 1 0 0 0 0
def K8:Cm:=cmK 1 0 2 1 0 0 0 0 0
theorem lsK_ok {xs mf sf:List Int} {a b c:Mb} {w:Rw} (h1:mf.length≤1000∧sf.length≤1000) (ha:a.mn≤1000∧a.sn≤1000∧a.hn≤1000∧a.dn≤1000) (hb:b.mn≤1000∧b.sn≤1000∧b.hn≤1000∧b.dn≤1000)
 (hc:c.mn≤1000∧c.sn≤1000∧c.hn≤1000∧c.dn≤1000) (hw:w.q.length≤1000):(lsK xs mf sf a b c w).ok:=by
 refine ⟨⟨by show mf.length≤_;omega,by show sf.length≤_;omega⟩,fun j=>?_,fun l=>?_⟩
 · have q:∀m:Mb,(m.mn≤1000∧m.sn≤1000∧m.hn≤1000∧m.dn≤1000)→m.mn≤17592186044416∧m.sn≤17592186044416∧m.hn≤5864062014805∧m.dn≤5864062014805:=fun m h=>⟨by omega,by omega,by omega,by omega⟩
   show ((bif Nat.beq j 0 then a else bif Nat.beq j 1 then b else c).mn≤_∧(bif Nat.beq j 0 then a else bif Nat.beq j 1 then b else c).sn≤_∧(bif Nat.beq j 0 then a else bif Nat.beq j 1 then b else c).hn≤_∧(bif Nat.beq j 0 then a else bif Nat.beq j 1 then b else c).dn≤_)
   cases Nat.beq j 0 with
   | true=>exact q a ha
   | false=>cases Nat.beq j 1 with
     | true=>exact q b hb
     | false=>exact q c hc
 · show (bif Nat.beq l 4 then w else ⟨fun _=>0,[]⟩:Rw).q.length≤_
   cases Nat.beq l 4 with
   | true=>rw [cond_true];omega
   | false=>exact Nat.zero_le _
theorem S0_ok:S0.ok:=lsK_ok (by decide) (by decide) (by decide) (by decide) (by decide)
theorem S1_ok:S1.ok:=lsK_ok (by decide) (by decide) (by decide) (by decide) (by decide)
theorem S2_ok:S2.ok:=lsK_ok (by decide) (by decide) (by decide) (by decide) (by decide)
theorem S3_ok:S3.ok:=lsK_ok (by decide) (by decide) (by decide) (by decide) (by decide)
theorem S4_ok:S4.ok:=lsK_ok (by decide) (by decide) (by decide) (by decide) (by decide)
theorem S5_ok:S5.ok:=lsK_ok (by decide) (by decide) (by decide) (by decide) (by decide)
theorem S6_ok:S6.ok:=lsK_ok (by decide) (by decide) (by decide) (by decide) (by decide)
theorem S7_ok:S7.ok:=lsK_ok (by decide) (by decide) (by decide) (by decide) (by decide)
theorem S8_ok:S8.ok:=lsK_ok (by decide) (by decide) (by decide) (by decide) (by decide)
theorem S9_ok:S9.ok:=lsK_ok (by decide) (by decide) (by decide) (by decide) (by decide)
theorem A0_s:lsV (ApS S0 K0)=lsV S1:=by kernel_rfl
theorem A0_v:AV.agg (vwL (ApV S0 K0))=AV.agg (vwL V0):=by kernel_rfl
theorem A0_con:Con PG 15 [lsV S0,cmV K0] [] (.tup [lsV S1,.agg (vwL V0)]) []:=by
 rw [←A0_s,←A0_v]
 exact Apply_con S0 S0_ok K0 (by decide) (fun _ _ h=>absurd h (by decide))
theorem A1_s:lsV (ApS S1 K1)=lsV S2:=by kernel_rfl
theorem A1_v:AV.agg (vwL (ApV S1 K1))=AV.agg (vwL V1):=by kernel_rfl
theorem A1_con:Con PG 15 [lsV S1,cmV K1] [] (.tup [lsV S2,.agg (vwL V1)]) []:=by
 rw [←A1_s,←A1_v]
 exact Apply_con S1 S1_ok K1 (by decide) (fun _ _ h=>absurd h (by decide))
theorem A2_s:lsV (ApS S2 K2)=lsV S3:=by kernel_rfl
theorem A2_v:AV.agg (vwL (ApV S2 K2))=AV.agg (vwL V2):=by kernel_rfl
theorem A2_con:Con PG 15 [lsV S2,cmV K2] [] (.tup [lsV S3,.agg (vwL V2)]) []:=by
 rw [←A2_s,←A2_v]
 exact Apply_con S2 S2_ok K2 (by decide) (fun _ _ h=>absurd h (by decide))
theorem A3_s:lsV (ApS S3 K3)=lsV S4:=by kernel_rfl
theorem A3_v:AV.agg (vwL (ApV S3 K3))=AV.agg (vwL V3):=by kernel_rfl
theorem A3_con:Con PG 15 [lsV S3,cmV K3] [] (.tup [lsV S4,.agg (vwL V3)]) []:=by
 rw [←A3_s,←A3_v]
 exact Apply_con S3 S3_ok K3 (by decide) (fun _ _ h=>absurd h (by decide))
theorem A4_s:lsV (ApS S4 K4)=lsV S5:=by kernel_rfl
theorem A4_v:AV.agg (vwL (ApV S4 K4))=AV.agg (vwL V4):=by kernel_rfl
theorem A4_con:Con PG 15 [lsV S4,cmV K4] [] (.tup [lsV S5,.agg (vwL V4)]) []:=by
 rw [←A4_s,←A4_v]
 exact Apply_con S4 S4_ok K4 (by decide) (fun _ _ h=>absurd h (by decide))
theorem A5_s:lsV (ApS S5 K5)=lsV S6:=by kernel_rfl
theorem A5_v:AV.agg (vwL (ApV S5 K5))=AV.agg (vwL V5):=by kernel_rfl
theorem A5_con:Con PG 15 [lsV S5,cmV K5] [] (.tup [lsV S6,.agg (vwL V5)]) []:=by
 rw [←A5_s,←A5_v]
 exact Apply_con S5 S5_ok K5 (by decide) (fun _ _ h=>absurd h (by decide))
theorem A6_s:lsV (ApS S6 K6)=lsV S7:=by kernel_rfl
theorem A6_v:AV.agg (vwL (ApV S6 K6))=AV.agg (vwL V6):=by kernel_rfl
theorem A6_con:Con PG 15 [lsV S6,cmV K6] [] (.tup [lsV S7,.agg (vwL V6)]) []:=by
 rw [←A6_s,←A6_v]
 exact Apply_con S6 S6_ok K6 (by decide) (fun _ _ h=>absurd h (by decide))
theorem A7_s:lsV (ApS S7 K7)=lsV S8:=by kernel_rfl
theorem A7_v:AV.agg (vwL (ApV S7 K7))=AV.agg (vwL V7):=by kernel_rfl
theorem A7_con:Con PG 15 [lsV S7,cmV K7] [] (.tup [lsV S8,.agg (vwL V7)]) []:=by
 rw [←A7_s,←A7_v]
 exact Apply_con S7 S7_ok K7 (by decide) (fun _ _ h=>absurd h (by decide))
theorem A8_s:lsV (ApS S8 K8)=lsV S9:=by kernel_rfl
theorem A8_v:AV.agg (vwL (ApV S8 K8))=AV.agg (vwL V8):=by kernel_rfl
theorem A8_con:Con PG 15 [lsV S8,cmV K8] [] (.tup [lsV S9,.agg (vwL V8)]) []:=by
 rw [←A8_s,←A8_v]
 exact Apply_con S8 S8_ok K8 (by decide) (fun _ _ h=>absurd h (by decide))
def b9:List Nat:=[3,61,1,3,0,1,2,3,1,1,1,1,2,121,0,2,1,0,2,1,3,0,1,2,3,1,1,1,0,0,1,1,121,0,1,3,0,1,1,3,0,1,2,3,1,1,1,0,0,0,0,0,0,0,0,0,0,0,0,0,0,0,0,0,0,0,0,0,0,0,0,0,0,0,0,0,0,0,0,0,0,0,0,0,0,0,0,0,0,0,0,0,0,0,0,0,0,0,0,0,0,0,0,0,0,0,0,0,0,0,0,0,0,0,0,0,0,0,0,0,0,0,0,0,0,0,0,0,0,0,0,0,0,0,0,0,0,0]
def lA:AV:=.sv 1 3 (listF 1 [.i .i64 0,.i .i64 1,.i .i64 2] 3)
def lB:AV:=.sv 1 3 (listF 1 [.i .i64 1,.i .i64 1,.i .i64 1] 3)
def iA:AV:=isv 3 (fun i=>([0,1,2]:List Int).getD i 0)
def iB:AV:=isv 3 (fun i=>([1,1,1]:List Int).getD i 0)
def i0:AV:=isv 0 (fun i=>([]:List Int).getD i 0)
def q0:AV:=svN 0 (qA []) (qM []) (qW [])
theorem three {P:Nat→Nat→Prop} (a:P 0 0) (b:P 1 0) (c:P 2 0) (i j:Nat) (hi:i<3) (hj:j<1):P i j:=by
 obtain rfl:j=0:=by omega
 match i,hi with
 | 0,_=>exact a
 | 1,_=>exact b
 | 2,_=>exact c
theorem lA_vw:VW lA iA:=VW.sv (three (by kernel_rfl) (by kernel_rfl) (by kernel_rfl))
theorem lB_vw:VW lB iB:=VW.sv (three (by kernel_rfl) (by kernel_rfl) (by kernel_rfl))
def L9:List AV:=[.i .i64 3,.i .i64 61,.i .i64 1,lA,lB,.i .i64 1,.i .i64 2,.i .i64 121,.i .i64 (-1),.i .i64 2,.i .i64 1,.i .i64 0,.i .i64 2,.i .i64 1,lA,lB,.l0,.l0,.i .i64 1,.i .i64 1,.i .i64 121,.i .i64 (-1),.i .i64 1,.i .i64 3,.i .i64 0,.i .i64 1,.i .i64 1,lA,lB,.l0,.l0,.i .i64 0,.i .i64 0,.i .i64 0,.i .i64 (-1),.i .i64 0,.i .i64 0,.i .i64 0,.i .i64 0,.i .i64 0,.l0,.l0,.l0,.l0,.i .i64 0,.i .i64 0,.i .i64 0,.i .i64 0,.i .i64 0,.i .i64 0,.i .i64 0,.i .i64 0,.i .i64 0,.i .i64 0,.i .i64 0,.i .i64 0,.i .i64 0,.i .i64 0,.i .i64 0,.i .i64 0,.i .i64 0,.i .i64 0,.i .i64 0,.i .i64 0,.i .i64 0,.i .i64 0,.i .i64 0,.i .i64 0,.i .i64 0,.i .i64 0,.i .i64 0,.i .i64 0,.i .i64 0,.i .i64 0,.i .i64 0,.i .i64 0,.i .i64 0,.i .i64 0,.i .i64 0,.i .i64 0,.i .i64 0,.i .i64 0,.i .i64 0,.i .i64 0,.i .i64 0,.i .i64 0,.i .i64 0,.i .i64 0,.i .i64 0,.i .i64 0,.i .i64 0,.i .i64 0,.i .i64 0,.i .i64 0,.i .i64 0,.i .i64 0,.i .i64 0,.i .i64 0,.i .i64 0,.i .i64 0,.i .i64 0,.l0,.l0,.l0,.l0,.l0,.l0,.l0,.l0,.l0,.l0,.l0,.l0,.l0,.l0,.l0,.l0,.l0,.l0,.l0]
def M9:List AV:=[.i .i64 3,.i .i64 61,.i .i64 1,iA,iB,.i .i64 1,.i .i64 2,.i .i64 121,.i .i64 (-1),.i .i64 2,.i .i64 1,.i .i64 0,.i .i64 2,.i .i64 1,iA,iB,q0,q0,.i .i64 1,.i .i64 1,.i .i64 121,.i .i64 (-1),.i .i64 1,.i .i64 3,.i .i64 0,.i .i64 1,.i .i64 1,iA,iB,q0,q0,.i .i64 0,.i .i64 0,.i .i64 0,.i .i64 (-1),.i .i64 0,.i .i64 0,.i .i64 0,.i .i64 0,.i .i64 0,i0,i0,q0,q0,.i .i64 0,.i .i64 0,.i .i64 0,.i .i64 0,.i .i64 0,.i .i64 0,.i .i64 0,.i .i64 0,.i .i64 0,.i .i64 0,.i .i64 0,.i .i64 0,.i .i64 0,.i .i64 0,.i .i64 0,.i .i64 0,.i .i64 0,.i .i64 0,.i .i64 0,.i .i64 0,.i .i64 0,.i .i64 0,.i .i64 0,.i .i64 0,.i .i64 0,.i .i64 0,.i .i64 0,.i .i64 0,.i .i64 0,.i .i64 0,.i .i64 0,.i .i64 0,.i .i64 0,.i .i64 0,.i .i64 0,.i .i64 0,.i .i64 0,.i .i64 0,.i .i64 0,.i .i64 0,.i .i64 0,.i .i64 0,.i .i64 0,.i .i64 0,.i .i64 0,.i .i64 0,.i .i64 0,.i .i64 0,.i .i64 0,.i .i64 0,.i .i64 0,.i .i64 0,.i .i64 0,.i .i64 0,.i .i64 0,.i .i64 0,.i .i64 0,q0,q0,q0,q0,q0,q0,q0,q0,q0,q0,q0,q0,q0,q0,q0,q0,q0,q0,q0]
theorem L9_vw:VWL L9 M9:=⟨.refl _,.refl _,.refl _,lA_vw,lB_vw,.refl _,.refl _,.refl _,.refl _,.refl _,.refl _,.refl _,.refl _,.refl _,lA_vw,lB_vw,.nil _ _,.nil _ _,.refl _,.refl _,.refl _,.refl _,.refl _,.refl _,.refl _,.refl _,.refl _,lA_vw,lB_vw,.nil _ _,.nil _ _,.refl _,.refl _,.refl _,.refl _,.refl _,.refl _,.refl _,.refl _,.refl _,.nil _ _,.nil _ _,.nil _ _,.nil _ _,.refl _,.refl _,.refl _,.refl _,.refl _,.refl _,.refl _,.refl _,.refl _,.refl _,.refl _,.refl _,.refl _,.refl _,.refl _,.refl _,.refl _,.refl _,.refl _,.refl _,.refl _,.refl _,.refl _,.refl _,.refl _,.refl _,.refl _,.refl _,.refl _,.refl _,.refl _,.refl _,.refl _,.refl _,.refl _,.refl _,.refl _,.refl _,.refl _,.refl _,.refl _,.refl _,.refl _,.refl _,.refl _,.refl _,.refl _,.refl _,.refl _,.refl _,.refl _,.refl _,.refl _,.refl _,.refl _,.refl _,.refl _,.nil _ _,.nil _ _,.nil _ _,.nil _ _,.nil _ _,.nil _ _,.nil _ _,.nil _ _,.nil _ _,.nil _ _,.nil _ _,.nil _ _,.nil _ _,.nil _ _,.nil _ _,.nil _ _,.nil _ _,.nil _ _,.nil _ _,trivial⟩
theorem M9_eq:AV.agg M9=lsV S9:=by kernel_rfl
set_option maxRecDepth 1000000 in
theorem enc9_con:Con PG 26 [lsV S9] [] (.tup [.s b9,.i .i64 0]) []:=con_xx (fuel:=100000000) (fz:=[]) (nx:=100) (by kernel_rfl)
set_option maxRecDepth 1000000 in
theorem dec9_con0:Con PG 30 [.s b9] [] (.tup [.agg L9,.i .i64 0]) []:=con_xx (fuel:=100000000) (fz:=[15,24,33,42,51,60]) (nx:=100) (by kernel_rfl)
theorem dec9_con:Con PG 30 [.s b9] [] (.tup [lsV S9,.i .i64 0]) []:=by
 rw [←M9_eq]
 exact dec9_con0.post (.tup ⟨.agg L9_vw,.refl _,trivial⟩) (.refl _)
def P3:List AV:=[.i .i64 3,.i .i64 0,.i .i64 1,lA,lB,.i .i64 0,.i .i64 0,.i .i64 0,.i .i64 (-1),.i .i64 0,.i .i64 0,.i .i64 0,.i .i64 0,.i .i64 0,.l0,.l0,.l0,.l0,.i .i64 0,.i .i64 0,.i .i64 0,.i .i64 (-1),.i .i64 0,.i .i64 0,.i .i64 0,.i .i64 0,.i .i64 0,.l0,.l0,.l0,.l0,.i .i64 0,.i .i64 0,.i .i64 0,.i .i64 (-1),.i .i64 0,.i .i64 0,.i .i64 0,.i .i64 0,.i .i64 0,.l0,.l0,.l0,.l0,.i .i64 0,.i .i64 0,.i .i64 0,.i .i64 0,.i .i64 0,.i .i64 0,.i .i64 0,.i .i64 0,.i .i64 0,.i .i64 0,.i .i64 0,.i .i64 0,.i .i64 0,.i .i64 0,.i .i64 0,.i .i64 0,.i .i64 0,.i .i64 0,.i .i64 0,.i .i64 0,.i .i64 0,.i .i64 0,.i .i64 0,.i .i64 0,.i .i64 0,.i .i64 0,.i .i64 0,.i .i64 0,.i .i64 0,.i .i64 0,.i .i64 0,.i .i64 0,.i .i64 0,.i .i64 0,.i .i64 0,.i .i64 0,.i .i64 0,.i .i64 0,.i .i64 0,.i .i64 0,.i .i64 0,.i .i64 0,.i .i64 0,.i .i64 0,.i .i64 0,.i .i64 0,.i .i64 0,.i .i64 0,.i .i64 0,.i .i64 0,.i .i64 0,.i .i64 0,.i .i64 0,.i .i64 0,.i .i64 0,.i .i64 0,.i .i64 0,.l0,.l0,.l0,.l0,.l0,.l0,.l0,.l0,.l0,.l0,.l0,.l0,.l0,.l0,.l0,.l0,.l0,.l0,.l0]
def Q3:List AV:=[.i .i64 3,.i .i64 0,.i .i64 1,iA,iB,.i .i64 0,.i .i64 0,.i .i64 0,.i .i64 (-1),.i .i64 0,.i .i64 0,.i .i64 0,.i .i64 0,.i .i64 0,i0,i0,q0,q0,.i .i64 0,.i .i64 0,.i .i64 0,.i .i64 (-1),.i .i64 0,.i .i64 0,.i .i64 0,.i .i64 0,.i .i64 0,i0,i0,q0,q0,.i .i64 0,.i .i64 0,.i .i64 0,.i .i64 (-1),.i .i64 0,.i .i64 0,.i .i64 0,.i .i64 0,.i .i64 0,i0,i0,q0,q0,.i .i64 0,.i .i64 0,.i .i64 0,.i .i64 0,.i .i64 0,.i .i64 0,.i .i64 0,.i .i64 0,.i .i64 0,.i .i64 0,.i .i64 0,.i .i64 0,.i .i64 0,.i .i64 0,.i .i64 0,.i .i64 0,.i .i64 0,.i .i64 0,.i .i64 0,.i .i64 0,.i .i64 0,.i .i64 0,.i .i64 0,.i .i64 0,.i .i64 0,.i .i64 0,.i .i64 0,.i .i64 0,.i .i64 0,.i .i64 0,.i .i64 0,.i .i64 0,.i .i64 0,.i .i64 0,.i .i64 0,.i .i64 0,.i .i64 0,.i .i64 0,.i .i64 0,.i .i64 0,.i .i64 0,.i .i64 0,.i .i64 0,.i .i64 0,.i .i64 0,.i .i64 0,.i .i64 0,.i .i64 0,.i .i64 0,.i .i64 0,.i .i64 0,.i .i64 0,.i .i64 0,.i .i64 0,.i .i64 0,.i .i64 0,.i .i64 0,q0,q0,q0,q0,q0,q0,q0,q0,q0,q0,q0,q0,q0,q0,q0,q0,q0,q0,q0]
theorem P3_vw:VWL P3 Q3:=⟨.refl _,.refl _,.refl _,lA_vw,lB_vw,.refl _,.refl _,.refl _,.refl _,.refl _,.refl _,.refl _,.refl _,.refl _,.nil _ _,.nil _ _,.nil _ _,.nil _ _,.refl _,.refl _,.refl _,.refl _,.refl _,.refl _,.refl _,.refl _,.refl _,.nil _ _,.nil _ _,.nil _ _,.nil _ _,.refl _,.refl _,.refl _,.refl _,.refl _,.refl _,.refl _,.refl _,.refl _,.nil _ _,.nil _ _,.nil _ _,.nil _ _,.refl _,.refl _,.refl _,.refl _,.refl _,.refl _,.refl _,.refl _,.refl _,.refl _,.refl _,.refl _,.refl _,.refl _,.refl _,.refl _,.refl _,.refl _,.refl _,.refl _,.refl _,.refl _,.refl _,.refl _,.refl _,.refl _,.refl _,.refl _,.refl _,.refl _,.refl _,.refl _,.refl _,.refl _,.refl _,.refl _,.refl _,.refl _,.refl _,.refl _,.refl _,.refl _,.refl _,.refl _,.refl _,.refl _,.refl _,.refl _,.refl _,.refl _,.refl _,.refl _,.refl _,.refl _,.refl _,.refl _,.refl _,.nil _ _,.nil _ _,.nil _ _,.nil _ _,.nil _ _,.nil _ _,.nil _ _,.nil _ _,.nil _ _,.nil _ _,.nil _ _,.nil _ _,.nil _ _,.nil _ _,.nil _ _,.nil _ _,.nil _ _,.nil _ _,.nil _ _,trivial⟩
theorem Q3_eq:AV.agg Q3=lsV S0:=by kernel_rfl
set_option maxRecDepth 1000000 in
theorem start3_con0:Con PG 13 [.i .i64 3] [] (.tup [.agg P3,.i .i64 0]) []:=con_xx (fuel:=100000000) (fz:=[12,14]) (nx:=100) (by kernel_rfl)
theorem start3_con:Con PG 13 [.i .i64 3] [] (.tup [lsV S0,.i .i64 0]) []:=by
 rw [←Q3_eq]
 exact start3_con0.post (.tup ⟨.agg P3_vw,.refl _,trivial⟩) (.refl _)
theorem B0_con:Con PG 15 [lsV S0,.agg [.i .i64 1,.i .i64 0,.i .i64 1,.i .i64 1,.i .i64 0,.i .i64 0,.i .i64 0,.i .i64 0,.l0,.i .i64 0]] [] (.tup [lsV S1,.agg (vwL V0)]) []:=A0_con.pre ⟨.refl _,.agg ⟨.refl _,.refl _,.refl _,.refl _,.refl _,.refl _,.refl _,.refl _,.nil _ _,.refl _,trivial⟩,trivial⟩
theorem B1_con:Con PG 15 [lsV S1,.agg [.i .i64 3,.i .i64 0,.i .i64 1,.i .i64 2,.i .i64 1,.i .i64 4,.i .i64 2,.i .i64 0,.l0,.i .i64 0]] [] (.tup [lsV S2,.agg (vwL V1)]) []:=A1_con.pre ⟨.refl _,.agg ⟨.refl _,.refl _,.refl _,.refl _,.refl _,.refl _,.refl _,.refl _,.nil _ _,.refl _,trivial⟩,trivial⟩
theorem B2_con:Con PG 15 [lsV S2,.agg [.i .i64 3,.i .i64 0,.i .i64 1,.i .i64 2,.i .i64 1,.i .i64 4,.i .i64 2,.i .i64 0,.l0,.i .i64 0]] [] (.tup [lsV S3,.agg (vwL V2)]) []:=A2_con.pre ⟨.refl _,.agg ⟨.refl _,.refl _,.refl _,.refl _,.refl _,.refl _,.refl _,.refl _,.nil _ _,.refl _,trivial⟩,trivial⟩
theorem B3_con:Con PG 15 [lsV S3,.agg [.i .i64 8,.i .i64 0,.i .i64 0,.i .i64 0,.i .i64 0,.i .i64 0,.i .i64 0,.i .i64 0,.l0,.i .i64 61]] [] (.tup [lsV S4,.agg (vwL V3)]) []:=A3_con.pre ⟨.refl _,.agg ⟨.refl _,.refl _,.refl _,.refl _,.refl _,.refl _,.refl _,.refl _,.nil _ _,.refl _,trivial⟩,trivial⟩
theorem B4_con:Con PG 15 [lsV S4,.agg [.i .i64 2,.i .i64 0,.i .i64 1,.i .i64 3,.i .i64 1,.i .i64 0,.i .i64 0,.i .i64 0,.l0,.i .i64 0]] [] (.tup [lsV S5,.agg (vwL V4)]) []:=A4_con.pre ⟨.refl _,.agg ⟨.refl _,.refl _,.refl _,.refl _,.refl _,.refl _,.refl _,.refl _,.nil _ _,.refl _,trivial⟩,trivial⟩
theorem B5_con:Con PG 15 [lsV S5,.agg [.i .i64 1,.i .i64 1,.i .i64 1,.i .i64 1,.i .i64 0,.i .i64 0,.i .i64 0,.i .i64 0,.l0,.i .i64 0]] [] (.tup [lsV S6,.agg (vwL V5)]) []:=A5_con.pre ⟨.refl _,.agg ⟨.refl _,.refl _,.refl _,.refl _,.refl _,.refl _,.refl _,.refl _,.nil _ _,.refl _,trivial⟩,trivial⟩
theorem B6_con:Con PG 15 [lsV S6,.agg [.i .i64 5,.i .i64 1,.i .i64 1,.i .i64 2,.i .i64 1,.i .i64 0,.i .i64 0,.i .i64 0,.l0,.i .i64 0]] [] (.tup [lsV S7,.agg (vwL V6)]) []:=A6_con.pre ⟨.refl _,.agg ⟨.refl _,.refl _,.refl _,.refl _,.refl _,.refl _,.refl _,.refl _,.nil _ _,.refl _,trivial⟩,trivial⟩
theorem B7_con:Con PG 15 [lsV S7,.agg [.i .i64 6,.i .i64 1,.i .i64 1,.i .i64 3,.i .i64 1,.i .i64 0,.i .i64 0,.i .i64 0,.l0,.i .i64 0]] [] (.tup [lsV S8,.agg (vwL V7)]) []:=A7_con.pre ⟨.refl _,.agg ⟨.refl _,.refl _,.refl _,.refl _,.refl _,.refl _,.refl _,.refl _,.nil _ _,.refl _,trivial⟩,trivial⟩
theorem B8_con:Con PG 15 [lsV S8,.agg [.i .i64 1,.i .i64 0,.i .i64 2,.i .i64 1,.i .i64 0,.i .i64 0,.i .i64 0,.i .i64 0,.l0,.i .i64 0]] [] (.tup [lsV S9,.agg (vwL V8)]) []:=A8_con.pre ⟨.refl _,.agg ⟨.refl _,.refl _,.refl _,.refl _,.refl _,.refl _,.refl _,.refl _,.nil _ _,.refl _,trivial⟩,trivial⟩
theorem awk_vc (t0 t1 t2 t3 t4 t5 t6 t7 t8 t9:TS) (v0 v1 v2 v3 v4 v5 v6 v7 v8:Mb) (bs:List Nat) (h0:decide (v0.x 6=0)=true) (h1:decide (v0.x 7=1)=true) (h2:decide (v0.x 8=1)=true) (h3:decide (v3.x 6=0)=true) (h4:decide (v4.x 6=27)=true) (h5:decide (v5.x 6=0)=true) (h6:decide (v6.x 6=0)=true) (h7:decide (v7.x 6=0)=true) (h8:decide (v8.x 7=2)=true) (g0:decide (ofNat v1.hn=1)=true) (g1:(decide (v1.hA 0=4) && (decide (v1.hM 0=2) && (decide (v1.hW 0=0) && true)))=true) (g4:decide (ofNat v4.dn=1)=true) (g5:(decide (v4.dA 0=0) && (decide (v4.dM 0=2) && (decide (v4.dW 0=-1) && true)))=true) (g8:decide (ofNat v6.dn=1)=true) (g9:decide (v6.dW 0=1)=true) (ga:decide (ofNat v7.dn=0)=true) (gb:decide (t9.h 4 0=0)=true) (V:AV):runK PG 1000000 (.call 14 [] (mkH [])) (.cal [] (.tup [tsV t0,.i .i64 0]) [] (.inl (.cal [] (.tup [tsV t1,.agg (vwL v0)]) [] (.inl (.cal [] (.tup [tsV t2,.agg (vwL v1)]) [] (.cal [] (.tup [tsV t3,.agg (vwL v2)]) [] (oc 4 (ot 3 (.f (ot 4 (.f (ot 4 (.f (ot 6 (.f (ot 3 (.cal [] (.b true) [] (.t (.f (.c (.cal [] (.tup [tsV t4,.agg (vwL v3)]) [] (.inl (.cal [] (.tup [tsV t5,.agg (vwL v4)]) [] (.inl (.cal [] (.tup [tsV t6,.agg (vwL v5)]) [] (ot 3 (.f (ot 4 (.f (ot 6 (.f (ot 3 (.f (.f (.inl (.cal [] (.tup [tsV t7,.agg (vwL v6)]) [] (.inl (.cal [] (.tup [tsV t8,.agg (vwL v7)]) [] (.inl (.cal [] (.tup [tsV t9,.agg (vwL v8)]) [] (.cal
 [] (.tup [.s bs,.i .i64 0]) [] (.cal [] (.tup [tsV t9,.i .i64 0]) [] (ot 28 (oc 6 (.cal [] (.b true) [] (oc 9 .z)))))))))))))))))))))))))))))))))))))))))))))) (fun r _=>rvIs V r)=((fun (q5:Bool)=>((fun (q4:List AV)=>((fun (q3:Bool)=>((fun (q2:Bool)=>((fun (q1:Bool)=>((fun (q0:Bool)=>(Con PG 13 [.i .i64 3] [] (.tup [tsV t0,.i .i64 0]) []∧Con PG 15 [tsV t0,.agg [.i .i64 1,.i .i64 0,.i .i64 1,.i .i64 1,.i .i64 0,.i .i64 0,.i .i64 0,.i .i64 0,.l0,.i .i64 0]] [] (.tup [tsV t1,.agg (vwL v0)]) []∧True∧True∧Con PG 15 [tsV t1,.agg q4] [] (.tup [tsV t2,.agg (vwL v1)]) []∧Con PG 15 [tsV t2,.agg q4] [] (.tup [tsV t3,.agg (vwL v2)]) []∧True∧(!!decide (Mb.x v0 6=0))=true∧True∧r2 ((!!decide (Mb.x v0 6=0))=true) ((!decide (Mb.x v0 6=0))=false∧q5=true∧True∧q5=true∧True∧r2 (q5=true) ((!decide (Mb.x v0 7=1))=false∧(!!decide (Mb.x v0 8=1))=true∧True∧r3 ((!!decide (Mb.x v0 8=1))=true) ((!decide (Mb.x v0 8=1))=false∧q2=true∧True∧r2 (q2=true) (((0:Int)≤(0:Int)∧(0:Int)<↑(Mb.hn v1))∧q2=true∧True∧r2 (q2=true) (True∧(!decide (ofNat (Mb.hn v1)=1))=false∧r3 ((!!q1)=true) (Con PG 20 [.agg (vwL v1),.agg (vwL v2)] [] (.b true) []∧(!!q1)=true∧True∧(!q1)=false∧Con PG 15 [tsV t3,.agg [.i .i64 8,.i .i64 0,.i .i64 0,.i .i64 0,.i .i64 0,.i .i64 0,.i .i64 0,.i .i64 0,.l0,.i .i64 61]] [] (.tup [tsV t4,.agg (vwL v3)]) []∧Con PG 15
 [tsV t4,.agg [.i .i64 2,.i .i64 0,.i .i64 1,.i .i64 3,.i .i64 1,.i .i64 0,.i .i64 0,.i .i64 0,.l0,.i .i64 0]] [] (.tup [tsV t5,.agg (vwL v4)]) []∧Con PG 15 [tsV t5,.agg [.i .i64 1,.i .i64 1,.i .i64 1,.i .i64 1,.i .i64 0,.i .i64 0,.i .i64 0,.i .i64 0,.l0,.i .i64 0]] [] (.tup [tsV t6,.agg (vwL v5)]) []∧True∧(!!decide (Mb.x v3 6=0))=true∧True∧r2 ((!!decide (Mb.x v3 6=0))=true) ((!decide (Mb.x v3 6=0))=false∧(!!decide (Mb.x v4 6=27))=true∧True∧r3 ((!!decide (Mb.x v4 6=27))=true) ((!decide (Mb.x v4 6=27))=false∧q3=true∧True∧r2 (q3=true) (((0:Int)≤(0:Int)∧(0:Int)<↑(Mb.dn v4))∧q3=true∧True∧r2 (q3=true) (True∧(!decide (ofNat (Mb.dn v4)=1))=false∧(!!q0)=true∧True∧r2 ((!!q0)=true) ((!q0)=false∧(!decide (Mb.x v5 6=0))=false∧Con PG 15 [tsV t6,.agg [.i .i64 5,.i .i64 1,.i .i64 1,.i .i64 2,.i .i64 1,.i .i64 0,.i .i64 0,.i .i64 0,.l0,.i .i64 0]] [] (.tup [tsV t7,.agg (vwL v6)]) []∧Con PG 15 [tsV t7,.agg [.i .i64 6,.i .i64 1,.i .i64 1,.i .i64 3,.i .i64 1,.i .i64 0,.i .i64 0,.i .i64 0,.l0,.i .i64 0]] [] (.tup [tsV t8,.agg (vwL v7)]) []∧Con PG 15 [tsV t8,.agg [.i .i64 1,.i .i64 0,.i .i64 2,.i .i64 1,.i .i64 0,.i .i64 0,.i .i64 0,.i .i64 0,.l0,.i .i64 0]] [] (.tup [tsV t9,.agg (vwL v8)]) []∧Con PG 26 [tsV t9] [] (.tup [.s bs,.i .i64 0]) []∧Con PG 30 [.s bs] [] (.tup [tsV t9,.i .i64 0]) []∧True∧decide (Mb.x v6 6=0)=true∧
 True∧r4 (decide (Mb.x v6 6=0)=true) (decide (ofNat (Mb.dn v6)=1)=true∧True∧r2 (decide (ofNat (Mb.dn v6)=1)=true) (((0:Int)≤(0:Int)∧(0:Int)<↑(Mb.dn v6))∧decide (ofNat (Mb.dn v6)=1)=true∧True∧decide (ofNat (Mb.dn v6)=1)=true∧True∧r2 (decide (ofNat (Mb.dn v6)=1)=true) (decide (Mb.dW v6 0=1)=true∧True∧r3 (decide (Mb.dW v6 0=1)=true) (decide (Mb.x v7 6=0)=true∧True∧r4 (decide (Mb.x v7 6=0)=true) (decide (ofNat (Mb.dn v7)=0)=true∧True∧r3 (decide (ofNat (Mb.dn v7)=0)=true) (r3 (decide (Mb.x v8 7=2)=true) (Con PG 19 [tsV t9,tsV t9] [] (.b true) []∧True∧(.b (decide (TS.h t9 4 0=0)))=V)))))))))))))))))))) (decide (Mb.dA v4 0=0) && (decide (Mb.dM v4 0=2) && (decide (Mb.dW v4 0=(-1)) && true))))) (decide (Mb.hA v1 0=4) && (decide (Mb.hM v1 0=2) && (decide (Mb.hW v1 0=0) && true))))) (!!decide (ofNat (Mb.hn v1)=1)))) (!!decide (ofNat (Mb.dn v4)=1)))) [.i .i64 3,.i .i64 0,.i .i64 1,.i .i64 2,.i .i64 1,.i .i64 4,.i .i64 2,.i .i64 0,.l0,.i .i64 0])) (!!decide (Mb.x v0 7=1))):=by kernel_rfl
theorem awake_con:Con PG 14 [] [] (.b true) []:=con_pureX (awk_vc S0.ts S1.ts S2.ts S3.ts S4.ts S5.ts S6.ts S7.ts S8.ts S9.ts V0 V1 V2 V3 V4 V5 V6 V7 V8 b9 (by kernel_rfl) (by kernel_rfl) (by kernel_rfl) (by kernel_rfl) (by kernel_rfl) (by kernel_rfl) (by kernel_rfl) (by kernel_rfl) (by kernel_rfl) (by kernel_rfl) (by kernel_rfl) (by kernel_rfl) (by kernel_rfl) (by kernel_rfl) (by kernel_rfl) (by kernel_rfl) (by kernel_rfl) _) rfl ⟨start3_con,B0_con,trivial,trivial,B1_con,B2_con,trivial,(by kernel_rfl),trivial,(by kernel_rfl),(by kernel_rfl),(by kernel_rfl),(by kernel_rfl),trivial,(by kernel_rfl),trivial,(by kernel_rfl),(by kernel_rfl),(by kernel_rfl),(by kernel_rfl),trivial,(by kernel_rfl),(by kernel_rfl),(by kernel_rfl),(by kernel_rfl),(by kernel_rfl),trivial,(by kernel_rfl),(by kernel_rfl),(by decide),(by kernel_rfl),trivial,(by kernel_rfl),(by kernel_rfl),trivial,(by kernel_rfl),(by kernel_rfl),(by kernel_rfl),(by kernel_rfl),sv_con V1 (by decide),(by kernel_rfl),trivial,(by kernel_rfl),B3_con,B4_con,B5_con,trivial,(by kernel_rfl),trivial,(by kernel_rfl),(by kernel_rfl),(by kernel_rfl),(by kernel_rfl),trivial,(by kernel_rfl),(by kernel_rfl),(by kernel_rfl),(by kernel_rfl),(by kernel_rfl),trivial,(by kernel_rfl),(by kernel_rfl),(by decide),(by kernel_rfl),trivial,(by kernel_rfl),(by kernel_rfl),trivial,(by kernel_rfl),(by kernel_rfl),trivial,(by kernel_rfl),(by kernel_rfl),(by kernel_rfl),(by kernel_rfl),B6_con,B7_con,B8_con,enc9_con,dec9_con,trivial,(by kernel_rfl),trivial,(by kernel_rfl),(by kernel_rfl),(by kernel_rfl),(by kernel_rfl),(by kernel_rfl),trivial,(by kernel_rfl),(by kernel_rfl),(by decide),(by kernel_rfl),trivial,(by kernel_rfl),trivial,(by kernel_rfl),(by kernel_rfl),(by kernel_rfl),trivial,(by kernel_rfl),(by kernel_rfl),(by kernel_rfl),(by kernel_rfl),trivial,(by kernel_rfl),(by kernel_rfl),(by kernel_rfl),(by kernel_rfl),(by kernel_rfl),trivial,(by kernel_rfl),(by kernel_rfl),(by kernel_rfl),(by kernel_rfl),(by kernel_rfl),(by kernel_rfl),sam_con S9 S9_ok,trivial,(by kernel_rfl)⟩
theorem sL_s (s:LS) (j i:Nat) (b:Mb):(sL s j b).r.s i=bif Nat.beq i j then b else s.r.s i:=rfl
def Bs (w s:LS):Prop:=∀i,(w.r.s i).x 4=(s.r.s i).x 4∧(w.r.s i).x 5=(s.r.s i).x 5
theorem Bs.refl (s:LS):Bs s s:=fun _=>⟨rfl,rfl⟩
theorem bs_r {w s:LS} (h:w.r=s.r):Bs w s:=fun i=>by rw [h];exact ⟨rfl,rfl⟩
theorem bs_sL (s:LS) (j:Nat) (b:Mb) (h4:b.x 4=(s.r.s j).x 4) (h5:b.x 5=(s.r.s j).x 5):Bs (sL s j b) s:=fun i=>by
 rw [sL_s]
 cases e:Nat.beq i j with
 | false=>exact ⟨rfl,rfl⟩
 | true=>
   have:=Nat.eq_of_beq_eq_true e
   subst this
   exact ⟨h4,h5⟩
theorem bs_tr {a b c:LS} (h:Bs a b) (h':Bs b c):Bs a c:=fun i=>⟨(h i).1.trans (h' i).1,(h i).2.trans (h' i).2⟩
theorem bs_de (s:LS) (c:Cm) (i:Nat):Bs (deS s c i) s:=by
 unfold deS
 cases decide (c.k=1) with
 | true=>
   rw [cond_true]
   refine bs_sL s i _ ?_ ?_<;>(unfold mntB;cases decide ((s.r.s i).x 0=1)<;>cases decide ((s.r.s i).x 0=2)<;>cases decide ((s.r.s i).x 1=1099511627776)<;>rfl)
 | false=>
   cases decide (c.k=5) || decide (c.k=6) with
   | true=>
     simp only [cond_false,cond_true]
     cases !decide (c.ot=c.sv) && !alB (s.r.s i) c.gn with
     | true=>exact .refl _
     | false=>
       cases decide ((s.r.s c.ot.toNat).x 0=2) with
       | false=>exact .refl _
       | true=>
         cases decide (c.k=5) with
         | true=>
           simp only [cond_false,cond_true]
           unfold hpS
           cases decide ((s.r.s c.ot.toNat).x 3=c.sv) with
           | true=>exact bs_sL _ _ _ rfl rfl
           | false=>cases hasHB s.r c.ot.toNat with | true=>exact .refl _ | false=>exact bs_sL _ _ _ rfl rfl
         | false=>
           simp only [cond_false,cond_true]
           unfold dnS
           cases decide ((s.r.s c.ot.toNat).x 3=c.sv) with
           | true=>exact bs_tr (bs_sL _ _ _ rfl rfl) (bs_r (dropS_r s _))
           | false=>exact .refl _
   | false=>
     simp only [cond_false]
     cases alB (s.r.s i) c.gn with
     | false=>exact .refl _
     | true=>
       simp only [cond_true]
       cases decide (c.k=2) with
       | true=>exact bs_sL _ _ _ rfl rfl
       | false=>cases decide (c.k=3) with
         | true=>
           simp only [cond_false,cond_true]
           unfold lkS
           cases h:decide (askE s c.lk c.sv c.md=0) with
           | true=>exact bs_r (askS_r s _ _ _ (of_decide_eq_true h))
           | false=>exact .refl _
         | false=>cases decide (c.k=4) with
           | true=>
             simp only [cond_false,cond_true]
             unfold ulS
             cases h:decide (freeE s c.lk c.sv=0) with
             | true=>exact bs_r (freeS_r s _ _ (of_decide_eq_true h))
             | false=>exact .refl _
           | false=>
             simp only [cond_false]
             unfold lnS
             cases decide (lnE s c=0) with
             | true=>exact fun _=>⟨rfl,rfl⟩
             | false=>exact .refl _
theorem vwL_ans (b v:Mb):vwL (ansM b v)=vwL v:=rfl
theorem ap1_at (s:LS) (c:Cm) (i:Nat):staB ((ap1S s c i).r.s i) c.bt c.sq=false∧agB ((ap1S s c i).r.s i) c=true∧vwL ((ap1S s c i).r.s i)=vwL (vwS (deS (s2L s c i) c i) i (deE (s2L s c i) c i)):=by
 have h:=bs_de (s2L s c i) c i i
 have e2:(s2L s c i).r.s i=bsM ((pasL s c.d).r.s i) c.bt c.sq:=by unfold s2L;rw [sL_s,Nat.beq_refl];rfl
 rw [e2] at h
 have h4:((deS (s2L s c i) c i).r.s i).x 4=c.bt:=h.1
 have h5:((deS (s2L s c i) c i).r.s i).x 5=c.sq:=h.2
 unfold ap1S
 generalize deS (s2L s c i) c i=w at h4 h5⊢
 generalize deE (s2L s c i) c i=e
 have e1:(sL w i (ansM (w.r.s i) (vwS w i e))).r.s i=ansM (w.r.s i) (vwS w i e):=by rw [sL_s,Nat.beq_refl];rfl
 rw [e1]
 have a4:(ansM (w.r.s i) (vwS w i e)).x 4=c.bt:=h4
 have a5:(ansM (w.r.s i) (vwS w i e)).x 5=c.sq:=h5
 refine ⟨?_,?_,vwL_ans _ _⟩
 · unfold staB;rw [a4,a5];simp
 · unfold agB;rw [a4,a5];simp
theorem apS_again (s:LS) (c:Cm) (i:Nat):apS (apS s c i) c i=apS s c i∧vwL (apV (apS s c i) c i)=vwL (apV s c i):=by
 have self:∀{u:LS} {v:Mb},apS s c i=s→apV s c i=v→apS (apS s c i) c i=apS s c i∧vwL (apV (apS s c i) c i)=vwL (apV s c i):=fun h _=>by rw [h];exact ⟨h,rfl⟩
 cases h1:staB (s.r.s i) c.bt c.sq with
 | true=>exact self (u:=s) (by unfold apS;rw [h1];rfl) rfl
 | false=>
   cases h2:agB (s.r.s i) c with
   | true=>exact self (u:=s) (by unfold apS;rw [h1,h2];rfl) rfl
   | false=>
     cases h3:decide (pasE s.ts c.d=0) with
     | false=>
       refine self (u:=s) ?_ rfl
       unfold apS
       rw [h1,h2,h3]
       show pasL s c.d=s
       unfold pasE at h3
       unfold pasL
       cases h4:decide (4503599627370496<s.r.x 1+c.d) with
       | true=>rfl
       | false=>
         have h4':decide (4503599627370496<s.ts.r.x 1+c.d)=false:=h4
         rw [h4'] at h3
         cases h3
     | true=>
       obtain ⟨a,b,d⟩:=ap1_at s c i
       have e1:apS s c i=ap1S s c i:=by unfold apS;rw [h1,h2,h3];rfl
       have e2:apV s c i=vwS (deS (s2L s c i) c i) i (deE (s2L s c i) c i):=by unfold apV;rw [h1,h2,h3];rfl
       rw [e1,e2]
       constructor
       · unfold apS;rw [a,b];rfl
       · unfold apV;rw [a,b];exact d
theorem ApS_again (s:LS) (c:Cm) (hk:c.k≠8):ApS (ApS s c) c=ApS s c∧vwL (ApV (ApS s c) c)=vwL (ApV s c):=by
 cases h1:vaB s && vcB c with
 | false=>
   have e:ApS s c=s:=by unfold ApS;rw [h1];rfl
   rw [e];exact ⟨e,rfl⟩
 | true=>
   have h1':=h1
   rw [Bool.and_eq_true] at h1'
   have k8:decide (c.k=8)=false:=decide_eq_false hk
   have v:=va_all ((va_iff s).1 h1'.1) c
   have e:ApS s c=apS s c c.sv.toNat:=by unfold ApS;rw [h1,k8];rfl
   have e':ApV s c=apV s c c.sv.toNat:=by unfold ApV;rw [h1,k8];rfl
   rw [e] at v
   have h2:(vaB (apS s c c.sv.toNat) && vcB c)=true:=by rw [(va_iff _).2 v,h1'.2];rfl
   obtain ⟨a,b⟩:=apS_again s c c.sv.toNat
   rw [e,e']
   constructor
   · unfold ApS;rw [h2,k8];exact a
   · unfold ApV;rw [h2,k8];exact b
theorem ok_ans {s:LS} (g:Gv s) (i:Nat) (hi:i<3) (e:Int):(sL s i (ansM (s.r.s i) (vwS s i e))).ok:=ok_sL g.ok i (vw_ok g i hi e)
def bok (b:Mb):Prop:=b.mn≤17592186044416∧b.sn≤17592186044416∧b.hn≤5864062014805∧b.dn≤5864062014805
theorem cd_ok (e:Int):bok (cdM e):=⟨Nat.zero_le _,Nat.zero_le _,Nat.zero_le _,Nat.zero_le _⟩
theorem oks {s:LS} (ok:s.ok) (c:Cm):(ApS s c).ok∧bok (ApV s c):=by
 unfold ApS ApV
 cases hs:vaB s && vcB c with
 | false=>exact ⟨ok,cd_ok _⟩
 | true=>
   rw [Bool.and_eq_true] at hs
   have g:=gd_of ok hs.1
   obtain ⟨hk,hd,hr⟩:=vc_gd hs.2
   rw [cond_true,cond_true]
   cases h8:decide (c.k=8) with
   | true=>exact ⟨(gd_pas g c.d hd.1).ok,cd_ok _⟩
   | false=>
     have q:=of_decide_eq_false h8
     obtain ⟨r1,r2,r3⟩:=hr (by omega)
     rw [cond_false,cond_false]
     unfold apS apV
     cases staB (s.r.s c.sv.toNat) c.bt c.sq with
     | true=>exact ⟨ok,cd_ok _⟩
     | false=>
       cases agB (s.r.s c.sv.toNat) c with
       | true=>exact ⟨ok,ok.s _⟩
       | false=>
         cases decide (pasE s.ts c.d=0) with
         | false=>exact ⟨(gd_pas g c.d hd.1).ok,cd_ok _⟩
         | true=>
           have g2:=gd_s2 g c c.sv.toNat (by omega) hd.1 (by omega)
           have gw:=gv_de g2 c c.sv.toNat (by omega) r3 (.inr (gv_ln g2.gv c)) ⟨hk.1,by omega⟩
           exact ⟨ok_ans gw _ (by omega) _,vw_ok gw _ (by omega) _⟩
theorem on8_vq (t:TS) (c:Cm) (h1:decide (c.k=8)=true):VD PG 8 [tsV t,cmV c] [] (.c (.cal [] (.b true) [] (.c (.t .z)))) (.b true) [] [] 2 (fun Lf=>Con PG 14 [] [] (.b true) []∧True∧True∧decide (Cm.k c=8)=true∧Lf):=by unfold VD VQ;kernel_rfl
theorem onA_vq (t u:TS) (v:Mb) (c:Cm) (h1:decide (c.k=8)=false):VD PG 8 [tsV t,cmV c] [] (.s (.cal [] (.b true) [] (.c (.f (.cal [] (tsV t) [] (.inl (.s (.cal [] (.tup [tsV u,.agg (vwL v)]) [] (.cal [] (tsV u) [] (.inl (.s (.cal [] (.tup [tsV u,.agg (vwL v)]) [] (.cal [] (.b true) [] (oc 3 (.cal [] (.b true) [] (.c .z))))) .z)))) .z)))))) .z) (.b true) [] [] 14 (fun Lf=>Con PG 14 [] [] (.b true) []∧True∧True∧decide (Cm.k c=8)=false∧True∧True∧True∧Con PG 16 [tsV t] [] (tsV t) []∧True∧((1=1∧0+Cm.mn c≤Cm.mn c)∧True∧True∧0+Cm.mn c≤140737488355328∧(3*(0+Cm.mn c)+1536)*8≤562949953421312)∧True∧Con PG 15 [tsV t,.agg [.i .i64 (Cm.k c),.i .i64 (Cm.sv c),.i .i64 (Cm.bt c),.i .i64 (Cm.sq c),.i .i64 (Cm.gn c),.i .i64 (Cm.lk c),.i .i64 (Cm.md c),.i .i64 (Cm.ot c),isv (Cm.mn c) (Cm.mf c),.i .i64 (if 0>Cm.d c then 0 else Cm.d c)]] [] (.tup [tsV u,.agg (vwL v)]) []∧Con PG 16 [tsV u] [] (tsV u) []∧True∧((1=1∧0+Cm.mn c≤Cm.mn c)∧True∧True∧0+Cm.mn c≤140737488355328∧(3*(0+Cm.mn c)+1536)*8≤562949953421312)∧True∧Con PG 15 [tsV u,.agg [.i .i64 (Cm.k c),.i .i64 (Cm.sv c),.i .i64 (Cm.bt c),.i .i64 (Cm.sq c),.i .i64 (Cm.gn c),.i .i64 (Cm.lk c),.i .i64 (Cm.md c),.i .i64 (Cm.ot c),isv (Cm.mn c) (Cm.mf c),.i .i64 (if 0>Cm.d c then 0 else Cm.d c)]] [] (.tup [tsV u,.agg (vwL v)]) []∧Con PG 19 [tsV u,tsV u] [] (.b true) []∧Con PG 20 [.agg (vwL v),.agg (vwL v)] [] (.b true) []∧Lf):=by unfold VD VQ;kernel_rfl
theorem law8_con (s:LS) (ok:s.ok) (c:Cm) (hm:c.mn≤17592186044416):Con PG 8 [lsV s,cmV c] [] (.b true) []:=by
 cases h8:decide (c.k=8) with
 | true=>exact con_d (on8_vq s.ts c h8) (by repeat' first | exact trivial | exact awake_con | exact h8 | exact rfl | apply And.intro)
 | false=>
   obtain ⟨c2,hc2⟩:∃c2:Cm,c2={ c with d:=if (0:Int)>c.d then 0 else c.d}:=⟨_,rfl⟩
   have hk:c2.k≠8:=by rw [hc2];exact of_decide_eq_false h8
   have hm2:c2.mn≤1152921504606846976:=by rw [hc2];show c.mn≤_;omega
   obtain ⟨a,b⟩:=ApS_again s c2 hk
   have h1:=Apply_all s ok c2 hm2
   obtain ⟨ok2,vok⟩:=oks ok c2
   have h2:=Apply_all (ApS s c2) ok2 c2 hm2
   rw [a,b] at h2
   have hs:=sam_con (ApS s c2) ok2
   have hv:=sv_con (ApV s c2) vok
   have o1:=own_con s ok
   have o2:=own_con (ApS s c2) ok2
   generalize ApS s c2=u at *
   generalize ApV s c2=v at *
   subst hc2
   have rm:(1:Nat)=1∧0+c.mn≤c.mn:=⟨rfl,by omega⟩
   have rn:0+c.mn≤140737488355328:=by omega
   have ro:(3*(0+c.mn)+1536)*8≤562949953421312:=by omega
   exact con_d (onA_vq s.ts u.ts v c h8) (by repeat' first | exact trivial | exact awake_con | exact h8 | exact o1 | exact o2 | exact h1 | exact h2 | exact hs | exact hv | exact rm | exact rn | exact ro | exact rfl | apply And.intro)
end Go.Proofs.Sv
namespace Go.Proofs.Sv
open Go Go.Sim Go.Proofs Go.Proofs.Lk
def cmC (c:Cm):List CV:=[.i .i64 c.k,.i .i64 c.sv,.i .i64 c.bt,.i .i64 c.sq,.i .i64 c.gn,.i .i64 c.lk,.i .i64 c.md,.i .i64 c.ot,isC c.mn c.mf,.i .i64 c.d]
end Go.Proofs.Sv
