/- Runs over unknown values, told by the kernel: part GB. -/
import Derived.Test.YtgoppmcfidmgfaaGA
import Derived.WalkKit
import Derived.BigCall
import Derived.Maps.RangeWalk
import Derived.Maps.Ext
set_option linter.unusedSimpArgs false
set_option linter.unusedVariables false
set_option maxRecDepth 20000
namespace Go.Proofs.Cd
open Go Go.Sim Go.Proofs Go.Proofs.Ytgoppmcfidmgfaa
end Go.Proofs.Cd
set_option maxHeartbeats 4000000
namespace Go.Proofs.Ly
open Go Go.Sim Go.Proofs Go.Proofs.Cd Go.Proofs.St Go.Proofs.Cl Go.Proofs.Ytgoppmcfidmgfaa
noncomputable def lyB:Code:=rfBody Try.prog 32 0
theorem td_bd {t:List Nat} (h:t.length<=1000000):0<=Int.tdiv (Int.ofNat (List.length t)+36-1) 36/\Int.tdiv (Int.ofNat (List.length t)+36-1) 36<=1000036:=by
 have e:Int.tdiv (Int.ofNat (List.length t)+36-1) 36=Int.ofNat ((t.length+35) / 36):=by
  rw [show Int.ofNat t.length+(36:Int)-(1:Int)=Int.ofNat (t.length+35) from by simp;omega];exact Eq.refl _
 rw [e]
 have h2:(t.length+35) / 36<=1000036:=Nat.le_trans (Nat.div_le_self (t.length+35) 36) (by omega)
 exact ⟨Int.natCast_nonneg _,Int.ofNat_le.2 h2⟩
set_option maxRecDepth 200000
theorem td_eq (t:List Nat):Int.tdiv (Int.ofNat (List.length t)+36-1) 36=Int.ofNat ((t.length+35) / 36):=by
 rw [show Int.ofNat t.length+(36:Int)-(1:Int)=Int.ofNat (t.length+35) from by simp;omega];exact Eq.refl _
def nfr (t:List Nat):Nat:=(t.length+35) / 36
set_option maxRecDepth 200000
theorem wdT0_vq (et:List Nat) (ec:Int) (n:Nat) (B V:Nat->Int) (D:Nat->List Nat) (h:decide (ec=0)=true):VD Try.prog 31 [.sv 3 n (uF B V D)] [] (Orc.cal []
 (.tup [.s et,.i .i64 ec]) [] (Orc.f (Orc.inl Orc.z))) (.tup [.i .i64 (Int.tdiv (Int.ofNat (List.length et)+(36:Int)-(1:Int)) 36),.i .i64 0]) [] [] 0 (fun Lf=>Con
 Try.prog 43 [.sv 3 n (uF B V D)] [] (.tup [.s et,.i .i64 ec]) []/\(!decide (ec=0))=false/\rg (Int.ofNat (List.length et)+36)/\rg (Int.ofNat (List.length et)+(36
 :Int)-(1:Int))/\((36:Int)≠(0:Int)/\(-9223372036854775808)<=Int.tdiv (Int.ofNat (List.length et)+(36:Int)-(1:Int)) 36/\Int.tdiv (Int.ofNat (List.length
 et)+(36:Int)-(1:Int)) (36:Int)<=(9223372036854775807:Int))/\Lf):=by unfold VD VQ;kernel_rfl
theorem wdT_con (n:Nat) (B V:Nat->Int) (D:Nat->List Nat) (et:List Nat) (ec:Int) (het:et.length<=1000000) (h:decide (ec=0)=true) (kenc:Con Try.prog 43 [.sv 3 n (uF B V D)] [] (.tup [.s et,.i .i64 ec]) []):Con Try.prog 31 [.sv 3 n (uF B V D)] [] (.tup [.i .i64 (Int.tdiv (Int.ofNat (List.length et)+36-1) 36),.i .i64 0]) []:=by
 have hz:0<=Int.tdiv (Int.ofNat (List.length et)+36-1) 36/\Int.tdiv (Int.ofNat (List.length et)+36-1) 36<=1000036:=td_bd het
 exact con_d (wdT0_vq (et:=et) (ec:=ec) (n:=n) (B:=B) (V:=V) (D:=D) (h:=h)) (by repeat' first | exact trivial | assumption | exact rfl | exact nT (by assumption) | exact nF (by assumption) | assumption | exact nnT (by assumption) | exact nnF (by assumption) | (unfold rg;simp;omega) | (unfold rg;omega) | (simp;omega) | omega | apply And.intro | decide)
theorem wdF0_vq (et:List Nat) (ec:Int) (n:Nat) (B V:Nat->Int) (D:Nat->List Nat) (h:decide (ec=0)=false):VD Try.prog 31 [.sv 3 n (uF B V D)] [] (Orc.cal []
 (.tup [.s et,.i .i64 ec]) [] (Orc.t Orc.z)) (.tup [.i .i64 0,.i .i64 ec]) [] [] 0 (fun Lf=>Con Try.prog 43 [.sv 3 n (uF B V D)] [] (.tup [.s et,.i .i64 ec]) []/\
 (!decide (ec=0))=true/\Lf):=by unfold VD VQ;kernel_rfl
theorem wdF_con (n:Nat) (B V:Nat->Int) (D:Nat->List Nat) (et:List Nat) (ec:Int) (h:decide (ec=0)=false) (kenc:Con Try.prog 43 [.sv 3 n (uF B V D)] [] (.tup [.s et,.i .i64 ec]) []):Con Try.prog 31 [.sv 3 n (uF B V D)] [] (.tup [.i .i64 0,.i .i64 ec]) []:=by
 exact con_d (wdF0_vq (et:=et) (ec:=ec) (n:=n) (B:=B) (V:=V) (D:=D) (h:=h)) (by repeat' first | exact trivial | assumption | exact rfl | exact nT (by assumption) | exact nF (by assumption) | assumption | apply And.intro | decide)
noncomputable def wdN (n:Nat) (B V:Nat->Int) (D:Nat->List Nat):Int:=bif encB n B V D then Int.ofNat (nfr (rcT n B V D)) else 0
theorem rc_540 {n:Nat} {B V:Nat->Int} {D:Nat->List Nat} (h:encB n B V D=true):(rcT n B V D).length<=540:=by
 unfold encB at h
 rw [Bool.and_eq_true,Bool.not_eq_true'] at h
 have:=of_decide_eq_false h.2
 simp at this;omega
theorem width_con {n:Nat} {B V:Nat->Int} {D:Nat->List Nat} (hn:n<=281474976710656) (hb:∀i,i<n->Byt (D i)):Con Try.prog 31 [.sv 3 n (uF B V D)] [] (.tup [.i .i64 (wdN n B V D),.i .i64 (encE n B V D)]) []:=by
 have e:=enc_con n B V D hn hb
 unfold wdN
 cases h:encB n B V D with
 | false=>
   have e2:encE n B V D=2:=by unfold encE;rw [h];rfl
   rw [e2] at e⊢
   exact wdF_con n B V D _ 2 rfl e
 | true=>
   have e2:encE n B V D=0:=by unfold encE;rw [h];rfl
   rw [e2,show encT n B V D=rcT n B V D by unfold encT;rw [h];rfl] at e
   rw [e2]
   have:=rc_540 h
   have q:=wdT_con n B V D _ 0 (by omega) rfl e
   rw [td_eq] at q
   exact q
def wi (n a b:Int):Bool:=decide (a<=n) && decide (n<=b)
theorem w510_vq (n a b:Int) (h0:decide (a<=n)=true):VD Try.prog 57 [.i .i64 n,.i .i64 a,.i .i64 b] [] (Orc.t (Orc.t (Orc.t (Orc.t Orc.z)))) (.b (decide (n<=b))) []
 [] 0 (fun Lf=>decide (a<=n)=true/\decide (a<=n)=true/\decide (a<=n)=true/\decide (a<=n)=true/\Lf):=by unfold VD VQ;kernel_rfl
theorem w511_vq (n a b:Int) (h0:decide (a<=n)=false):VD Try.prog 57 [.i .i64 n,.i .i64 a,.i .i64 b] [] (Orc.f (Orc.f (Orc.f (Orc.f Orc.z)))) (.b false) [] [] 0 (fun
 Lf=>decide (a<=n)=false/\decide (a<=n)=false/\decide (a<=n)=false/\decide (a<=n)=false/\Lf):=by unfold VD VQ;kernel_rfl
theorem w51_con (n a b:Int):Con Try.prog 57 [.i .i64 n,.i .i64 a,.i .i64 b] [] (.b (wi n a b)) []:=by
 unfold wi
 cases h0:decide (a<=n) with
 | true=>
   exact con_d (w510_vq (n:=n) (a:=a) (b:=b) (h0:=h0)) (by repeat' first | exact trivial | assumption | exact rfl | exact nT (by assumption) | exact nF (by assumption) | apply And.intro)
 | false=>
   exact con_d (w511_vq (n:=n) (a:=a) (b:=b) (h0:=h0)) (by repeat' first | exact trivial | assumption | exact rfl | exact nT (by assumption) | exact nF (by assumption) | apply And.intro)
noncomputable def blB (v:Int) (t:List Nat):Bool:=wi v 0 1099511627776 && (decide (Int.ofNat t.length<=38) && (decide (0<v) || natsEq t []))
theorem bm0_vq (w:Int->Int->Int->Bool) (v:Int) (t:List Nat) (h0:w v 0 1099511627776=true) (h1:decide (Int.ofNat t.length<=38)=true) (h2:decide (0<v) =
 true):VD Try.prog 47 [.agg [.i .i64 v,.s t]] [] (Orc.cal [] (.b (w v 0 1099511627776)) [] (Orc.t (Orc.t (Orc.t (Orc.t (Orc.t (Orc.t (Orc.t (Orc.t (Orc.t (Orc.f (Orc.f
 (Orc.f (Orc.t (Orc.t (Orc.t Orc.z)))))))))))))))) (.b true) [] [] 1 (fun Lf=>True/\Con Try.prog 57 [.i .i64 v,.i .i64 0,.i .i64 1099511627776] [] (.b (w v 0
 1099511627776)) []/\w v 0 1099511627776=true/\True/\w v 0 1099511627776=true/\w v 0 1099511627776=true/\w v 0 1099511627776=true/\w v 0 1099511627776=true/\
 decide (Int.ofNat (List.length t)<=38)=true/\True/\decide (Int.ofNat (List.length t)<=38)=true/\decide (Int.ofNat (List.length t)<=38)=true/\decide (Int.ofNat
 (List.length t)<=38)=true/\(!decide (0<v))=false/\(!decide (0<v))=false/\(!decide (0<v))=false/\decide (Int.ofNat (List.length t)<=38)=true/\decide (0
 <v)=true/\decide (Int.ofNat (List.length t)<=38)=true/\Lf):=by unfold VD VQ;kernel_rfl
theorem bm1_vq (w:Int->Int->Int->Bool) (v:Int) (t:List Nat) (h0:w v 0 1099511627776=true) (h1:decide (Int.ofNat t.length<=38)=true) (h2:decide (0<v) =
 false):VD Try.prog 47 [.agg [.i .i64 v,.s t]] [] (Orc.cal [] (.b (w v 0 1099511627776)) [] (Orc.t (Orc.t (Orc.t (Orc.t (Orc.t (Orc.t (Orc.t (Orc.t (Orc.t (Orc.t (Orc.t
 (Orc.t (Orc.t (Orc.f (Orc.t Orc.z)))))))))))))))) (.b (natsEq t [])) [] [] 1 (fun Lf=>True/\Con Try.prog 57 [.i .i64 v,.i .i64 0,.i .i64 1099511627776] [] (.b (w v 0
 1099511627776)) []/\w v 0 1099511627776=true/\True/\w v 0 1099511627776=true/\w v 0 1099511627776=true/\w v 0 1099511627776=true/\w v 0 1099511627776=true/\
 decide (Int.ofNat (List.length t)<=38)=true/\True/\decide (Int.ofNat (List.length t)<=38)=true/\decide (Int.ofNat (List.length t)<=38)=true/\decide (Int.ofNat
 (List.length t)<=38)=true/\(!decide (0<v))=true/\True/\(!decide (0<v))=true/\(!decide (0<v))=true/\decide (Int.ofNat (List.length t)<=38)=true/\decide
 (0<v)=false/\decide (Int.ofNat (List.length t)<=38)=true/\Lf):=by unfold VD VQ;kernel_rfl
theorem bm2_vq (w:Int->Int->Int->Bool) (v:Int) (t:List Nat) (h0:w v 0 1099511627776=true) (h1:decide (Int.ofNat t.length<=38)=false):VD Try.prog 47 [.agg
 [.i .i64 v,.s t]] [] (Orc.cal [] (.b (w v 0 1099511627776)) [] (Orc.t (Orc.t (Orc.t (Orc.t (Orc.t (Orc.f (Orc.f (Orc.f (Orc.f (Orc.f (Orc.f Orc.z)))))))))))) (.b false) []
 [] 1 (fun Lf=>True/\Con Try.prog 57 [.i .i64 v,.i .i64 0,.i .i64 1099511627776] [] (.b (w v 0 1099511627776)) []/\w v 0 1099511627776=true/\True/\w v 0
 1099511627776=true/\w v 0 1099511627776=true/\w v 0 1099511627776=true/\w v 0 1099511627776=true/\decide (Int.ofNat (List.length t)<=38)=false/\decide
 (Int.ofNat (List.length t)<=38)=false/\decide (Int.ofNat (List.length t)<=38)=false/\decide (Int.ofNat (List.length t)<=38)=false/\decide (Int.ofNat (List.length
 t)<=38)=false/\decide (Int.ofNat (List.length t)<=38)=false/\Lf):=by unfold VD VQ;kernel_rfl
theorem bm3_vq (w:Int->Int->Int->Bool) (v:Int) (t:List Nat) (h0:w v 0 1099511627776=false):VD Try.prog 47 [.agg [.i .i64 v,.s t]] [] (Orc.cal [] (.b (w v 0
 1099511627776)) [] (Orc.f (Orc.f (Orc.f (Orc.f (Orc.f (oc 6 Orc.z))))))) (.b false) [] [] 1 (fun Lf=>True/\Con Try.prog 57 [.i .i64 v,.i .i64 0,.i .i64 1099511627776] []
 (.b (w v 0 1099511627776)) []/\w v 0 1099511627776=false/\w v 0 1099511627776=false/\w v 0 1099511627776=false/\w v 0 1099511627776=false/\w v 0 1099511627776 =
 false/\Lf):=by unfold VD VQ;kernel_rfl
theorem bm_con (v:Int) (t:List Nat):Con Try.prog 47 [.agg [.i .i64 v,.s t]] [] (.b (blB v t)) []:=by
 unfold blB
 cases h0:wi v 0 1099511627776 with
 | true=>
   cases h1:decide (Int.ofNat t.length<=38) with
   | true=>
     cases h2:decide (0<v) with
     | true=>
       exact con_d (bm0_vq (w:=wi) (v:=v) (t:=t) (h0:=h0) (h1:=h1) (h2:=h2)) (by repeat' first | exact trivial | assumption | exact rfl | exact nT (by assumption) | exact nF (by assumption) | exact w51_con _ _ _ | apply And.intro)
     | false=>
       exact con_d (bm1_vq (w:=wi) (v:=v) (t:=t) (h0:=h0) (h1:=h1) (h2:=h2)) (by repeat' first | exact trivial | assumption | exact rfl | exact nT (by assumption) | exact nF (by assumption) | exact w51_con _ _ _ | apply And.intro)
   | false=>
     exact con_d (bm2_vq (w:=wi) (v:=v) (t:=t) (h0:=h0) (h1:=h1)) (by repeat' first | exact trivial | assumption | exact rfl | exact nT (by assumption) | exact nF (by assumption) | exact w51_con _ _ _ | apply And.intro)
 | false=>
   exact con_d (bm3_vq (w:=wi) (v:=v) (t:=t) (h0:=h0)) (by repeat' first | exact trivial | assumption | exact rfl | exact nT (by assumption) | exact nF (by assumption) | exact w51_con _ _ _ | apply And.intro)
theorem foA_lq (L0:Nat) (B0:Nat->Nat) (n:Nat) (f:Nat->Nat) (h0:decide (0<Int.ofNat n)=true):LD Try.prog (loopAt Try.prog 48 0) 17 1 [(3,.p 0 0),(6,.sv 1 n
 fun i _=>.i .i64 (Int.ofNat (f i))),(7,.i .i64 (Int.ofNat n)),(8,.i .i64 0)] [some w0O] (Orc.t (Orc.cal [0] (.tup []) [.set (wO L0),.set (shO 2 L0),.set (AObj.rows 5
 1 L0 (byF B0))] Orc.z)) .nrm [0,1,2] [(3,.p 0 0),(6,.sv 1 n fun i _=>.i .i64 (Int.ofNat (f i))),(7,.i .i64 (Int.ofNat n)),(8,.i .i64 1)] [some (wO L0),some (shO 2
 L0),some (.rows 5 1 L0 (byF B0))] 3 (fun Lf=>decide (0<Int.ofNat n)=true/\((0:Int)<=(0:Int)/\(0:Int)<↑n)/\True/\Con Try.prog 50 [.p 0 0,.i .i64
 (Int.ofNat (f 0))] [some w0O] (.tup []) [.set (wO L0),.set (shO 2 L0),.set (AObj.rows 5 1 L0 (byF B0))]/\rg (1)/\Lf):=by unfold LD LQ;kernel_rfl
theorem foR_lq (KK:Nat) (HH:Nat->Nat) (n i k:Nat) (f g:Nat->Nat) (h0:decide (Int.ofNat i<Int.ofNat n)=true):LD Try.prog (loopAt Try.prog 48 0) 17 1 [(3,.p 0
 0),(6,.sv 1 n fun i _=>.i .i64 (Int.ofNat (f i))),(7,.i .i64 (Int.ofNat n)),(8,.i .i64 (Int.ofNat i))] [some (wO k),some (shO 2 k),some (.rows 5 1 k (byF g))]
 (Orc.t (Orc.cal [0,1,2] (.tup []) [.set (wO KK),.set (shO 3 KK),.gone,.set (AObj.rows 5 1 KK (byF HH))] Orc.z)) .nrm [0,1,3] [(3,.p 0 0),(6,.sv 1 n fun i _=>.i
 .i64 (Int.ofNat (f i))),(7,.i .i64 (Int.ofNat n)),(8,.i .i64 (Int.ofNat i+1))] [some (wO KK),some (shO 2 KK),some (.rows 5 1 KK (byF HH))] 4 (fun Lf=>decide
 (Int.ofNat i<Int.ofNat n)=true/\(0<=Int.ofNat i/\Int.ofNat i<↑n)/\True/\Con Try.prog 50 [.p 0 0,.i .i64 (Int.ofNat (f i))] [some (wO k),some (shO 2 k),some
 (AObj.rows 5 1 k (byF g))] (.tup []) [.set (wO KK),.set (shO 3 KK),.gone,.set (AObj.rows 5 1 KK (byF HH))]/\rg (Int.ofNat i+1)/\Lf):=by unfold LD LQ;kernel_rfl
theorem foE_lq (n i k:Nat) (f g:Nat->Nat) (h0:decide (Int.ofNat i<Int.ofNat n)=false):LD Try.prog (loopAt Try.prog 48 0) 17 1 [(3,.p 0 0),(6,.sv 1 n fun i _=>
 .i .i64 (Int.ofNat (f i))),(7,.i .i64 (Int.ofNat n)),(8,.i .i64 (Int.ofNat i))] [some (wO k),some (shO 2 k),some (.rows 5 1 k (byF g))] (Orc.f Orc.z) (.exit 0) [0,1,
 2] [(3,.p 0 0)] [some (wO k),some (shO 2 k),some (.rows 5 1 k (byF g))] 3 (fun Lf=>decide (Int.ofNat i<Int.ofNat n)=false/\Lf):=by unfold LD LQ;kernel_rfl
theorem fo0_vq (KK:Nat) (HH:Nat->Nat) (n:Nat) (f:Nat->Nat):VD Try.prog 48 [.sv 1 n fun i _=>.i .i64 (Int.ofNat (f i))] [] (Orc.lop [0] [3,6,7,8] 1 (XO.exit 0)
 [(3,.p 0 0)] [some (wO KK),some (shO 2 KK),some (AObj.rows 5 1 KK (byF HH))] (Orc.cal [0,1,2] (.sv 1 KK (byF HH)) [.keep,.keep,.gone] Orc.z)) (.s (bytesF KK (byF HH)))
 [] [] 3 (fun Lf=>LDoes Try.prog (loopAt Try.prog 48 0) 17 1 (mkT [(3,.p 0 0),(6,.sv 1 n fun i x=>CV.i .i64 (Int.ofNat (f i))),(7,.i .i64 (Int.ofNat n)),(8,.i .i64
 0)]) [some w0O] (XO.exit 0) (mkT [(3,.p 0 0)]) [some (wO KK),some (shO 2 KK),some (AObj.rows 5 1 KK (byF HH))]/\Con Try.prog 53 [.p 0 0] [some (wO KK),some (shO 2 KK),
 some (AObj.rows 5 1 KK (byF HH))] (.sv 1 KK (byF HH)) [.keep,.keep,.gone]/\U8s KK (byF HH)/\Lf):=by unfold VD VQ;kernel_rfl
theorem fo_con (n:Nat) (f:Nat->Nat) (KK:Nat) (HH:Nat->Nat) (hk:KK<=1073741824) (hu:U8s KK (byF HH)) (hl:LDoes Try.prog (loopAt Try.prog 48 0) 17 1 (mkT [(3,.p 0 0),(6,.sv 1 n fun i _=>.i .i64 (Int.ofNat (f i))),(7,.i .i64 (Int.ofNat n)),(8,.i .i64 0)]) [some w0O] (.exit 0) (mkT [(3,.p 0 0)]) [some (wO KK),some (shO 2 KK),some (.rows 5 1 KK (byF HH))]):Con Try.prog 48 [.sv 1 n fun i _=>.i .i64 (Int.ofNat (f i))] [] (.s (bytesF KK (byF HH))) []:=by
 exact con_d (fo0_vq (KK:=KK) (HH:=HH) (n:=n) (f:=f)) (by repeat' first | exact trivial | assumption | exact rfl | exact nT (by assumption) | exact nF (by assumption) | exact hl | exact wb_con _ _ hk | exact hu | apply And.intro)
def fmP (f:Nat->Nat):Nat->List Nat
 | 0=>[]
 | i+1=>fmP f i ++ fN (f i)
theorem fmP_le {f:Nat->Nat}:∀{n:Nat},(∀i,i<n->f i<9223372036854775808)->(fmP f n).length<=11*n
 | 0,_=>Nat.le_refl _
 | n+1,h=>by
   show (fmP f n ++ fN (f n)).length<=_
   rw [List.length_append]
   have:=fmP_le (f:=f) (n:=n) fun i hi=>h i (by omega)
   have:=fN_le (h n (by omega))
   omega
theorem fmP_byt {f:Nat->Nat}:∀{n:Nat},(∀i,i<n->f i<9223372036854775808)->Byt (fmP f n)
 | 0,_=>Byt.nil
 | n+1,h=>(fmP_byt fun i hi=>h i (by omega)).app (fN_byt (h n (by omega)))
noncomputable def foI (n:Nat) (f:Nat->Nat):Nat->List (Nat×AV)×List (Option AObj)
 | 0=>([(3,.p 0 0),(6,.sv 1 n fun i _=>.i .i64 (Int.ofNat (f i))),(7,.i .i64 (Int.ofNat n)),(8,.i .i64 0)],[some w0O])
 | i+1=>([(3,.p 0 0),(6,.sv 1 n fun i _=>.i .i64 (Int.ofNat (f i))),(7,.i .i64 (Int.ofNat n)),(8,.i .i64 (Int.ofNat (i+1)))],[some (wO (fmP f (i+1)).length),some (shO 2 (fmP f (i+1)).length),some (.rows 5 1 (fmP f (i+1)).length (byF (tB (fmP f (i+1)))))])
theorem fo_lp (n:Nat) (f:Nat->Nat) (h0:0<n) (hn:n<=1000) (hf:∀i,i<n->f i<9223372036854775808):LDoes Try.prog (loopAt Try.prog 48 0) 17 1 (mkT [(3,.p 0 0),(6,.sv 1 n fun i _=>.i .i64 (Int.ofNat (f i))),(7,.i .i64 (Int.ofNat n)),(8,.i .i64 0)]) [some w0O] (.exit 0) (mkT [(3,.p 0 0)]) [some (wO (fmP f n).length),some (shO 2 (fmP f n).length),some (.rows 5 1 (fmP f n).length (byF (tB (fmP f n))))]:=by
 refine loop_q (foI n f) (fun i=>n-i) (fun i=>i<=n) (fun i=>by cases i<;>simp [foI]) ?_ 0 (Nat.zero_le _)
 intro i hi
 cases i with
 | zero=>
   have h1:decide ((0:Int)<Int.ofNat n)=true:=decide_eq_true (by simp;omega)
   exact rd_nrm (foA_lq (fN (f 0)).length (tB (fN (f 0))) n f h1) ⟨h1,⟨by simp,by simp;omega⟩,trivial,wnF_con _ (hf 0 h0),by decide,rfl⟩ 1 h0 (by show n-1<n-0;omega) rfl (.refl _) (.refl _)
 | succ i=>
   have hle:=fmP_le (f:=f) (n:=i+1) fun j hj=>hf j (by omega)
   rcases Nat.lt_or_ge (i+1) n with hlt | q
   · have h1:decide (Int.ofNat (i+1)<Int.ofNat n)=true:=decide_eq_true (by simp;omega)
     exact rd_nrm (foR_lq (fmP f (i+2)).length (tB (fmP f (i+2))) n (i+1) (fmP f (i+1)).length f (tB (fmP f (i+1))) h1) ⟨h1,⟨by simp<;>omega,by simp;omega⟩,trivial,wnG_con _ _ (hf _ hlt) (by omega),⟨by simp<;>omega,by simp<;>omega⟩,rfl⟩ (i+2) hlt (by show n-(i+2)<n-(i+1);omega) rfl (.refl _) (.refl _)
   · obtain rfl:i+1=n:=Nat.le_antisymm hi q
     have h1:decide (Int.ofNat (i+1)<Int.ofNat (i+1))=false:=decide_eq_false (by simp)
     exact rd_out (foE_lq (i+1) (i+1) (fmP f (i+1)).length f (tB (fmP f (i+1))) h1) ⟨h1,rfl⟩ rfl rfl (.refl _) (.refl _)
theorem forms_con (n:Nat) (f:Nat->Nat) (h0:0<n) (hn:n<=1000) (hf:∀i,i<n->f i<9223372036854775808):Con Try.prog 48 [.sv 1 n fun i _=>.i .i64 (Int.ofNat (f i))] [] (.s (fmP f n)) []:=by
 have hle:=fmP_le hf
 have h:=fo_con n f (fmP f n).length (tB (fmP f n)) (by omega) (u8_of _) (fo_lp n f h0 hn hf)
 rwa [bts_eq (fmP_byt hf)] at h
theorem VR_s {t:List Nat} (ρ ρ':Rho) (x:Value) (h:VR ρ (.s t) x):VR ρ' (.s t) x:=by cases h;exact .s _ _ (by assumption)
def fm:List Nat->List Nat
 | []=>[]
 | a :: l=>fN a ++ fm l
theorem fm_app:∀(a b:List Nat),fm (a ++ b)=fm a ++ fm b
 | [],b=>rfl
 | x :: a,b=>by show fN x ++ fm (a ++ b)=(fN x ++ fm a) ++ fm b;rw [fm_app a b,List.append_assoc]
theorem fmP_eq (l:List Nat):∀n,n<=l.length->fmP (fun i=>l.getD i 0) n=fm (l.take n)
 | 0,_=>by simp [fmP,fm]
 | n+1,h=>by
   have e:l.take (n+1)=l.take n ++ [l.getD n 0]:=by
    rw [List.take_add_one,List.getD_eq_getElem?_getD,List.getElem?_eq_getElem (show n<l.length by omega)];rfl
   show fmP (fun i=>l.getD i 0) n ++ fN (l.getD n 0)= _
   rw [fmP_eq l n (by omega),e,fm_app]
   show _= _ ++ (fN (l.getD n 0) ++ []);rw [List.append_nil]
def fI (l:List Int):List Nat:=fm (l.map Int.toNat)
theorem isv_of (l:List Int) (h:∀v∈l,rwI v) (i:Nat) (hi:i<l.length):CV.i .i64 (l.getD i 0)=CV.i .i64 (Int.ofNat ((l.map Int.toNat).getD i 0)):=by
 rw [List.getD_eq_getElem?_getD,List.getD_eq_getElem?_getD,List.getElem?_map,List.getElem?_eq_getElem hi]
 show CV.i .i64 l[i]=CV.i .i64 (Int.ofNat l[i].toNat)
 rw [nat_of (h _ (List.getElem_mem hi))]
theorem fsv_con (l:List Int) (h0:0<l.length) (hl:l.length<=1000) (h:∀v∈l,rwI v):Con Try.prog 48 [.sv 1 l.length fun i _=>.i .i64 (l.getD i 0)] [] (.s (fI l)) []:=by
 have hf:∀i,i<l.length->(l.map Int.toNat).getD i 0<9223372036854775808:=fun i hi=>by
  rw [List.getD_eq_getElem?_getD,List.getElem?_map,List.getElem?_eq_getElem hi]
  have:=h _ (List.getElem_mem hi)
  unfold rwI at this
  show l[i].toNat<_
  omega
 have k:=(forms_con l.length (fun i=>(l.map Int.toNat).getD i 0) h0 hl hf).pre (pargs':=[.sv 1 l.length fun i _=>.i .i64 (l.getD i 0)]) ⟨.sv fun i j hi hj=>isv_of l h i hi,trivial⟩
 rw [show l.length=(l.map Int.toNat).length by simp] at k
 rw [fmP_eq (l.map Int.toNat) _ (Nat.le_refl _),List.take_length] at k
 rwa [show (l.map Int.toNat).length=l.length by simp] at k
theorem f1_con (a:Int) (ha:rwI a):Con Try.prog 48 [.l 0 0 1 1 1 true] [some (cellsO 3 [.i .i64 a])] (.s (fI [a])) [.keep]:=
 ((fsv_con [a] (by simp) (by simp) (by intro v hv;simp at hv;rcases hv with rfl<;>assumption)).pre (pargs':=[.sv 1 1 (listF 1 [.i .i64 a] 1)]) ⟨by
   refine .sv fun i j hi hj=>?_
   obtain rfl:j=0:=by omega
   have hi:i<1:=hi
   rcases i with _ | i<;>first | rfl | omega,trivial⟩).borrow (pargs0:=[.l 0 0 1 1 1 true]) (objs:=[some (cellsO 3 [.i .i64 a])]) [0] (frzP 0 (.cells 1 [.i .i64 a]) (.tup [.l 0 0 1 1 1 true])/\True) (by kernel_rfl) (by kernel_rfl) (by kernel_rfl) ⟨by simp [frzP,frzsP],trivial⟩ (by kernel_rfl) (by kernel_rfl) VR_s
theorem wi_rw {v a b:Int} (h:wi v a b=true) (ha:0<=a) (hb:b<9223372036854775808):rwI v:=by
 unfold wi at h
 simp only [Bool.and_eq_true,decide_eq_true_eq] at h
 exact ⟨by omega,by omega⟩
def f1I (a:Int):List Nat:=fI [a]
theorem fm_le:∀{l:List Int},(∀v∈l,rwI v)->(fI l).length<=11*l.length
 | [],_=>Nat.le_refl _
 | a :: l,h=>by
   show (fN a.toNat ++ fI l).length<=11*(l.length+1)
   rw [List.length_append]
   have h1:=h a (by simp)
   unfold rwI at h1
   have:=fN_le (n:=a.toNat) (by omega)
   have:=fm_le (l:=l) fun v hv=>h v (by simp [hv])
   omega
theorem le1 {a:Int} (h:rwI a):(f1I a).length<=11:=fm_le (l:=[a]) (by intro v hv;simp at hv;rw [hv];exact h)
theorem bl_rw {v:Int} {t:List Nat} (h:blB v t=true):rwI v:=by
 unfold blB at h
 rw [Bool.and_eq_true] at h
 exact wi_rw h.1 (by decide) (by decide)
theorem bl_le {v:Int} {t:List Nat} (h:blB v t=true):t.length<=38:=by
 unfold blB at h
 simp only [Bool.and_eq_true,decide_eq_true_eq] at h
 have:=h.2.1
 simp at this;omega
theorem bl_len {v:Int} {t:List Nat} (h:blB v t=true):(f1I v).length+t.length<=1073741824:=by
 have:=le1 (bl_rw h)
 have:=bl_le h
 omega
noncomputable def ebT (v:Int) (t:List Nat):List Nat:=bif blB v t then (bif decide (v=0) then [] else fI [v] ++ t) else []
noncomputable def ebE (v:Int) (t:List Nat):Int:=bif blB v t then 0 else 2
theorem eb0_vq (bl:Int->List Nat->Bool) (v:Int) (t:List Nat) (h0:bl v t=true) (h1:decide (v=0)=true):VD Try.prog 42 [.agg [.i .i64 v,.s t]] [] (Orc.cal []
 (.b (bl v t)) [] (Orc.f (Orc.t Orc.z))) (.tup [.s [],.i .i64 0]) [] [] 1 (fun Lf=>Con Try.prog 47 [.agg [.i .i64 v,.s t]] [] (.b (bl v t)) []/\True/\(!bl v t)=false/\
 True/\decide (v=0)=true/\Lf):=by unfold VD VQ;kernel_rfl
theorem eb1_vq (f1:Int->List Nat) (bl:Int->List Nat->Bool) (v:Int) (t:List Nat) (h0:bl v t=true) (h1:decide (v=0)=false):VD Try.prog 42 [.agg [.i .i64 v,
 .s t]] [] (Orc.cal [] (.b (bl v t)) [] (Orc.f (Orc.f (Orc.cal [1] (.s (f1 v)) [.keep] Orc.z)))) (.tup [.s (f1 v ++ t),.i .i64 0]) [] [] 2 (fun Lf=>Con Try.prog 47 [.agg
 [.i .i64 v,.s t]] [] (.b (bl v t)) []/\True/\(!bl v t)=false/\True/\decide (v=0)=false/\True/\Con Try.prog 48 [.l 0 0 1 1 1 true] [some (cellsO 3 [.i .i64 v])]
 (.s (f1 v)) [.keep]/\True/\List.length (f1 v)+List.length t<=1073741824/\Lf):=by unfold VD VQ;kernel_rfl
theorem eb2_vq (bl:Int->List Nat->Bool) (v:Int) (t:List Nat) (h0:bl v t=false):VD Try.prog 42 [.agg [.i .i64 v,.s t]] [] (Orc.cal [] (.b (bl v t)) [] (Orc.t
 Orc.z)) (.tup [.s [],.i .i64 2]) [] [] 1 (fun Lf=>Con Try.prog 47 [.agg [.i .i64 v,.s t]] [] (.b (bl v t)) []/\True/\(!bl v t)=true/\Lf)
 :=by unfold VD VQ;kernel_rfl
theorem eb_con (v:Int) (t:List Nat):Con Try.prog 42 [.agg [.i .i64 v,.s t]] [] (.tup [.s (ebT v t),.i .i64 (ebE v t)]) []:=by
 unfold ebT ebE
 cases h0:blB v t with
 | true=>
   cases h1:decide (v=0) with
   | true=>
     exact con_d (eb0_vq (bl:=blB) (v:=v) (t:=t) (h0:=h0) (h1:=h1)) (by repeat' first | exact trivial | assumption | exact rfl | exact nT (by assumption) | exact nF (by assumption) | exact bm_con _ _ | exact f1_con _ (by assumption) | exact f1_con _ (bl_rw (by assumption)) | exact bl_len (by assumption) | apply And.intro)
   | false=>
     exact con_d (eb1_vq (f1:=f1I) (bl:=blB) (v:=v) (t:=t) (h0:=h0) (h1:=h1)) (by repeat' first | exact trivial | assumption | exact rfl | exact nT (by assumption) | exact nF (by assumption) | exact bm_con _ _ | exact f1_con _ (by assumption) | exact f1_con _ (bl_rw (by assumption)) | exact bl_len (by assumption) | apply And.intro)
 | false=>
   exact con_d (eb2_vq (bl:=blB) (v:=v) (t:=t) (h0:=h0)) (by repeat' first | exact trivial | assumption | exact rfl | exact nT (by assumption) | exact nF (by assumption) | exact bm_con _ _ | exact f1_con _ (by assumption) | exact f1_con _ (bl_rw (by assumption)) | exact bl_len (by assumption) | apply And.intro)
end Go.Proofs.Ly
set_option maxRecDepth 100000
namespace Go.Proofs.Ly
open Go Go.Sim Go.Proofs Go.Proofs.Cl Go.Proofs.Ytgoppmcfidmgfaa Go.RowKit
def Rg (w:World) (ro:Nat->Nat->Option Value) (k:IntKind) (z:List CV) (g:Int->Bool) (f:Int->List CV) (c b r:Nat) (S:Int->Bool) (cnt:Nat):Prop:=
 ∃es seen,w.heap[b]? =some (.map es c)/\MapOk ro k z g f c es/\w.heap[r]? =some (.mapIter (some b) c seen c)/\(leftOf es seen).size=cnt/\∀e∈es.toList,∀n,e.key=.int k n->seen.contains e.born=S n
section
variable {ro:Nat->Nat->Option Value} {k:IntKind} {z:List CV} {g S:Int->Bool} {f:Int->List CV} {c b r cnt:Nat} {P:Program}
theorem Rg.kept {w w':World} {row:Option Nat} (h:Rg w ro k z g f c b r S cnt) (hg:w.grownBy w' row) (hb':some b≠row) (hr':some r≠row):Rg w' ro k z g f c b r S cnt:=by
 obtain ⟨es,seen,h1,h2,h3,h4,h5⟩:=h
 exact ⟨es,seen,(hg.block b (heap_lt h1) hb').trans h1,h2,(hg.block r (heap_lt h3) hr').trans h3,h4,h5⟩
theorem Rg.left_eq {w:World} (h:Rg w ro k z g f c b r S cnt):w.rangeLeft b r=cnt:=by
 obtain ⟨es,seen,h1,h2,h3,h4,h5⟩:=h
 simp only [World.rangeLeft,h1,h3]
 exact h4
theorem Rg.lt {w:World} (h:Rg w ro k z g f c b r S cnt):r<w.heap.size/\b<w.heap.size/\r≠b:=by
 obtain ⟨es,seen,h1,h2,h3,h4,h5⟩:=h
 refine ⟨heap_lt h3,heap_lt h1,?_⟩
 rintro rfl
 rw [h1] at h3;simp at h3
theorem rg_start {w:World} {es:Array MapEntry} (hb:w.heap[b]? =some (.map es c)) (mo:MapOk ro k z g f c es):Rg (w.alloc (.mapIter (some b) c #[] c)) ro k z g f c b w.heap.size (fun _=>false) es.size:=by
 refine ⟨es,#[],(heap_alloc_old w _ (heap_lt hb)).trans hb,mo,heap_alloc_new w _,?_,fun e he n hn=>by simp⟩
 simp [leftOf]
theorem rg_next {w:World} (ty:TypeId) (h:Rg w ro k z g f c b r S cnt) :
 ((∀n,g n=true->S n=true)/\(Instr.next (.pointer (some ⟨r,0,none⟩)) false ty).run P w=.ok (.tuple #[.bool false]) w)\/
 ∃n vs w' cnt',g n=true/\S n=false/\CRs ro (f n) vs/\(Instr.next (.pointer (some ⟨r,0,none⟩)) false ty).run P w=.ok (.tuple #[.bool true,.int k n,.agg vs.toArray]) w'/\
  Rg w' ro k z g f c b r (mgSet S n) cnt'/\cnt'<cnt/\w.grownBy w' (some r)/\w'.heap.size=w.heap.size/\(Instr.entry (.pointer (some ⟨r,0,none⟩))).run P w'=.ok (.tuple #[.int k n,.agg vs.toArray]) w':=by
 obtain ⟨_,_,hne⟩:=h.lt
 obtain ⟨es,seen,h1,mo,h3,rfl,h5⟩:=h
 rcases run_next_at (P:=P) w ty r b c c seen es c h3 h1 (fun x hx=>(mo.ent x hx).1) (Nat.le_refl _) with ⟨h0,hrun⟩ | ⟨e,he,w1,hal,hrun⟩
 · refine .inl ⟨fun n hn=>?_,hrun⟩
   obtain ⟨e,he,hk⟩:=mo.has n hn
   rw [<-h5 e he n hk]
   exact all_seen es seen h0 e he
 · obtain ⟨hem,hes⟩:=mem_left he
   obtain ⟨_,n,vs,hk,hgn,hv,hcr⟩:=mo.ent e hem
   have hr1:w1.heap[r]? =some (.mapIter (some b) c seen c):=by rcases hal with rfl | rfl<;>exact h3
   have hb1:w1.heap[b]? =some (.map es c):=by rcases hal with rfl | rfl<;>exact h1
   have hset:=MapKept.heap_set (o':=.mapIter (some b) c (seen.push e.born) c) hr1
   have hb':(ChangeMaps.setBlock w1 r (.mapIter (some b) c (seen.push e.born) c)).heap[b]? =some (.map es c):=(hset.2 b (fun e1=>hne e1.symm)).trans hb1
   rw [hk,hv] at hrun
   refine .inr ⟨n,vs.toList,_,_,hgn,by rw [<-h5 e hem n hk];exact hes,hcr,by simpa using hrun,⟨es,seen.push e.born,hb',mo,hset.1,rfl,fun x hx m hm=>?_⟩,left_shrinks es seen e he,?_,?_,?_⟩
   · rw [contains_push,h5 x hx m hm]
     unfold mgSet
     by_cases hmn:m=n
     · subst hmn
       have:x=e:=Go.entry_eq_of_key (by have:=mo.keys;unfold List.Nodup at this;rwa [List.pairwise_map] at this) hx hem (by rw [hm,hk])
       subst this
       simp
     · have:(x.born == e.born)=false:=by
        cases hc:x.born == e.born with
        | false=>rfl
        | true=>
          have:=born_inj mo.borns hx hem (by simpa using hc)
          subst this
          rw [hm] at hk;cases hk;exact absurd rfl hmn
       rw [this];simp [hmn]
   · rcases hal with rfl | rfl<;>exact ⟨rfl,rfl,rfl,by simp [ChangeMaps.setBlock],fun i _ hi=>hset.2 i (fun e1=>hi (by rw [e1]))⟩
   · rcases hal with rfl | rfl<;>simp [ChangeMaps.setBlock]
   · have:=run_entry_at (P:=P) _ r b c seen es c e hset.1 hb' hem mo.borns
     rw [hk,hv] at this
     simpa using this
variable {w:World} {ops:Array Oper} {rest:List Oper} {o:Oper} {a:Act} {Q:Exit->Act->World->Prop}
theorem wpList_range_mp (hg:o.guard=none) (m:Operand) (t kt et:TypeId) (hop:o.op=Op.range t m) (ht:P.underlying t=some (.map kt et)) (hm:a.eval m=.map (some b)) {es:Array MapEntry} (hb:w.heap[b]? =some (.map es c)) (mo:MapOk ro k z g f c es)
 (hK:∀w' r0,(w.heap.size<=r0/\r0<w'.heap.size)->Rg w' ro k z g f c b r0 (fun _=>false) es.size->w.grownBy w' none->w'.heap.size=w.heap.size+1->wpList P ops Q rest (a.put o.dst (.pointer (some ⟨r0,0,none⟩))) w') :
 wpList P ops Q (o :: rest) a w:=by
 refine wpList_plain hg fun K' hK'=>?_
 have hrun:=run_range_map (P:=P) w t kt et b es c ht hb
 unfold Oper.wp
 simp [execOp,hop,hm,hrun,Result.andThen]
 exact hK' _ _ (hK _ _ ⟨Nat.le_refl _,by simp⟩ (rg_start hb mo) (World.grownBy_alloc w _ none) (by simp))
theorem wpList_next_mp (hg:o.guard=none) (it:Operand) (hop:o.op=Op.next it false) (hit:a.eval it=.pointer (some ⟨r,0,none⟩)) (h:Rg w ro k z g f c b r S cnt)
 (hDone:(∀n,g n=true->S n=true)->wpList P ops Q rest (a.put o.dst (.tuple #[.bool false])) w)
 (hMore:∀n vs w' cnt',g n=true->S n=false->CRs ro (f n) vs->Rg w' ro k z g f c b r (mgSet S n) cnt'->cnt'<cnt->w.grownBy w' (some r)->w'.heap.size=w.heap.size->
   (Instr.entry (.pointer (some ⟨r,0,none⟩))).run P w'=.ok (.tuple #[.int k n,.agg vs.toArray]) w'->wpList P ops Q rest (a.put o.dst (.tuple #[.bool true,.int k n,.agg vs.toArray])) w') :
 wpList P ops Q (o :: rest) a w:=by
 refine wpList_plain hg fun K' hK'=>?_
 unfold Oper.wp
 rcases rg_next (P:=P) o.type h with ⟨h0,hrun⟩ | ⟨n,vs,w',cnt',a1,a2,a3,hrun,a5,a6,a7,a8,a9⟩
 · simp [execOp,hop,hit,hrun,Result.andThen]
   exact hK' _ _ (hDone h0)
 · simp [execOp,hop,hit,hrun,Result.andThen]
   exact hK' _ _ (hMore n vs w' cnt' a1 a2 a3 a5 a6 a7 a8 a9)
theorem run_update_mp {t kt et:TypeId} {d:IntKind} {es:Array MapEntry} {n:Int} {vs:List Value} {v:List CV} (ht:P.underlying t=some (.map kt et)) (hku:P.underlying kt=some (.int d)) (hb:w.heap[b]? =some (.map es c)) (mo:MapOk ro k z g f c es) (hn:g n=false) (hv:CRs ro v vs) :
 ∃es',(Instr.mapUpdate t (.map (some b)) (.int k n) (.agg vs.toArray)).run P w=.ok () { w with heap:=w.heap.setIfInBounds b (.map es' (c+1))}/\es'.size=es.size+1/\MapOk ro k z (mgSet g n) (mfSet f n v) (c+1) es':=by
 rcases findNow_ok (d:=d) (n:=n) es.toList 0 mo.int with ⟨e,he,i,h1,h2,h3⟩ | ⟨h1,h2⟩
 · obtain ⟨hg,_⟩:=mo.upd h3 h1 hv
   rw [hn] at hg;simp at hg
 · obtain ⟨_,mo'⟩:=mo.push h1 hv
   refine ⟨_,?_,by simp,mo'⟩
   simp only [Instr.mapUpdate,Sem.run_bind,run_underlying' ht,Result.andThen_ok,run_getMap hb,run_checkKeyI' hku,run_findKeyI hku h2,run_setMap hb]
theorem wpList_update_mp (hg:o.guard=none) (m x v:Operand) (t kt et:TypeId) (hop:o.op=Op.mapUpdate t m x v) {d:IntKind} (ht:P.underlying t=some (.map kt et)) (hku:P.underlying kt=some (.int d)) (hm:a.eval m=.map (some b))
 {es:Array MapEntry} (hb:w.heap[b]? =some (.map es c)) (mo:MapOk ro k z g f c es) {n:Int} {vs:List Value} {v':List CV} (hx:a.eval x=.int k n) (hvv:a.eval v=.agg vs.toArray) (hn:g n=false) (hv:CRs ro v' vs)
 (hK:∀w' es',w'.heap[b]? =some (.map es' (c+1))->es'.size=es.size+1->MapOk ro k z (mgSet g n) (mfSet f n v') (c+1) es'->w.grownBy w' (some b)->w'.heap.size=w.heap.size->wpList P ops Q rest (a.put o.dst undef) w') :
 wpList P ops Q (o :: rest) a w:=by
 refine wpList_plain hg fun K' hK'=>?_
 obtain ⟨es',hrun,hs,mo'⟩:=run_update_mp ht hku hb mo hn hv
 unfold Oper.wp
 simp [execOp,hop,hm,hx,hvv,hrun,Result.andThen]
 have hlt:=heap_lt hb
 refine hK' _ _ (hK _ es' (by simp [Array.getElem?_setIfInBounds,hlt]) hs mo' ⟨rfl,rfl,rfl,by simp,fun i _ hi=>?_⟩ (by simp))
 have:b≠i:=fun e=>hi (by rw [e])
 simp [Array.getElem?_setIfInBounds,this]
end
theorem crs4 {ro:Nat->Nat->Option Value} {v u:Int} {s:List Nat} {y:Bool} {vs:List Value} (h:CRs ro [.i .i64 v,.s s,.b y,.i .i64 u] vs):∃t:ByteArray,t.data.toList.map UInt8.toNat=s/\vs=[.int .i64 v,.string t,.bool y,.int .i64 u]:=by
 cases h with | cons _ _ _ _ a1 h=>
 cases h with | cons _ _ _ _ a2 h=>
 cases h with | cons _ _ _ _ a3 h=>
 cases h with | cons _ _ _ _ a4 h=>
 cases h;cases a1;cases a3;cases a4
 cases a2 with | s _ t e=>exact ⟨t,e,rfl⟩
def f4 (V:Int->Int) (D:Int->List Nat) (Y:Int->Bool) (U:Int->Int) (n:Int):List CV:=[.i .i64 (V n),.s (D n),.b (Y n),.i .i64 (U n)]
def z4:List CV:=[.i .i64 0,.s [],.b false,.i .i64 0]
theorem t56:Try.prog.underlying 56=some (.map 3 60):=by kernel_rfl
theorem t3:Try.prog.underlying 3=some (.int .i64):=by kernel_rfl
def selF (S:Int->Bool) (z:List CV) (f:Int->List CV) (n:Int):List CV:=bif S n then f n else z
theorem selF_set (S:Int->Bool) (z:List CV) (f:Int->List CV) (n:Int):mfSet (selF S z f) n (f n)=selF (mgSet S n) z f:=by
 funext x
 unfold mfSet selF mgSet
 by_cases h:x=n
 · subst h;simp
 · simp [h]
theorem mapOk_nil {ro:Nat->Nat->Option Value} {k:IntKind} {z:List CV} {f:Int->List CV}:MapOk ro k z (fun _=>false) (selF (fun _=>false) z f) 0 #[]:=
 ⟨fun e he=>by simp at he,fun n hn=>by simp at hn,by simp,by simp,fun n _=>rfl⟩
theorem selF_all {S g:Int->Bool} {z:List CV} {f:Int->List CV} (h:∀n,S n=g n) (hz:∀n,g n=false->f n=z):selF S z f=f:=by
 funext x
 unfold selF
 rw [h]
 cases hg:g x with
 | true=>rfl
 | false=>exact (hz x hg).symm
set_option maxHeartbeats 4000000 in
theorem copy_walk (bd bs:Nat) (V:Int->Int) (D:Int->List Nat) (Y:Int->Bool) (U:Int->Int) (g:Int->Bool) (c:Nat) (ro:Nat->Nat->Option Value) (es:Array MapEntry) (w:World) (hd:w.heap[bd]? =some (.map #[] 0)) (hs:w.heap[bs]? =some (.map es c)) (mo:MapOk ro .i64 z4 g (f4 V D Y U) c es) (hne:bd≠bs) :
 Calls Try.prog 41 #[.map (some bd),.map (some bs)] w fun e w'=>e=.returned (.tuple #[])/\(∃es',w'.heap[bd]? =some (.map es' (cntI g))/\MapOk ro .i64 z4 g (f4 V D Y U) (cntI g) es')/\w.grownBy w' (some bd):=by
 have hbd:=heap_lt hd
 have hbs:=heap_lt hs
 go_enter Try.func41,Try.ntmps41
 go_wp2_with (first
  | (at_range;refine wpList_range_mp rfl _ 56 3 60 rfl t56 rfl hs mo ?_;intro w0 r0 hr0 hrg0 hg0 hs0)
  | go_in)
 go_frame
 go_loopw [8] (fun _ wr=>∃(S:Int->Bool) (cnt:Nat) (ed:Array MapEntry),Rg wr ro .i64 z4 g (f4 V D Y U) c bs r0 S cnt/\(∀n,S n=true->g n=true)/\wr.heap[bd]? =some (.map ed ed.size)/\MapOk ro .i64 z4 S (selF S z4 (f4 V D Y U)) ed.size ed/\w.grownBy wr (some bd))
  (fun _ wr=>wr.rangeLeft bs r0)
 case atStart=>
  exact ⟨_,_,#[],hrg0,fun n h=>by simp at h,(hg0.block bd hbd (by simp)).trans hd,mapOk_nil,hg0.but _⟩
 case round=>
  obtain ⟨S,cnt,ed,hrg,hSg,hed,hmd,hgw⟩:=hrel
  go_wp2_with (first
   | (at_next;refine wpList_next_mp rfl _ rfl rfl hrg ?_ ?_)
   | go_in)
  · intro hall
    go_wp2
    go_end0
    have hS:S=g:=by
     funext n
     cases hg:g n with
     | true=>exact hall n hg
     | false=>cases hs:S n with
       | false=>rfl
       | true=>rw [hSg n hs] at hg;simp at hg
    subst hS
    have e:=hmd.count
    rw [selF_all (fun _=>rfl) mo.zer] at hmd
    exact ⟨rfl,⟨ed,by rw [e];exact hed,by rw [e];exact hmd⟩,hgw⟩
  · intro n vs w1 cnt1 hgn hSn hcr hrg1 hlt hg1 hs1 hen
    obtain ⟨s,hse,rfl⟩:=crs4 hcr
    have hlr:=hrg.lt
    have hr0b:bd<r0:=by omega
    have hed1:w1.heap[bd]? =some (.map ed ed.size):=(hg1.block bd (heap_lt hed) (fun e=>by have:=Option.some.inj e;omega)).trans hed
    go_wp2_with (first
     | (at_mapUpdate;refine wpList_update_mp rfl _ _ _ 56 3 60 rfl t56 t3 rfl ((heap_alloc_old _ _ (heap_lt hed1)).trans hed1) hmd rfl rfl hSn hcr ?_;intro w2 es2 hed2 hsz2 hmd2 hg2 hs2;go_frame)
     | go_in)
    go_wp2
    go_roundw
    case rel=>
     refine ⟨mgSet S n,cnt1,es2,?_,?_,by rw [hsz2];exact hed2,by rw [hsz2,<-selF_set];exact hmd2,?_⟩
     · exact (hrg1.kept (World.grownBy_alloc w1 _ none) (by simp) (by simp)).kept hg2 (fun e=>hne (Option.some.inj e).symm) (fun e=>by have:=Option.some.inj e;omega)
     · intro x hx
       unfold mgSet at hx
       by_cases hxn:x=n
       · subst hxn;exact hgn
       · simp [hxn] at hx;exact hSg x hx
     · exact ((hgw.andThen hg1 (fun j hj=>.inl (by cases hj;exact hr0.1))).andThen (World.grownBy_alloc w1 _ none) (fun j hj=>by simp at hj)).andThen hg2 (fun j hj=>.inr hj)
    case measure=>rw [((hrg1.kept (World.grownBy_alloc w1 _ none) (by simp) (by simp)).kept hg2 (fun e=>hne (Option.some.inj e).symm) (fun e=>by have:=Option.some.inj e;omega)).left_eq,hrg.left_eq];exact hlt
set_option maxHeartbeats 2000000 in
theorem copy_nil (pd:Option Nat) (w:World):Calls Try.prog 41 #[.map pd,.map none] w fun e w'=>e=.returned (.tuple #[])/\w'=w.alloc (.mapIter none 0 #[] 0):=by
 have hrg:=run_range_nilMap (P:=Try.prog) w 56 _ _ t56
 have hnx:∀ty,(Instr.next (.pointer (some ⟨w.heap.size,0,none⟩)) false ty).run Try.prog (w.alloc (.mapIter none 0 #[] 0))= _:=fun ty=>run_next_nilMap _ ty 0 0 #[]
 go_enter Try.func41,Try.ntmps41
 go_wp2
 refine wp_loop_rounds 1 ?_
 rw [rounds_succ]
 go_wp2
 go_end0
 exact ⟨rfl,rfl⟩
theorem hr_turned {ρ:Rho} {H:AH} {w w':World} {A B N:Nat} {o o':AObj} (h:HR ρ H w) (hA:H.get A=some o) (hx:ρ A=some (B,0,N)) (hb:BR ρ o' (B,0,N) w') (hg:w.grownBy w' (some B)):HR ρ (H.upd A (some o')) w'/\Ext ρ H w ρ (H.upd A (some o')) w':=by
 have hlt:=h.range _ _ hx
 have blk:∀C,C<w.heap.size->C≠B->w'.heap[C]? =w.heap[C]?:=fun C hC hne=>hg.block C hC (fun e=>hne (Option.some.inj e))
 have get:∀C q,(H.upd A (some o')).get C=some q->(C=A/\q=o')\/(C≠A/\H.get C=some q):=fun C q hq=>by
  rw [AH.get_upd] at hq
  split at hq
  · rename_i e;simp at hq;exact .inl ⟨e,hq.symm⟩
  · rename_i e;exact .inr ⟨e,hq⟩
 have old:∀C q,(H.upd A (some o')).get C=some q->∃q',H.get C=some q':=fun C q hq=>by
  rcases get C q hq with ⟨rfl,_⟩ | ⟨_,h2⟩
  · exact ⟨o,hA⟩
  · exact ⟨q,h2⟩
 refine ⟨⟨?_,?_,fun C x hC=>Nat.lt_of_lt_of_le (h.range C x hC) hg.size,?_,?_⟩,⟨Nat.le_refl _,.refl _,fun _ _ q=>.inl q,hg.size,?_,?_,fun _ _ _ q=>.inl q,hg.tape,hg.os,hg.output⟩⟩
 · intro C q hC
   rcases get C q hC with ⟨rfl,rfl⟩ | ⟨hne,h2⟩
   · exact .inl ⟨_,hx,hb⟩
   · rcases h.live C q h2 with ⟨x,hx1,b1⟩ | hv
     · exact .inl ⟨x,hx1,b1.congr (blk _ (h.range _ _ hx1) fun e=>hne (h.inj _ _ _ _ _ _ h2 hA hx1 hx e))⟩
     · exact .inr hv
 · intro A1 A2 o1 o2 x1 x2 h1 h2 r1 r2 he
   obtain ⟨q1,g1⟩:=old _ _ h1
   obtain ⟨q2,g2⟩:=old _ _ h2
   exact h.inj _ _ _ _ _ _ g1 g2 r1 r2 he
 · intro C j v hv
   obtain ⟨cc,e,fr,h1,h2⟩:=h.ro C j v hv
   exact ⟨cc,e,fr,(blk C (h.rolt hv) (fun e=>h.rox C j v hv A o _ hA hx e.symm)).trans h1,h2⟩
 · intro C j v hv A1 o1 x1 h1 r1
   obtain ⟨q1,g1⟩:=old _ _ h1
   exact h.rox C j v hv A1 q1 x1 g1 r1
 · intro C hC hn
   exact blk C hC (fun e=>hn A o _ hA hx e.symm)
 · intro A1 o1 x1 h1 r1
   obtain ⟨q1,g1⟩:=old _ _ h1
   exact .inr ⟨A1,q1,x1,g1,r1,rfl⟩
theorem hr_cong {ρ:Rho} {H H':AH} {w:World} (h:HR ρ H w) (e:∀A,H'.get A=H.get A):HR ρ H' w:=
 ⟨fun A o q=>h.live A o (by rw [<-e];exact q),fun A A' o o' x x' q q'=>h.inj A A' o o' x x' (by rw [<-e];exact q) (by rw [<-e];exact q'),h.range,h.ro,fun B j v q A o x q'=>h.rox B j v q A o x (by rw [<-e];exact q')⟩
theorem ext_cong {ρ ρ':Rho} {H H' H2:AH} {w w':World} (h:Ext ρ H w ρ' H' w') (e:∀A,H2.get A=H'.get A) (n:H2.next=H'.next):Ext ρ H w ρ' H2 w':=
 ⟨by rw [n];exact h.next,h.ext,fun A x q=>by rw [n];exact h.dom A x q,h.size,h.frame,fun A o x q=>h.img A o x (by rw [<-e];exact q),h.roimg,h.tape,h.os,h.output⟩
theorem copy_con (b:Bool) (g:Int->Bool) (V:Int->Int) (D:Int->List Nat) (Y:Int->Bool) (U:Int->Int) (c:Nat) :
 Con Try.prog 41 [.mq true 0,.mq b 1] [some (.map [] 0),some (.mp b .i64 z4 g (f4 V D Y U) c)] (.tup []) [.set (.mp true .i64 z4 g (f4 V D Y U) (cntI g)),.keep]:=by
 intro ρ w args' ha hr hno
 obtain ⟨d,s,rfl,hd,hs⟩:=ha.two
 have A0:(mkH [some (.map [] 0),some (.mp b .i64 z4 g (f4 V D Y U) c)]).get 0=some (.map [] 0):=by rw [mkH_get];rfl
 have A1:(mkH [some (.map [] 0),some (.mp b .i64 z4 g (f4 V D Y U) c)]).get 1=some (.mp b .i64 z4 g (f4 V D Y U) c):=by rw [mkH_get];rfl
 cases hd with | mq1 _ B N hB=>
 obtain ⟨es',h1,h2,_⟩:=hr.mapRow A0 hB
 have h0:es'=#[]:=by
  apply Array.eq_empty_of_size_eq_zero;rw [<-h2];rfl
 subst h0
 have fin:∀w':World,(∃e2,w'.heap[B]? =some (.map e2 (cntI g))/\MapOk ρ.ro .i64 z4 g (f4 V D Y U) (cntI g) e2)->w.grownBy w' (some B)->
  ∃v' ρ',Ending.returned (.tuple #[])=.returned v'/\VR ρ' (.tup []) v'/\HR ρ' (mkH (postL [some (.map [] 0),some (.mp b .i64 z4 g (f4 V D Y U) c)] [.set (.mp true .i64 z4 g (f4 V D Y U) (cntI g)),.keep])) w'/\
   Ext ρ (mkH [some (.map [] 0),some (.mp b .i64 z4 g (f4 V D Y U) c)]) w ρ' (mkH (postL [some (.map [] 0),some (.mp b .i64 z4 g (f4 V D Y U) c)] [.set (.mp true .i64 z4 g (f4 V D Y U) (cntI g)),.keep])) w':=by
  rintro w' ⟨e2,q1,q2⟩ hg
  obtain ⟨g1,g2⟩:=hr_turned hr A0 hB (o':=.mp true .i64 z4 g (f4 V D Y U) (cntI g)) ⟨rfl,rfl,e2,q1,q2⟩ hg
  have e:∀A,(mkH (postL [some (.map [] 0),some (.mp b .i64 z4 g (f4 V D Y U) c)] [.set (.mp true .i64 z4 g (f4 V D Y U) (cntI g)),.keep])).get A=((mkH [some (.map [] 0),some (.mp b .i64 z4 g (f4 V D Y U) c)]).upd 0 (some (.mp true .i64 z4 g (f4 V D Y U) (cntI g)))).get A:=by
   intro A
   rw [AH.get_upd,mkH_get,mkH_get]
   match A with
   | 0=>rfl
   | 1=>rfl
   | A+2=>rfl
  exact ⟨_,ρ,rfl,.tup _ _ .nil,hr_cong g1 e,ext_cong g2 e rfl⟩
 cases hs with
 | mq1 _ B2 N2 hB2=>
   obtain ⟨_,es,k1,k2⟩:=hr.mpRow A1 hB2
   have hne:B≠B2:=fun e=>by
    have:=hr.inj 0 1 _ _ _ _ A0 A1 hB hB2 e
    omega
   refine (copy_walk B B2 V D Y U g c ρ.ro es w h1 k1 k2 hne).mono ?_
   rintro e w' ⟨rfl,h3,h4⟩
   exact fin w' h3 h4
 | mq0=>
   have hg:=hr.mpNil A1
   refine (copy_nil (some B) w).mono ?_
   rintro e w' ⟨rfl,rfl⟩
   have hc:cntI g=0:=cntI_eq (l:=[]) (by simp) (fun n=>by simp [(hg n).1])
   refine fin _ ⟨#[],by rw [hc];exact (heap_alloc_old _ _ (heap_lt h1)).trans h1,?_⟩ (World.grownBy_alloc w _ _)
   rw [hc]
   exact ⟨fun e he=>by simp at he,fun n hn=>by rw [(hg n).1] at hn;simp at hn,by simp,by simp,fun n _=>(hg n).2⟩
def l2 {α:Type} (a b:Nat->α) (n:Nat):List α:=(List.range n).flatMap fun k=>[a k,b k]
theorem l2_succ {α:Type} (a b:Nat->α) (n:Nat):l2 a b (n+1)=l2 a b n ++ [a n,b n]:=by unfold l2;rw [List.range_succ,List.flatMap_append];simp
theorem l2_len {α:Type} (a b:Nat->α):∀n,(l2 a b n).length=2*n
 | 0=>rfl
 | n+1=>by rw [l2_succ,List.length_append,l2_len a b n];simp;omega
theorem l2_0 {α:Type} (a b:Nat->α):∀n k,k<n->(l2 a b n)[2*k]? =some (a k)
 | 0,k,h=>by omega
 | n+1,k,h=>by
   rw [l2_succ,List.getElem?_append]
   by_cases hk:k<n
   · rw [if_pos (by rw [l2_len];omega)];exact l2_0 a b n k hk
   · obtain rfl:k=n:=by omega
     rw [if_neg (by rw [l2_len];omega),l2_len];simp
theorem l2_1 {α:Type} (a b:Nat->α):∀n k,k<n->(l2 a b n)[2*k+1]? =some (b k)
 | 0,k,h=>by omega
 | n+1,k,h=>by
   rw [l2_succ,List.getElem?_append]
   by_cases hk:k<n
   · rw [if_pos (by rw [l2_len];omega)];exact l2_1 a b n k hk
   · obtain rfl:k=n:=by omega
     rw [if_neg (by rw [l2_len];omega),l2_len];simp
theorem l2_get {α:Type} (a b:Nat->α) (n j:Nat) (h:j<2*n):(l2 a b n)[j]? =some (if j % 2=0 then a (j / 2) else b (j / 2)):=by
 by_cases h2:j % 2=0
 · have:j=2*(j / 2):=by omega
   rw [if_pos h2];conv=>lhs;rw [this]
   exact l2_0 a b n (j / 2) (by omega)
 · have:j=2*(j / 2)+1:=by omega
   rw [if_neg h2];conv=>lhs;rw [this]
   exact l2_1 a b n (j / 2) (by omega)
def updF {α:Type} (a:Nat->α) (k:Nat) (v:α) (j:Nat):α:=if j=k then v else a j
theorem l2_set0 {α:Type} (a b:Nat->α) (n k:Nat) (v:α) (h:k<n):(l2 a b n).set (2*k) v=l2 (updF a k v) b n:=by
 apply List.ext_getElem?
 intro j
 rw [List.getElem?_set]
 by_cases hj:j<2*n
 · rw [l2_get _ _ n j hj,l2_get _ _ n j hj]
   by_cases e:2*k=j
   · subst e
     rw [if_pos rfl,if_pos (by rw [l2_len];omega)]
     simp [updF]
   · rw [if_neg e]
     by_cases h2:j % 2=0
     · have:j / 2≠k:=by omega
       simp [h2,updF,this]
     · simp [h2]
 · rw [List.getElem?_eq_none (by rw [l2_len];omega),if_neg (by omega),List.getElem?_eq_none (by rw [l2_len];omega)]
theorem l2_set1 {α:Type} (a b:Nat->α) (n k:Nat) (v:α) (h:k<n):(l2 a b n).set (2*k+1) v=l2 a (updF b k v) n:=by
 apply List.ext_getElem?
 intro j
 rw [List.getElem?_set]
 by_cases hj:j<2*n
 · rw [l2_get _ _ n j hj,l2_get _ _ n j hj]
   by_cases e:2*k+1=j
   · subst e
     rw [if_pos rfl,if_pos (by rw [l2_len];omega)]
     have h1:(2*k+1) % 2=1:=by omega
     have h2:(2*k+1) / 2=k:=by omega
     simp [h1,h2,updF]
   · rw [if_neg e]
     by_cases h2:j % 2=0
     · simp [h2]
     · have:j / 2≠k:=by omega
       simp [h2,updF,this]
 · rw [List.getElem?_eq_none (by rw [l2_len];omega),if_neg (by omega),List.getElem?_eq_none (by rw [l2_len];omega)]
def l1 {α:Type} (a:Nat->α) (n:Nat):List α:=(List.range n).map a
theorem l1_len {α:Type} (a:Nat->α) (n:Nat):(l1 a n).length=n:=by unfold l1;simp
theorem l1_get {α:Type} (a:Nat->α) (n k:Nat) (h:k<n):(l1 a n)[k]? =some (a k):=by
 unfold l1;rw [List.getElem?_map,List.getElem?_range h];rfl
theorem l1_set {α:Type} (a:Nat->α) (n k:Nat) (v:α) (h:k<n):(l1 a n).set k v=l1 (updF a k v) n:=by
 apply List.ext_getElem?
 intro j
 rw [List.getElem?_set]
 by_cases hj:j<n
 · rw [l1_get _ n j hj,l1_get _ n j hj]
   by_cases e:k=j
   · subst e;rw [if_pos rfl,if_pos (by rw [l1_len];omega)];simp [updF]
   · rw [if_neg e];simp [updF,Ne.symm e]
 · rw [List.getElem?_eq_none (by rw [l1_len];omega),if_neg (by omega),List.getElem?_eq_none (by rw [l1_len];omega)]
theorem VRs.flat {ρ:Rho} {a b:Nat->AV} {a' b':Nat->Value}:∀n,(∀k,k<n->VR ρ (a k) (a' k)/\VR ρ (b k) (b' k))->VRs ρ (l2 a b n) (l2 a' b' n)
 | 0,_=>.nil
 | n+1,h=>by
   rw [l2_succ,l2_succ]
   exact (VRs.flat n fun k hk=>h k (by omega)).append (.cons _ _ _ _ (h n (by omega)).1 (.cons _ _ _ _ (h n (by omega)).2 .nil))
theorem l1_succ {α:Type} (a:Nat->α) (n:Nat):l1 a (n+1)=l1 a n ++ [a n]:=by unfold l1;rw [List.range_succ,List.map_append];rfl
theorem VRs.line {ρ:Rho} {a:Nat->AV} {a':Nat->Value}:∀n,(∀k,k<n->VR ρ (a k) (a' k))->VRs ρ (l1 a n) (l1 a' n)
 | 0,_=>.nil
 | n+1,h=>by
   rw [l1_succ,l1_succ]
   exact (VRs.line n fun k hk=>h k (by omega)).append (.cons _ _ _ _ (h n (by omega)) .nil)
theorem zc26:Try.zeroCells26=(l2 (fun _=>Value.int .i64 0) (fun _=>Value.string ⟨#[]⟩) 128).toArray:=by kernel_rfl
theorem zc27:Try.zeroCells27=(l1 (fun _=>Value.bool false) 128).toArray:=by kernel_rfl
theorem set_heap {w:World} {b i:Nat} {cs:Array Value} {e:TypeId} {v:Value} (h:w.heap[b]? =some (.cells cs e (0,0))):(w.setCell ⟨b,i,none⟩ v).heap[b]? =some (.cells (cs.setIfInBounds i v) e (0,0)):=by
 have hlt:=lt_of_block h
 have h':w.heap[b]=.cells cs e (0,0):=by simpa [Array.getElem?_eq_getElem hlt] using h
 show (w.heap.modify b _)[b]? = _
 rw [Array.getElem?_eq_getElem (by simpa using hlt),Array.getElem_modify_self,h']
 rfl
theorem free_heap {w:World} {b i:Nat} {cs:Array Value} {e:TypeId} (h:w.heap[b]? =some (.cells cs e (0,0))):w.frozen? ⟨b,i,none⟩=false:=by simp [World.frozen?,h]
theorem cell_heap {w:World} {b i:Nat} {cs:Array Value} {e:TypeId} {v:Value} (h:w.heap[b]? =some (.cells cs e (0,0))) (hv:cs[i]? =some v):w.cell? ⟨b,i,none⟩=some v:=by simp [World.cell?,h,hv]
theorem set_grown (w:World) (b i:Nat) (v:Value):w.grownBy (w.setCell ⟨b,i,none⟩ v) (some b):=
 ⟨rfl,rfl,rfl,by simp [World.setCell],fun j hj hne=>Below.heap_setCell _ _ _ _ (fun e=>hne (by rw [e]))⟩
end Go.Proofs.Ly
namespace Go.Proofs.Ly
open Go Go.Sim
noncomputable def regsOf:Code->List Code
 | .region a b d=>[.region a b d]
 | .seq a b=>regsOf a ++ regsOf b
 | .cond _ a b=>regsOf a ++ regsOf b
 | .block _ c=>regsOf c
 | .loop c=>regsOf c
 | _=>[]
noncomputable def regAt (P:Program) (g k:Nat):Code:=
 match P.funcs[g]? with
 | some fn=>match fn.body with
   | some c=>((regsOf c)[k]?).getD .skip
   | none=>.skip
 | none=>.skip
end Go.Proofs.Ly
