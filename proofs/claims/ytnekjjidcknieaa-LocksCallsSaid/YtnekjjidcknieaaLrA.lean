/- Runs over unknown values, told by the kernel: part LrA. -/
import Derived.Test.YtnekjjidcknieaaLbA
set_option linter.unusedSimpArgs false
set_option linter.unusedVariables false
set_option maxRecDepth 20000
namespace Go.Proofs.Lk
open Go Go.Sim Go.Proofs
theorem inF_vc (n i : Nat) (A M W : Nat → Int) (k : Int) (h1 : decide (Int.ofNat i < Int.ofNat n) = true) (h2 : decide (A (Int.toNat (Int.ofNat i)) = k) = true) (K : Res → Orc → Prop) : runK Try.prog 1000000 (.code (loopAt Try.prog 38 0) 20 (mkT [(0, svN n A M W), (1, .i .i64 k), (5, .i .i64 (Int.ofNat i))]) (mkH [])) (Orc.t (Orc.t Orc.z)) K = (decide (Int.ofNat i < Int.ofNat n) = true ∧ (0 ≤ Int.ofNat i ∧ Int.ofNat i < ↑n) ∧ True ∧ True ∧ decide (A i = k) = true ∧ K (Res.st XO.ret (z1 (AV.sv 3 n (qF A M W)) (z1 (AV.i .i64 k) (z0 (z1 (AV.sv 3 n (qF A M W)) (zl (AV.pv 3 fun j => qF A M W i (0 + j))) T.e) (z0 (zl (AV.i .i64 (Int.ofNat i))) T.e)) (z1 (AV.i .i64 (Int.ofNat i)) (z1 (AV.b (decide (Int.ofNat i < Int.ofNat n))) (zl (AV.i .i64 k)) T.e) (zl (AV.i .i64 (Int.ofNat i))))) (z0 (z1 (AV.i .i64 (Int.ofNat i)) (z1 (AV.i .i64 (Int.ofNat n)) (zl (AV.i .i64 (A i))) T.e) (zl (AV.sv 3 n (qF A
  M W)))) (z1 (AV.i .i64 (Int.ofNat i)) (z0 (zl (AV.b (decide (A i = k)))) T.e) (zl (AV.pv 3 (qF A M W i)))))) ⟨T.e, 0, []⟩) Orc.z) := by kernel_rfl
theorem inG_vc (n i : Nat) (A M W : Nat → Int) (k : Int) (h1 : decide (Int.ofNat i < Int.ofNat n) = true) (h2 : decide (A (Int.toNat (Int.ofNat i)) = k) = false) (K : Res → Orc → Prop) : runK Try.prog 1000000 (.code (loopAt Try.prog 38 0) 20 (mkT [(0, svN n A M W), (1, .i .i64 k), (5, .i .i64 (Int.ofNat i))]) (mkH [])) (Orc.t (Orc.f Orc.z)) K = (decide (Int.ofNat i < Int.ofNat n) = true ∧ (0 ≤ Int.ofNat i ∧ Int.ofNat i < ↑n) ∧ True ∧ True ∧ decide (A i = k) = false ∧ ((-9223372036854775808) ≤ Int.ofNat i + 1 ∧ Int.ofNat i + (1 : Int) ≤ (9223372036854775807 : Int)) ∧ K (Res.st XO.nrm (z1 (AV.sv 3 n (qF A M W)) (z1 (AV.i .i64 k) (z0 (z1 (AV.sv 3 n (qF A M W)) (zl (AV.pv 3 fun j => qF A M W i (0 + j))) T.e) (zl (AV.i .i64 (Int.ofNat i + 1)))) (z1 (AV.i .i64 (Int.ofNat i + 1)) (z1 (AV.b (decide (Int.ofNat i < Int.ofNat n))) (zl (AV.i .i64 k)) T.e) (zl (AV.i .i64 (Int.ofNat i))))) (z0 (z0 (z1
  (AV.i .i64 (Int.ofNat n)) (zl (AV.i .i64 (A i))) T.e) (zl (AV.sv 3 n (qF A M W)))) (z1 (AV.i .i64 (Int.ofNat i)) (z1 (AV.i .i64 (Int.ofNat i)) (zl (AV.b (decide (A i = k)))) T.e) (zl (AV.pv 3 (qF A M W i)))))) ⟨T.e, 0, []⟩) Orc.z) := by kernel_rfl
theorem inE_vc (n i : Nat) (A M W : Nat → Int) (k : Int) (h1 : decide (Int.ofNat i < Int.ofNat n) = false) (K : Res → Orc → Prop) : runK Try.prog 1000000 (.code (loopAt Try.prog 38 0) 20 (mkT [(0, svN n A M W), (1, .i .i64 k), (5, .i .i64 (Int.ofNat i))]) (mkH [])) (Orc.f Orc.z) K = (decide (Int.ofNat i < Int.ofNat n) = false ∧ K (Res.st (XO.exit 0) (z1 (AV.sv 3 n (qF A M W)) (z1 (AV.i .i64 k) (z0 (zl (AV.sv 3 n (qF A M W))) T.e) (z1 (AV.i .i64 (Int.ofNat i)) (zl (AV.b (decide (Int.ofNat i < Int.ofNat n)))) T.e)) (z0 (z0 (zl (AV.i .i64 (Int.ofNat n))) T.e) (zl (AV.i .i64 (Int.ofNat i))))) ⟨T.e, 0, []⟩) Orc.z) := by kernel_rfl
theorem in1_vc (jq : Nat) (n : Nat) (A M W : Nat → Int) (k : Int) (V : AV) : runK Try.prog 1000000 (.call 38 [svN n A M W, .i .i64 k] (mkH [])) (Orc.lop [] [0, 1, 5] 0 XO.ret [(4, AV.i .i64 (Int.ofNat jq))] [] Orc.z) (fun r _ => rvIs V r) = (LDoes Try.prog (loopAt Try.prog 38 0) 20 0 (mkT [(0, svN n A M W), (1, AV.i .i64 k), (5, AV.i .i64 0)]) [] XO.ret (mkT [(4, AV.i .i64 (Int.ofNat jq))]) [] ∧ (AV.i .i64 (Int.ofNat jq)) = V) := by kernel_rfl
theorem in2_vc (n : Nat) (A M W : Nat → Int) (k : Int) (V : AV) : runK Try.prog 1000000 (.call 38 [svN n A M W, .i .i64 k] (mkH [])) (Orc.lop [] [0, 1, 5] 0 (XO.exit 0) [] [] Orc.z) (fun r _ => rvIs V r) = (LDoes Try.prog (loopAt Try.prog 38 0) 20 0 (mkT [(0, svN n A M W), (1, AV.i .i64 k), (5, AV.i .i64 0)]) [] (XO.exit 0) (mkT []) [] ∧ (AV.i .i64 (-1)) = V) := by kernel_rfl
theorem caA_vc (t : TS) (l j : Nat) (s m : Int) (h1 : decide (Int.ofNat j < 3) = true) (h2 : (!decide (Int.ofNat j = s)) = false) (K : Res → Orc → Prop) : runK Try.prog 1000000 (.code (loopAt Try.prog 40 0) 28 (mkT [(1, .i .i64 (Int.ofNat l)), (2, .i .i64 s), (3, .i .i64 m), (4, .p 0 0), (9, .i .i64 (Int.ofNat j))]) (mkH [some (tsF t)])) (Orc.t (Orc.f (Orc.f (Orc.f (Orc.f (Orc.f (Orc.f (Orc.f (Orc.f (Orc.f (Orc.f (Orc.c Orc.z)))))))))))) K = (decide (Int.ofNat j < 3) = true ∧ (!decide (Int.ofNat j = s)) = false ∧ (!decide (Int.ofNat j = s)) = false ∧ (!decide (Int.ofNat j = s)) = false ∧ (!decide (Int.ofNat j = s)) = false ∧ (!decide (Int.ofNat j = s)) = false ∧ (!decide (Int.ofNat j = s)) = false ∧ (!decide (Int.ofNat j = s)) = false ∧ (!decide (Int.ofNat j = s)) = false ∧ (!decide (Int.ofNat j = s)) = false ∧ (!decide (Int.ofNat j = s)) = false ∧ ((-9223372036854775808) ≤ Int.ofNat j +
  1 ∧ Int.ofNat j + (1 : Int) ≤ (9223372036854775807 : Int)) ∧ K (Res.st XO.nrm (z0 (z1 (AV.i .i64 (Int.ofNat l)) (z1 (AV.i .i64 m) (z0 (zl (AV.i .i64 s)) (zl (AV.tup []))) (z1 (AV.b (decide (Int.ofNat j < 3))) (zl (AV.tup [])) (zl (AV.b false)))) (z0 (z1 (AV.i .i64 (Int.ofNat j + 1)) (zl (AV.b !decide (Int.ofNat j = s))) (zl (AV.tup []))) (z1 (AV.i .i64 (Int.ofNat j + 1)) (zl (AV.tup [])) T.e))) (z1 (AV.i .i64 s) (z1 (AV.p 0 0) (z0 (zl (AV.b !decide (Int.ofNat j = s))) (zl (AV.tup []))) (z1 (AV.i .i64 (Int.ofNat j)) (zl (AV.tup [])) T.e)) (z0 (z1 (AV.i .i64 (Int.ofNat j)) (zl (AV.tup [])) (zl (AV.tup []))) (z1 (AV.i .i64 (Int.ofNat j)) (zl (AV.tup [])) T.e)))) ⟨zl (tsF t), 1, []⟩) Orc.z) := by kernel_rfl
theorem caB_vc (t : TS) (gs : Int → Int → Bool) (l j : Nat) (s m : Int) (h1 : decide (Int.ofNat j < 3) = true) (h2 : (!decide (Int.ofNat j = s)) = true) (K : Res → Orc → Prop) : runK Try.prog 1000000 (.code (loopAt Try.prog 40 0) 28 (mkT [(1, .i .i64 (Int.ofNat l)), (2, .i .i64 s), (3, .i .i64 m), (4, .p 0 0), (9, .i .i64 (Int.ofNat j))]) (mkH [some (tsF t)])) (Orc.t (Orc.t (Orc.t (Orc.t (Orc.t (Orc.s (Orc.t (Orc.s (Orc.t (Orc.t (Orc.t (Orc.cal [] (AV.b (gs (TS.h t ((l * 3 + j) / 3) ((l * 3 + j) % 3)) m)) [] (Orc.t (Orc.t (Orc.s Orc.z Orc.z))))))) Orc.z)) Orc.z)))))) K = (decide (Int.ofNat j < 3) = true ∧ (!decide (Int.ofNat j = s)) = true ∧ (!decide (Int.ofNat j = s)) = true ∧ (!decide (Int.ofNat j = s)) = true ∧ True ∧ (!decide (Int.ofNat j = s)) = true ∧ (0 ≤ Int.ofNat l ∧ Int.ofNat l < 19) ∧ (!decide (Int.ofNat j = s)) = true ∧ (0 ≤ Int.ofNat j ∧ Int.ofNat j < 3) ∧ (!decide
  (Int.ofNat j = s)) = true ∧ l * 3 + j < 57 ∧ (!decide (Int.ofNat j = s)) = true ∧ (!decide (Int.ofNat j = s)) = true ∧ Con Try.prog 25 [AV.i .i64 (TS.h t ((l * 3 + j) / 3) ((l * 3 + j) % 3)), AV.i .i64 m] [] (AV.b (gs (TS.h t ((l * 3 + j) / 3) ((l * 3 + j) % 3)) m)) [] ∧ (!decide (Int.ofNat j = s)) = true ∧ True ∧ (!decide (Int.ofNat j = s)) = true ∧ ((!gs (TS.h t ((l * 3 + j) / 3) ((l * 3 + j) % 3)) m) = true → K (Res.st XO.ret (z0 (z1 (AV.i .i64 (Int.ofNat l)) (z1 (AV.i .i64 m) (z0 (zl (AV.i .i64 s)) (zl (AV.i .i64 (TS.h t ((l * 3 + j) / 3) ((l * 3 + j) % 3))))) (z1 (AV.b (decide (Int.ofNat j < 3))) (zl (AV.i .i64 (Int.ofNat j))) (zl (AV.b !gs (TS.h t ((l * 3 + j) / 3) ((l * 3 + j) % 3)) m)))) (z0 (z1 (AV.i .i64 (Int.ofNat j)) (zl (AV.b !decide (Int.ofNat j = s))) (zl (AV.b (gs (TS.h t ((l * 3 + j) / 3) ((l * 3 + j) % 3)) m)))) (z0 (zl (AV.ps 0 44 3 19 l)) T.e))) (z1 (AV.i .i64 s) (z1
  (AV.p 0 0) (z1 (AV.b false) (zl (AV.b !decide (Int.ofNat j = s))) (zl (AV.i .i64 m))) (z0 (zl (AV.p 0 44)) T.e)) (z0 (z1 (AV.i .i64 (Int.ofNat j)) (zl (AV.i .i64 (Int.ofNat l))) (zl (AV.b !gs (TS.h t ((l * 3 + j) / 3) ((l * 3 + j) % 3)) m))) (z1 (AV.i .i64 (Int.ofNat j)) (zl (AV.ps 0 44 1 57 (l * 3 + j))) T.e)))) ⟨zl (tsF t), 1, []⟩) Orc.z) ∧ ((!gs (TS.h t ((l * 3 + j) / 3) ((l * 3 + j) % 3)) m) = false → ((-9223372036854775808) ≤ Int.ofNat j + 1 ∧ Int.ofNat j + (1 : Int) ≤ (9223372036854775807 : Int)) ∧ K (Res.st XO.nrm (z0 (z1 (AV.i .i64 (Int.ofNat l)) (z1 (AV.i .i64 m) (z0 (zl (AV.i .i64 s)) (zl (AV.i .i64 (TS.h t ((l * 3 + j) / 3) ((l * 3 + j) % 3))))) (z1 (AV.b (decide (Int.ofNat j < 3))) (zl (AV.i .i64 (Int.ofNat j))) (zl (AV.b !gs (TS.h t ((l * 3 + j) / 3) ((l * 3 + j) % 3)) m)))) (z0 (z1 (AV.i .i64 (Int.ofNat j + 1)) (zl (AV.b !decide (Int.ofNat j = s))) (zl (AV.b (gs (TS.h t
  ((l * 3 + j) / 3) ((l * 3 + j) % 3)) m)))) (z1 (AV.i .i64 (Int.ofNat j + 1)) (zl (AV.ps 0 44 3 19 l)) T.e))) (z1 (AV.i .i64 s) (z1 (AV.p 0 0) (z0 (zl (AV.b !decide (Int.ofNat j = s))) (zl (AV.i .i64 m))) (z1 (AV.i .i64 (Int.ofNat j)) (zl (AV.p 0 44)) T.e)) (z0 (z1 (AV.i .i64 (Int.ofNat j)) (zl (AV.i .i64 (Int.ofNat l))) (zl (AV.b !gs (TS.h t ((l * 3 + j) / 3) ((l * 3 + j) % 3)) m))) (z1 (AV.i .i64 (Int.ofNat j)) (zl (AV.ps 0 44 1 57 (l * 3 + j))) T.e)))) ⟨zl (tsF t), 1, []⟩) Orc.z)) := by kernel_rfl
theorem caE_vc (t : TS) (l : Nat) (s m : Int) (K : Res → Orc → Prop) : runK Try.prog 1000000 (.code (loopAt Try.prog 40 0) 28 (mkT [(1, .i .i64 (Int.ofNat l)), (2, .i .i64 s), (3, .i .i64 m), (4, .p 0 0), (9, .i .i64 3)]) (mkH [some (tsF t)])) (Orc.c Orc.z) K = (K (Res.st (XO.exit 0) (z0 (z1 (AV.i .i64 (Int.ofNat l)) (z1 (AV.i .i64 m) T.e (zl (AV.b false))) (z0 (zl (AV.i .i64 3)) T.e)) (z1 (AV.i .i64 s) (zl (AV.p 0 0)) (z0 (zl (AV.i .i64 3)) T.e))) ⟨zl (tsF t), 1, []⟩) Orc.z) := by kernel_rfl
theorem ca1_vc (t : TS) (l : Nat) (s m : Int) (V : AV) : runK Try.prog 1000000 (.call 40 [tsV t, .i .i64 (Int.ofNat l), .i .i64 s, .i .i64 m] (mkH [])) (Orc.c (Orc.lop [0] [1, 2, 3, 4, 9] 1 XO.ret [(8, AV.b false)] [some (tsF t)] Orc.z)) (fun r _ => rvIs V r) = (LDoes Try.prog (loopAt Try.prog 40 0) 28 1 (mkT [(1, AV.i .i64 (Int.ofNat l)), (2, AV.i .i64 s), (3, AV.i .i64 m), (4, AV.p 0 0), (9, AV.i .i64 0)]) [some (tsO t)] XO.ret (mkT [(8, AV.b false)]) [some (tsF t)] ∧ (AV.b false) = V) := by kernel_rfl
theorem ca2_vc (t : TS) (l : Nat) (s m : Int) (V : AV) : runK Try.prog 1000000 (.call 40 [tsV t, .i .i64 (Int.ofNat l), .i .i64 s, .i .i64 m] (mkH [])) (Orc.c (Orc.lop [0] [1, 2, 3, 4, 9] 1 (XO.exit 0) [] [some (tsF t)] Orc.z)) (fun r _ => rvIs V r) = (LDoes Try.prog (loopAt Try.prog 40 0) 28 1 (mkT [(1, AV.i .i64 (Int.ofNat l)), (2, AV.i .i64 s), (3, AV.i .i64 m), (4, AV.p 0 0), (9, AV.i .i64 0)]) [some (tsO t)] (XO.exit 0) (mkT []) [some (tsF t)] ∧ (AV.b true) = V) := by kernel_rfl
def inI (n : Nat) (A : Nat → Int) (k : Int) : Int := if fi n A k < n then Int.ofNat (fi n A k) else -1
theorem inF_lp (n : Nat) (A M W : Nat → Int) (k : Int) (hn : n ≤ 1152921504606846976) (hl : fi n A k < n) : LDoes Try.prog (loopAt Try.prog 38 0) 20 0 (mkT [(0, svN n A M W), (1, .i .i64 k), (5, .i .i64 0)]) [] .ret (mkT [(4, .i .i64 (Int.ofNat (fi n A k)))]) [] := by
  refine loop_ind (fun i : Nat => ([(0, svN n A M W), (1, .i .i64 k), (5, .i .i64 (Int.ofNat i))], [])) (fun i => n - i) (fun i => i ≤ fi n A k) ?_ 0 (Nat.zero_le _)
  intro i hi
  refine ⟨Nat.le_refl _, ?_⟩
  by_cases e : i = fi n A k
  · have h1 : decide (Int.ofNat i < Int.ofNat n) = true := by simp; omega
    have h2 : decide (A (Int.toNat (Int.ofNat i)) = k) = true := by
      have := fi_at hl; simp; rw [e]; exact this
    refine ⟨_, _, (inF_vc n i A M W k h1 h2 _).mpr ⟨h1, ⟨by simp, by simp; omega⟩, trivial, trivial, h2, .inr ⟨[], [], _, _, rfl, by simp, ?_⟩⟩⟩
    rw [← e]
    exact st_k [] (by kernel_rfl)
  · have h1 : decide (Int.ofNat i < Int.ofNat n) = true := by simp; omega
    have h2 : decide (A (Int.toNat (Int.ofNat i)) = k) = false := by
      have := fi_far (n := n) (A := A) (k := k) (j := i) (by omega); simpa using this
    refine ⟨_, _, (inG_vc n i A M W k h1 h2 _).mpr ⟨h1, ⟨by simp, by simp; omega⟩, trivial, trivial, h2, ⟨by simp; omega, by simp; omega⟩, .inl ⟨i + 1, [], [], _, _, by omega, (by show n - (i + 1) < n - i; omega), rfl, st_k [] (by kernel_rfl)⟩⟩⟩
theorem inE_lp (n : Nat) (A M W : Nat → Int) (k : Int) (hn : n ≤ 1152921504606846976) (hl : fi n A k = n) : LDoes Try.prog (loopAt Try.prog 38 0) 20 0 (mkT [(0, svN n A M W), (1, .i .i64 k), (5, .i .i64 0)]) [] (.exit 0) (mkT []) [] := by
  refine loop_ind (fun i : Nat => ([(0, svN n A M W), (1, .i .i64 k), (5, .i .i64 (Int.ofNat i))], [])) (fun i => n - i) (fun i => i ≤ n) ?_ 0 (Nat.zero_le _)
  intro i hi
  refine ⟨Nat.le_refl _, ?_⟩
  by_cases e : i = n
  · have h1 : decide (Int.ofNat i < Int.ofNat n) = false := by simp; omega
    exact ⟨_, _, (inE_vc n i A M W k h1 _).mpr ⟨h1, .inr ⟨[], [], _, _, rfl, by simp, st_k [] (by kernel_rfl)⟩⟩⟩
  · have h1 : decide (Int.ofNat i < Int.ofNat n) = true := by simp; omega
    have h2 : decide (A (Int.toNat (Int.ofNat i)) = k) = false := by
      have := fi_far (n := n) (A := A) (k := k) (j := i) (by omega); simpa using this
    refine ⟨_, _, (inG_vc n i A M W k h1 h2 _).mpr ⟨h1, ⟨by simp, by simp; omega⟩, trivial, trivial, h2, ⟨by simp; omega, by simp; omega⟩, .inl ⟨i + 1, [], [], _, _, by omega, (by show n - (i + 1) < n - i; omega), rfl, st_k [] (by kernel_rfl)⟩⟩⟩
theorem in_con (n : Nat) (A M W : Nat → Int) (k : Int) (hn : n ≤ 1152921504606846976) : Con Try.prog 38 [svN n A M W, .i .i64 k] [] (.i .i64 (inI n A k)) [] := by
  unfold inI
  by_cases c : fi n A k < n
  · rw [if_pos c]
    exact con_pureX (in1_vc _ n A M W k _) rfl ⟨inF_lp n A M W k hn c, rfl⟩
  · rw [if_neg c]
    have := fi_le n A k
    exact con_pureX (in2_vc n A M W k _) rfl ⟨inE_lp n A M W k hn (by omega), rfl⟩
def canJ (h : Nat → Int) (a m : Int) (j : Nat) : Bool := decide (Int.ofNat j = a) || goesB (h j) m
theorem goesB_comm (a b : Int) : goesB a b = goesB b a := by
  unfold goesB
  rw [Bool.or_comm (decide (a = 0)), Bool.and_comm]
theorem canB_J (h : Nat → Int) (a m : Int) : canB h a m = (canJ h a m 0 && (canJ h a m 1 && canJ h a m 2)) := by
  unfold canB canJ
  rw [goesB_comm m, goesB_comm m, goesB_comm m]
  rfl
theorem caB_h (t : TS) (l j : Nat) (hj : j < 3) : t.h ((l * 3 + j) / 3) ((l * 3 + j) % 3) = t.h l j := by
  rw [show (l * 3 + j) / 3 = l by omega, show (l * 3 + j) % 3 = j by omega]
theorem caT_lp (t : TS) (l : Nat) (hl : l < 19) (a m : Int) (hc : ∀ j, j < 3 → canJ (t.h l) a m j = true) : LDoes Try.prog (loopAt Try.prog 40 0) 28 1 (mkT [(1, .i .i64 (Int.ofNat l)), (2, .i .i64 a), (3, .i .i64 m), (4, .p 0 0), (9, .i .i64 0)]) [some (tsO t)] (.exit 0) (mkT []) [some (tsF t)] := by
  have key := loop_ind (P := Try.prog) (c := loopAt Try.prog 40 0) (n := 28) (b := 1) (x := .exit 0) (l' := []) (objs' := [some (tsF t)]) (D := Nat) (fun j : Nat => ([(1, .i .i64 (Int.ofNat l)), (2, .i .i64 a), (3, .i .i64 m), (4, .p 0 0), (9, .i .i64 (Int.ofNat j))], [some (tsF t)])) (fun j => 3 - j) (fun j => j ≤ 3) (fun j hj => ?_) 0 (by decide)
  · exact key.ovl (objs0 := [some (tsO t)]) ⟨OV.trans (tsZ_ov [] t) (tsS_F t), trivial⟩
  refine ⟨Nat.le_refl _, ?_⟩
  by_cases e : j = 3
  · subst e
    exact ⟨_, _, (caE_vc t l a m _).mpr (.inr ⟨[0], [], _, _, rfl, by simp, st_k [0] (by kernel_rfl)⟩)⟩
  have h1 : decide (Int.ofNat j < 3) = true := by simp <;> omega
  have hcj := hc j (by omega)
  unfold canJ at hcj
  by_cases c : Int.ofNat j = a
  · have h2 : (!decide (Int.ofNat j = a)) = false := by rw [decide_eq_true c]; rfl
    refine ⟨_, _, (caA_vc t l j a m h1 h2 _).mpr ?_⟩
    repeat' first | exact trivial | exact h1 | exact h2 | exact .inl ⟨j + 1, [0], [], _, _, by omega, by show 3 - (j + 1) < 3 - j; omega, rfl, st_k [0] (by kernel_rfl)⟩ | apply And.intro | (simp <;> omega)
  · have h2 : (!decide (Int.ofNat j = a)) = true := by rw [decide_eq_false c]; rfl
    rw [decide_eq_false c, Bool.false_or] at hcj
    refine ⟨_, _, (caB_vc t goesB l j a m h1 h2 _).mpr ⟨h1, h2, h2, h2, trivial, h2, ⟨by simp, by simp <;> omega⟩, h2, ⟨by simp, by simp <;> omega⟩, h2, by omega, h2, h2, rgoes_con _ _, h2, trivial, h2, fun c3 => ?_, fun c3 => ⟨⟨by simp <;> omega, by simp <;> omega⟩, .inl ⟨j + 1, [0], [], _, _, by omega, by show 3 - (j + 1) < 3 - j; omega, rfl, st_k [0] (by kernel_rfl)⟩⟩⟩⟩
    rw [caB_h t l j (by omega), hcj] at c3
    cases c3
theorem caF_lp (t : TS) (l : Nat) (hl : l < 19) (a m : Int) (hc : ∃ j, j < 3 ∧ canJ (t.h l) a m j = false) : LDoes Try.prog (loopAt Try.prog 40 0) 28 1 (mkT [(1, .i .i64 (Int.ofNat l)), (2, .i .i64 a), (3, .i .i64 m), (4, .p 0 0), (9, .i .i64 0)]) [some (tsO t)] .ret (mkT [(8, .b false)]) [some (tsF t)] := by
  have key := loop_ind (P := Try.prog) (c := loopAt Try.prog 40 0) (n := 28) (b := 1) (x := .ret) (l' := [(8, .b false)]) (objs' := [some (tsF t)]) (D := Nat) (fun j : Nat => ([(1, .i .i64 (Int.ofNat l)), (2, .i .i64 a), (3, .i .i64 m), (4, .p 0 0), (9, .i .i64 (Int.ofNat j))], [some (tsF t)])) (fun j => 3 - j) (fun j => ∃ i, j ≤ i ∧ i < 3 ∧ canJ (t.h l) a m i = false) (fun j hj => ?_) 0 (by obtain ⟨j, j1, j2⟩ := hc; exact ⟨j, Nat.zero_le _, j1, j2⟩)
  · exact key.ovl (objs0 := [some (tsO t)]) ⟨OV.trans (tsZ_ov [] t) (tsS_F t), trivial⟩
  refine ⟨Nat.le_refl _, ?_⟩
  obtain ⟨i, i1, i2, i3⟩ := hj
  have h1 : decide (Int.ofNat j < 3) = true := by simp <;> omega
  by_cases c : Int.ofNat j = a
  · have h2 : (!decide (Int.ofNat j = a)) = false := by rw [decide_eq_true c]; rfl
    have hne : i ≠ j := by
      rintro rfl
      unfold canJ at i3
      rw [decide_eq_true c] at i3
      cases i3
    refine ⟨_, _, (caA_vc t l j a m h1 h2 _).mpr ?_⟩
    repeat' first | exact trivial | exact h1 | exact h2 | exact .inl ⟨j + 1, [0], [], _, _, ⟨i, by omega, i2, i3⟩, by show 3 - (j + 1) < 3 - j; omega, rfl, st_k [0] (by kernel_rfl)⟩ | apply And.intro | (simp <;> omega)
  · have h2 : (!decide (Int.ofNat j = a)) = true := by rw [decide_eq_false c]; rfl
    refine ⟨_, _, (caB_vc t goesB l j a m h1 h2 _).mpr ⟨h1, h2, h2, h2, trivial, h2, ⟨by simp, by simp <;> omega⟩, h2, ⟨by simp, by simp <;> omega⟩, h2, by omega, h2, h2, rgoes_con _ _, h2, trivial, h2, fun c3 => ?_, fun c3 => ⟨⟨by simp <;> omega, by simp <;> omega⟩, .inl ⟨j + 1, [0], [], _, _, ⟨i, ?_, i2, i3⟩, by show 3 - (j + 1) < 3 - j; omega, rfl, st_k [0] (by kernel_rfl)⟩⟩⟩⟩
    · exact .inr ⟨[0], [], _, _, rfl, by simp, st_k [0] (by kernel_rfl)⟩
    · have hne : i ≠ j := by
        rintro rfl
        unfold canJ at i3
        rw [decide_eq_false c, Bool.false_or] at i3
        rw [caB_h t l i (by omega), i3] at c3
        cases c3
      omega
theorem can_con (s : LS) (l : Nat) (hl : l < 19) (a m : Int) : Con Try.prog 40 [lsV s, .i .i64 (Int.ofNat l), .i .i64 a, .i .i64 m] [] (.b (canB (s.row l).h a m)) [] := by
  cases hc : canB (s.row l).h a m with
  | true =>
    rw [canB_J, Bool.and_eq_true, Bool.and_eq_true] at hc
    exact con_pureX (ca2_vc s.ts l a m _) rfl ⟨caT_lp s.ts l hl a m fun j hj => by
      rcases (show j = 0 ∨ j = 1 ∨ j = 2 by omega) with rfl | rfl | rfl
      · exact hc.1
      · exact hc.2.1
      · exact hc.2.2, rfl⟩
  | false =>
    rw [canB_J] at hc
    refine con_pureX (ca1_vc s.ts l a m _) rfl ⟨caF_lp s.ts l hl a m ?_, rfl⟩
    apply Classical.byContradiction
    intro c
    have h : ∀ j, j < 3 → canJ (s.row l).h a m j = true := by
      intro j hj
      cases e : canJ (s.row l).h a m j with
      | true => rfl
      | false => exact absurd ⟨j, hj, e⟩ c
    rw [h 0 (by decide), h 1 (by decide), h 2 (by decide)] at hc
    cases hc
theorem shR_vc (n i : Nat) (A M W : Nat → Int) (h0 : decide (Int.ofNat i < Int.ofNat n) = true) (h1 : (!(decide (A (Int.toNat (Int.ofNat i)) = A (Int.toNat (Int.ofNat i))) && (decide (M (Int.toNat (Int.ofNat i)) = M (Int.toNat (Int.ofNat i))) && (decide (W (Int.toNat (Int.ofNat i)) = W (Int.toNat (Int.ofNat i))) && true)))) = false) (K : Res → Orc → Prop) : runK Try.prog 1000000 (.code (loopAt Try.prog 21 0) 26 (mkT [(0, svN n A M W), (1, svN n A M W), (5, .i .i64 (Int.ofNat i))]) (mkH [])) (Orc.t (Orc.f Orc.z)) K = (decide (Int.ofNat i < Int.ofNat n) = true ∧ (0 ≤ Int.ofNat i ∧ Int.ofNat i < ↑n) ∧ True ∧ (0 ≤ Int.ofNat i ∧ Int.ofNat i < ↑n) ∧ True ∧ True ∧ (!(decide (A i = A i) && (decide (M i = M i) && (decide (W i = W i) && true)))) = false ∧ ((-9223372036854775808) ≤ Int.ofNat i + 1 ∧ Int.ofNat i + (1 : Int) ≤ (9223372036854775807 : Int)) ∧ K (Res.st XO.nrm (z1 (AV.sv 3 n (qF A M W))
  (z1 (AV.sv 3 n (qF A M W)) (z0 (z0 (zl (AV.i .i64 (Int.ofNat i))) (zl (AV.pv 3 (qF A M W i)))) (z1 (AV.i .i64 (Int.ofNat i)) (zl (AV.pv 3 (qF A M W i))) T.e)) (z1 (AV.i .i64 (Int.ofNat i + 1)) (z0 (zl (AV.sv 3 n (qF A M W))) (zl (AV.b !(decide (A i = A i) && (decide (M i = M i) && (decide (W i = W i) && true)))))) (z1 (AV.i .i64 (Int.ofNat n)) (zl (AV.sv 3 n (qF A M W))) T.e))) (z0 (z0 (z0 (zl (AV.i .i64 (Int.ofNat i + 1))) (zl (AV.agg [AV.i .i64 (A i), AV.i .i64 (M i), AV.i .i64 (W i)]))) (z1 (AV.sv 3 n (qF A M W)) (zl (AV.agg [AV.i .i64 (A i), AV.i .i64 (M i), AV.i .i64 (W i)])) T.e)) (z0 (z0 (zl (AV.i .i64 (Int.ofNat i))) T.e) (z1 (AV.b (decide (Int.ofNat i < Int.ofNat n))) (zl (AV.i .i64 (Int.ofNat i))) T.e)))) ⟨T.e, 0, []⟩) Orc.z) := by kernel_rfl
theorem shE_vc (n i : Nat) (A M W : Nat → Int) (h0 : decide (Int.ofNat i < Int.ofNat n) = false) (K : Res → Orc → Prop) : runK Try.prog 1000000 (.code (loopAt Try.prog 21 0) 26 (mkT [(0, svN n A M W), (1, svN n A M W), (5, .i .i64 (Int.ofNat i))]) (mkH [])) (Orc.f Orc.z) K = (decide (Int.ofNat i < Int.ofNat n) = false ∧ K (Res.st (XO.exit 0) (z1 (AV.sv 3 n (qF A M W)) (z1 (AV.sv 3 n (qF A M W)) (z0 T.e (zl (AV.i .i64 (Int.ofNat i)))) (z1 (AV.i .i64 (Int.ofNat i)) T.e (zl (AV.i .i64 (Int.ofNat n))))) (z0 (z0 T.e (zl (AV.sv 3 n (qF A M W)))) (z0 T.e (zl (AV.b (decide (Int.ofNat i < Int.ofNat n))))))) ⟨T.e, 0, []⟩) Orc.z) := by kernel_rfl
theorem sh_vc (n : Nat) (A M W : Nat → Int) (V : AV) : runK Try.prog 1000000 (.call 21 [svN n A M W, svN n A M W] (mkH [])) (Orc.f (Orc.lop [] [0, 1, 5] 0 (XO.exit 0) [] [] Orc.z)) (fun r _ => rvIs V r) = ((!decide (Int.ofNat n = Int.ofNat n)) = false ∧ LDoes Try.prog (loopAt Try.prog 21 0) 26 0 (mkT [(0, svN n A M W), (1, svN n A M W), (5, AV.i .i64 0)]) [] (XO.exit 0) (mkT []) [] ∧ (AV.b true) = V) := by kernel_rfl
theorem saR_vc (t : TS) (l : Nat) (h1 : decide (Int.ofNat l < 19) = true) (h2 : (!(decide (t.h l 0 = t.h l 0) && (decide (t.h l 1 = t.h l 1) && (decide (t.h l 2 = t.h l 2) && true)))) = false) (K : Res → Orc → Prop) : runK Try.prog 1000000 (.code (loopAt Try.prog 18 0) 31 (mkT [(2, .p 0 0), (3, .p 1 0), (5, .i .i64 (Int.ofNat l))]) (mkH [some (tsS t), some (tsS t)])) (Orc.t (Orc.s (Orc.s (Orc.t (Orc.t (Orc.t (Orc.s (Orc.t (Orc.t (Orc.t (Orc.t (Orc.s (Orc.t (Orc.t (Orc.cal [] (AV.b true) [] (Orc.t (Orc.f (Orc.c Orc.z)))))) Orc.z))))) Orc.z)))) Orc.z) Orc.z)) K = (decide (Int.ofNat l < 19) = true ∧ True ∧ (0 ≤ Int.ofNat l ∧ Int.ofNat l < 19) ∧ l < 19 ∧ True ∧ (0 ≤ Int.ofNat l ∧ Int.ofNat l < 19) ∧ l < 19 ∧ True ∧ (!!(decide (TS.h t l 0 = TS.h t l 0) && (decide (TS.h t l 1 = TS.h t l 1) && (decide (TS.h t l 2 = TS.h t l 2) && true)))) = true ∧ (!!(decide (TS.h t l 0 = TS.h t l 0) && (decide
  (TS.h t l 1 = TS.h t l 1) && (decide (TS.h t l 2 = TS.h t l 2) && true)))) = true ∧ True ∧ (!!(decide (TS.h t l 0 = TS.h t l 0) && (decide (TS.h t l 1 = TS.h t l 1) && (decide (TS.h t l 2 = TS.h t l 2) && true)))) = true ∧ (0 ≤ Int.ofNat l ∧ Int.ofNat l < 19) ∧ (!!(decide (TS.h t l 0 = TS.h t l 0) && (decide (TS.h t l 1 = TS.h t l 1) && (decide (TS.h t l 2 = TS.h t l 2) && true)))) = true ∧ l < 19 ∧ (!!(decide (TS.h t l 0 = TS.h t l 0) && (decide (TS.h t l 1 = TS.h t l 1) && (decide (TS.h t l 2 = TS.h t l 2) && true)))) = true ∧ (!!(decide (TS.h t l 0 = TS.h t l 0) && (decide (TS.h t l 1 = TS.h t l 1) && (decide (TS.h t l 2 = TS.h t l 2) && true)))) = true ∧ True ∧ (!!(decide (TS.h t l 0 = TS.h t l 0) && (decide (TS.h t l 1 = TS.h t l 1) && (decide (TS.h t l 2 = TS.h t l 2) && true)))) = true ∧ (0 ≤ Int.ofNat l ∧ Int.ofNat l < 19) ∧ (!!(decide (TS.h t l 0 = TS.h t l 0) && (decide (TS.h
  t l 1 = TS.h t l 1) && (decide (TS.h t l 2 = TS.h t l 2) && true)))) = true ∧ l < 19 ∧ (!!(decide (TS.h t l 0 = TS.h t l 0) && (decide (TS.h t l 1 = TS.h t l 1) && (decide (TS.h t l 2 = TS.h t l 2) && true)))) = true ∧ Con Try.prog 21 [svN (TS.n t l) (TS.A t (Int.toNat (Int.ofNat l))) (TS.M t (Int.toNat (Int.ofNat l))) (TS.W t (Int.toNat (Int.ofNat l))), svN (TS.n t l) (TS.A t (Int.toNat (Int.ofNat l))) (TS.M t (Int.toNat (Int.ofNat l))) (TS.W t (Int.toNat (Int.ofNat l)))] [] (AV.b true) [] ∧ (!!(decide (TS.h t l 0 = TS.h t l 0) && (decide (TS.h t l 1 = TS.h t l 1) && (decide (TS.h t l 2 = TS.h t l 2) && true)))) = true ∧ True ∧ (!(decide (TS.h t l 0 = TS.h t l 0) && (decide (TS.h t l 1 = TS.h t l 1) && (decide (TS.h t l 2 = TS.h t l 2) && true)))) = false ∧ ((-9223372036854775808) ≤ Int.ofNat l + 1 ∧ Int.ofNat l + (1 : Int) ≤ (9223372036854775807 : Int)) ∧ K (Res.st XO.nrm (z0 (z0 (z1
  (AV.p 1 0) (z1 (AV.b (decide (Int.ofNat l < 19))) (zl (AV.p 1 44)) (zl (AV.sv 3 (TS.n t l) (qF (TS.A t (Int.toNat (Int.ofNat l))) (TS.M t (Int.toNat (Int.ofNat l))) (TS.W t (Int.toNat (Int.ofNat l))))))) (z1 (AV.p 0 44) (zl (AV.b !(decide (TS.h t l 0 = TS.h t l 0) && (decide (TS.h t l 1 = TS.h t l 1) && (decide (TS.h t l 2 = TS.h t l 2) && true))))) (zl (AV.sv 3 (TS.n t l) (qF (TS.A t (Int.toNat (Int.ofNat l))) (TS.M t (Int.toNat (Int.ofNat l))) (TS.W t (Int.toNat (Int.ofNat l)))))))) (z1 (AV.i .i64 (Int.ofNat l + 1)) (z1 (AV.i .i64 (Int.ofNat l + 1)) (zl (AV.agg [AV.i .i64 (TS.h t l 0), AV.i .i64 (TS.h t l 1), AV.i .i64 (TS.h t l 2)])) (zl (AV.p 1 101))) (z1 (AV.agg [AV.i .i64 (TS.h t l 0), AV.i .i64 (TS.h t l 1), AV.i .i64 (TS.h t l 2)]) (zl (AV.p 0 101)) (zl (AV.b false))))) (z1 (AV.p 0 0) (z0 (z1 (AV.i .i64 (Int.ofNat l)) (zl (AV.ps 1 44 3 19 l)) (zl (AV.i .i64 (Int.ofNat l)))) (z1
  (AV.ps 0 44 3 19 l) (zl (AV.i .i64 (Int.ofNat l))) (zl (AV.b true)))) (z1 (AV.i .i64 (Int.ofNat l)) (z1 (AV.i .i64 (Int.ofNat l)) (zl (AV.b !(decide (TS.h t l 0 = TS.h t l 0) && (decide (TS.h t l 1 = TS.h t l 1) && (decide (TS.h t l 2 = TS.h t l 2) && true))))) (zl (AV.ps 1 101 1 19 l))) (z1 (AV.i .i64 (Int.ofNat l)) (zl (AV.ps 0 101 1 19 l)) (zl (AV.b false)))))) ⟨z1 (tsS t) (zl (tsS t)) T.e, 2, []⟩) Orc.z) := by kernel_rfl
theorem saE_vc (t : TS) (K : Res → Orc → Prop) : runK Try.prog 1000000 (.code (loopAt Try.prog 18 0) 31 (mkT [(2, .p 0 0), (3, .p 1 0), (5, .i .i64 19)]) (mkH [some (tsS t), some (tsS t)])) (Orc.c Orc.z) K = (K (Res.st (XO.exit 0) (z0 (z0 (z1 (AV.p 1 0) (zl (AV.b false)) T.e) (zl (AV.i .i64 19))) (z1 (AV.p 0 0) T.e (zl (AV.i .i64 19)))) ⟨z1 (tsS t) (zl (tsS t)) T.e, 2, []⟩) Orc.z) := by kernel_rfl
theorem sa_vc (t : TS) (V : AV) : runK Try.prog 1000000 (.call 18 [tsV t, tsV t] (mkH [])) (oc 2 (Orc.lop [0, 1] [2, 3, 5] 2 (XO.exit 0) [] [some (tsS t), some (tsS t)] Orc.z)) (fun r _ => rvIs V r) = (LDoes Try.prog (loopAt Try.prog 18 0) 31 2 (mkT [(2, AV.p 0 0), (3, AV.p 1 0), (5, AV.i .i64 0)]) [some (tsO t), some (tsO t)] (XO.exit 0) (mkT []) [some (tsS t), some (tsS t)] ∧ (AV.b true) = V) := by kernel_rfl
theorem sh_lp (n : Nat) (A M W : Nat → Int) (hn : n ≤ 1152921504606846976) : LDoes Try.prog (loopAt Try.prog 21 0) 26 0 (mkT [(0, svN n A M W), (1, svN n A M W), (5, .i .i64 0)]) [] (.exit 0) (mkT []) [] := by
  refine loop_ind (fun i : Nat => ([(0, svN n A M W), (1, svN n A M W), (5, .i .i64 (Int.ofNat i))], [])) (fun i => n - i) (fun i => i ≤ n) ?_ 0 (Nat.zero_le _)
  intro i hi
  refine ⟨Nat.le_refl _, ?_⟩
  by_cases e : i = n
  · have h0 : decide (Int.ofNat i < Int.ofNat n) = false := by simp; omega
    exact ⟨_, _, (shE_vc n i A M W h0 _).mpr ⟨h0, .inr ⟨[], [], _, _, rfl, by simp, st_k [] (by kernel_rfl)⟩⟩⟩
  · have h0 : decide (Int.ofNat i < Int.ofNat n) = true := by simp; omega
    have h1 : (!(decide (A (Int.toNat (Int.ofNat i)) = A (Int.toNat (Int.ofNat i))) && (decide (M (Int.toNat (Int.ofNat i)) = M (Int.toNat (Int.ofNat i))) && (decide (W (Int.toNat (Int.ofNat i)) = W (Int.toNat (Int.ofNat i))) && true)))) = false := by simp
    exact ⟨_, _, (shR_vc n i A M W h0 h1 _).mpr ⟨h0, ⟨by simp <;> omega, by simp <;> omega⟩, trivial, ⟨by simp <;> omega, by simp <;> omega⟩, trivial, trivial, h1, ⟨by simp <;> omega, by simp <;> omega⟩, .inl ⟨i + 1, [], [], _, _, by omega, by show n - (i + 1) < n - i; omega, rfl, st_k [] (by kernel_rfl)⟩⟩⟩
theorem sameH_con (q : List HQ) (hn : q.length ≤ 1152921504606846976) : Con Try.prog 21 [svQ q, svQ q] [] (.b true) [] :=
  con_pureX (sh_vc _ _ _ _ _) rfl ⟨by simp, sh_lp _ _ _ _ hn, rfl⟩
theorem same_lp (s : LS) (ok : s.ok) : LDoes Try.prog (loopAt Try.prog 18 0) 31 2 (mkT [(2, .p 0 0), (3, .p 1 0), (5, .i .i64 0)]) [some (tsO s.ts), some (tsO s.ts)] (.exit 0) (mkT []) [some (tsS s.ts), some (tsS s.ts)] := by
  have key := loop_ind (P := Try.prog) (c := loopAt Try.prog 18 0) (n := 31) (b := 2) (x := .exit 0) (l' := []) (objs' := [some (tsS s.ts), some (tsS s.ts)]) (D := Nat) (fun l : Nat => ([(2, .p 0 0), (3, .p 1 0), (5, .i .i64 (Int.ofNat l))], [some (tsS s.ts), some (tsS s.ts)])) (fun l => 19 - l) (fun l => l ≤ 19) (fun l hl => ?_) 0 (Nat.zero_le _)
  · exact key.ovl (objs0 := [some (tsO s.ts), some (tsO s.ts)]) ⟨tsZ_ov [] _, tsZ_ov [] _, trivial⟩
  refine ⟨Nat.le_refl _, ?_⟩
  by_cases e : l = 19
  · subst e
    exact ⟨_, _, (saE_vc s.ts _).mpr (.inr ⟨[0, 1], [], _, _, rfl, by simp, st_k [0, 1] (by kernel_rfl)⟩)⟩
  have h1 : decide (Int.ofNat l < 19) = true := by simp <;> omega
  have h2p : (decide (s.ts.h l 0 = s.ts.h l 0) && (decide (s.ts.h l 1 = s.ts.h l 1) && (decide (s.ts.h l 2 = s.ts.h l 2) && true))) = true := by simp
  have h2 : (!(decide (s.ts.h l 0 = s.ts.h l 0) && (decide (s.ts.h l 1 = s.ts.h l 1) && (decide (s.ts.h l 2 = s.ts.h l 2) && true)))) = false := by rw [h2p]; rfl
  have h2n : (!!(decide (s.ts.h l 0 = s.ts.h l 0) && (decide (s.ts.h l 1 = s.ts.h l 1) && (decide (s.ts.h l 2 = s.ts.h l 2) && true)))) = true := by rw [h2p]; rfl
  have shT := sameH_con (s.row l).q (by have := ok.q l; have e : s.ts.n l = (s.row l).q.length := rfl; omega)
  exact ⟨_, _, (saR_vc s.ts l h1 h2 _).mpr ⟨h1, trivial, ⟨by simp <;> omega, by simp <;> omega⟩, by omega, trivial, ⟨by simp <;> omega, by simp <;> omega⟩, by omega, trivial, h2n, h2n, trivial, h2n, ⟨by simp <;> omega, by simp <;> omega⟩, h2n, by omega, h2n, h2n, trivial, h2n, ⟨by simp <;> omega, by simp <;> omega⟩, h2n, by omega, h2n, shT, h2n, trivial, h2, ⟨by simp <;> omega, by simp <;> omega⟩, .inl ⟨l + 1, [0, 1], [], _, _, by omega, by show 19 - (l + 1) < 19 - l; omega, rfl, st_k [0, 1] (by kernel_rfl)⟩⟩⟩
theorem same_con (s : LS) (ok : s.ok) : Con Try.prog 18 [lsV s, lsV s] [] (.b true) [] :=
  con_pureX (sa_vc s.ts _) rfl ⟨same_lp s ok, rfl⟩
theorem vs_vc (t : TS) (cn : Int → Int → Bool) (l j : Nat) (h1 : decide (Int.ofNat j < 3) = true) (K : Res → Orc → Prop) : runK Try.prog 1000000 (.code (loopAt Try.prog 23 1) 106 (mkT [(1, .p 0 0), (3, .i .i64 (Int.ofNat l)), (4, .i .i64 (Int.ofNat j))]) (mkH [some (tsF t)])) (Orc.t (Orc.s (Orc.s (Orc.s (Orc.t (Orc.f (Orc.s (Orc.t (Orc.t (Orc.t (Orc.t (Orc.cal [] (AV.b (cn (Int.ofNat j) (TS.h t ((l * 3 + j) / 3) ((l * 3 + j) % 3)))) [] (Orc.t (Orc.f (Orc.s Orc.z Orc.z)))))))) (Orc.f (Orc.f (Orc.f (Orc.f (Orc.f (Orc.t (Orc.c Orc.z)))))))))) (Orc.f (Orc.t (oc 8 Orc.z)))) Orc.z) Orc.z)) K = (decide (Int.ofNat j < 3) = true ∧ True ∧ (0 ≤ Int.ofNat l ∧ Int.ofNat l < 19) ∧ (0 ≤ Int.ofNat j ∧ Int.ofNat j < 3) ∧ l * 3 + j < 57 ∧ ((!decide (TS.h t ((l * 3 + j) / 3) ((l * 3 + j) % 3) < 0)) = true → (!decide (TS.h t ((l * 3 + j) / 3) ((l * 3 + j) % 3) < 0)) = true ∧ decide (TS.h t ((l * 3 + j) / 3)
  ((l * 3 + j) % 3) < 0) = false ∧ ((!decide (2 < TS.h t ((l * 3 + j) / 3) ((l * 3 + j) % 3))) = true → True ∧ (!decide (2 < TS.h t ((l * 3 + j) / 3) ((l * 3 + j) % 3))) = true ∧ (!decide (2 < TS.h t ((l * 3 + j) / 3) ((l * 3 + j) % 3))) = true ∧ (!decide (2 < TS.h t ((l * 3 + j) / 3) ((l * 3 + j) % 3))) = true ∧ (!decide (2 < TS.h t ((l * 3 + j) / 3) ((l * 3 + j) % 3))) = true ∧ Con Try.prog 40 [tsV t, AV.i .i64 (Int.ofNat l), AV.i .i64 (Int.ofNat j), AV.i .i64 (TS.h t ((l * 3 + j) / 3) ((l * 3 + j) % 3))] [] (AV.b (cn (Int.ofNat j) (TS.h t ((l * 3 + j) / 3) ((l * 3 + j) % 3)))) [] ∧ (!decide (2 < TS.h t ((l * 3 + j) / 3) ((l * 3 + j) % 3))) = true ∧ True ∧ decide (2 < TS.h t ((l * 3 + j) / 3) ((l * 3 + j) % 3)) = false ∧ ((!cn (Int.ofNat j) (TS.h t ((l * 3 + j) / 3) ((l * 3 + j) % 3))) = true → K (Res.st XO.ret (z0 (z1 (AV.p 0 0) (z1 (AV.i .i64 (Int.ofNat l)) (z0 (z1 (AV.b (decide
  (Int.ofNat j < 3))) (zl (tsV t)) T.e) (zl (AV.i .i64 (TS.h t ((l * 3 + j) / 3) ((l * 3 + j) % 3))))) (z0 (z1 (AV.i .i64 (Int.ofNat j)) (zl (AV.b (cn (Int.ofNat j) (TS.h t ((l * 3 + j) / 3) ((l * 3 + j) % 3))))) T.e) (zl (AV.i .i64 (TS.h t ((l * 3 + j) / 3) ((l * 3 + j) % 3)))))) (z1 (AV.i .i64 (TS.h t ((l * 3 + j) / 3) ((l * 3 + j) % 3))) (z0 (z0 (zl (AV.i .i64 (Int.ofNat j))) T.e) (zl (AV.b (decide (TS.h t ((l * 3 + j) / 3) ((l * 3 + j) % 3) < 0))))) (z0 (z1 (AV.ps 0 44 3 19 l) (zl (AV.b !cn (Int.ofNat j) (TS.h t ((l * 3 + j) / 3) ((l * 3 + j) % 3)))) T.e) (zl (AV.b (decide (2 < TS.h t ((l * 3 + j) / 3) ((l * 3 + j) % 3)))))))) (z1 (AV.b false) (z1 (AV.i .i64 (Int.ofNat j)) (z0 (z0 (zl (AV.i .i64 (Int.ofNat l))) T.e) (zl (AV.i .i64 (TS.h t ((l * 3 + j) / 3) ((l * 3 + j) % 3))))) (z0 (z1 (AV.p 0 44) (zl (AV.b !cn (Int.ofNat j) (TS.h t ((l * 3 + j) / 3) ((l * 3 + j) % 3)))) T.e) (zl
  (AV.b (decide (2 < TS.h t ((l * 3 + j) / 3) ((l * 3 + j) % 3))))))) (z0 (z0 (z1 (AV.i .i64 (Int.ofNat l)) (zl (AV.i .i64 (TS.h t ((l * 3 + j) / 3) ((l * 3 + j) % 3)))) T.e) (zl (AV.b (decide (TS.h t ((l * 3 + j) / 3) ((l * 3 + j) % 3) < 0))))) (z1 (AV.i .i64 (Int.ofNat j)) (zl (AV.ps 0 44 1 57 (l * 3 + j))) (zl (AV.b (decide (2 < TS.h t ((l * 3 + j) / 3) ((l * 3 + j) % 3))))))))) ⟨zl (tsF t), 1, []⟩) Orc.z) ∧ ((!cn (Int.ofNat j) (TS.h t ((l * 3 + j) / 3) ((l * 3 + j) % 3))) = false → ((-9223372036854775808) ≤ Int.ofNat j + 1 ∧ Int.ofNat j + (1 : Int) ≤ (9223372036854775807 : Int)) ∧ K (Res.st XO.nrm (z0 (z1 (AV.p 0 0) (z1 (AV.i .i64 (Int.ofNat l)) (z0 (z1 (AV.b (decide (Int.ofNat j < 3))) (zl (tsV t)) T.e) (zl (AV.i .i64 (TS.h t ((l * 3 + j) / 3) ((l * 3 + j) % 3))))) (z0 (z1 (AV.i .i64 (Int.ofNat j)) (zl (AV.b (cn (Int.ofNat j) (TS.h t ((l * 3 + j) / 3) ((l * 3 + j) % 3))))) T.e) (zl
  (AV.i .i64 (TS.h t ((l * 3 + j) / 3) ((l * 3 + j) % 3)))))) (z1 (AV.i .i64 (TS.h t ((l * 3 + j) / 3) ((l * 3 + j) % 3))) (z0 (z1 (AV.i .i64 (Int.ofNat j + 1)) (zl (AV.i .i64 (Int.ofNat j))) T.e) (zl (AV.b (decide (TS.h t ((l * 3 + j) / 3) ((l * 3 + j) % 3) < 0))))) (z0 (z1 (AV.ps 0 44 3 19 l) (zl (AV.b !cn (Int.ofNat j) (TS.h t ((l * 3 + j) / 3) ((l * 3 + j) % 3)))) T.e) (zl (AV.b (decide (2 < TS.h t ((l * 3 + j) / 3) ((l * 3 + j) % 3)))))))) (z0 (z1 (AV.i .i64 (Int.ofNat j + 1)) (z0 (z1 (AV.i .i64 (Int.ofNat j)) (zl (AV.i .i64 (Int.ofNat l))) T.e) (zl (AV.i .i64 (TS.h t ((l * 3 + j) / 3) ((l * 3 + j) % 3))))) (z0 (z1 (AV.p 0 44) (zl (AV.b !cn (Int.ofNat j) (TS.h t ((l * 3 + j) / 3) ((l * 3 + j) % 3)))) T.e) (zl (AV.b (decide (2 < TS.h t ((l * 3 + j) / 3) ((l * 3 + j) % 3))))))) (z0 (z0 (z1 (AV.i .i64 (Int.ofNat l)) (zl (AV.i .i64 (TS.h t ((l * 3 + j) / 3) ((l * 3 + j) % 3)))) T.e) (zl
  (AV.b (decide (TS.h t ((l * 3 + j) / 3) ((l * 3 + j) % 3) < 0))))) (z1 (AV.i .i64 (Int.ofNat j)) (zl (AV.ps 0 44 1 57 (l * 3 + j))) (zl (AV.b (decide (2 < TS.h t ((l * 3 + j) / 3) ((l * 3 + j) % 3))))))))) ⟨zl (tsF t), 1, []⟩) Orc.z)) ∧ ((!decide (2 < TS.h t ((l * 3 + j) / 3) ((l * 3 + j) % 3))) = false → (!decide (2 < TS.h t ((l * 3 + j) / 3) ((l * 3 + j) % 3))) = false ∧ (!decide (2 < TS.h t ((l * 3 + j) / 3) ((l * 3 + j) % 3))) = false ∧ (!decide (2 < TS.h t ((l * 3 + j) / 3) ((l * 3 + j) % 3))) = false ∧ (!decide (2 < TS.h t ((l * 3 + j) / 3) ((l * 3 + j) % 3))) = false ∧ (!decide (2 < TS.h t ((l * 3 + j) / 3) ((l * 3 + j) % 3))) = false ∧ decide (2 < TS.h t ((l * 3 + j) / 3) ((l * 3 + j) % 3)) = true ∧ K (Res.st XO.ret (z0 (z1 (AV.p 0 0) (z1 (AV.i .i64 (Int.ofNat l)) (z0 (z1 (AV.b (decide (Int.ofNat j < 3))) (zl (AV.tup [])) T.e) (zl (AV.i .i64 (TS.h t ((l * 3 + j) / 3) ((l * 3 +
  j) % 3))))) (z0 (z1 (AV.i .i64 (Int.ofNat j)) (zl (AV.tup [])) T.e) (zl (AV.i .i64 (TS.h t ((l * 3 + j) / 3) ((l * 3 + j) % 3)))))) (z1 (AV.i .i64 (TS.h t ((l * 3 + j) / 3) ((l * 3 + j) % 3))) (z0 (z0 (zl (AV.tup [])) T.e) (zl (AV.b (decide (TS.h t ((l * 3 + j) / 3) ((l * 3 + j) % 3) < 0))))) (z0 (z1 (AV.ps 0 44 3 19 l) (zl (AV.b true)) T.e) (zl (AV.b (decide (2 < TS.h t ((l * 3 + j) / 3) ((l * 3 + j) % 3)))))))) (z1 (AV.b false) (z1 (AV.i .i64 (Int.ofNat j)) (z0 (z0 (zl (AV.tup [])) T.e) (zl (AV.i .i64 (TS.h t ((l * 3 + j) / 3) ((l * 3 + j) % 3))))) (z0 (z1 (AV.p 0 44) (zl (AV.tup [])) T.e) (zl (AV.b (decide (2 < TS.h t ((l * 3 + j) / 3) ((l * 3 + j) % 3))))))) (z0 (z0 (z1 (AV.i .i64 (Int.ofNat l)) (zl (AV.tup [])) T.e) (zl (AV.b (decide (TS.h t ((l * 3 + j) / 3) ((l * 3 + j) % 3) < 0))))) (z1 (AV.i .i64 (Int.ofNat j)) (zl (AV.ps 0 44 1 57 (l * 3 + j))) (zl (AV.b (decide (2 < TS.h t
  ((l * 3 + j) / 3) ((l * 3 + j) % 3))))))))) ⟨zl (tsF t), 1, []⟩) Orc.z)) ∧ ((!decide (TS.h t ((l * 3 + j) / 3) ((l * 3 + j) % 3) < 0)) = false → (!decide (TS.h t ((l * 3 + j) / 3) ((l * 3 + j) % 3) < 0)) = false ∧ decide (TS.h t ((l * 3 + j) / 3) ((l * 3 + j) % 3) < 0) = true ∧ K (Res.st XO.ret (z0 (z1 (AV.p 0 0) (z1 (AV.i .i64 (Int.ofNat l)) (z0 (z1 (AV.b (decide (Int.ofNat j < 3))) (zl (AV.tup [])) T.e) (zl (AV.i .i64 (TS.h t ((l * 3 + j) / 3) ((l * 3 + j) % 3))))) (z0 (z1 (AV.i .i64 (Int.ofNat j)) (zl (AV.tup [])) T.e) (zl (AV.tup [])))) (z1 (AV.i .i64 (TS.h t ((l * 3 + j) / 3) ((l * 3 + j) % 3))) (z0 (z0 (zl (AV.tup [])) T.e) (zl (AV.b (decide (TS.h t ((l * 3 + j) / 3) ((l * 3 + j) % 3) < 0))))) (z0 (z1 (AV.ps 0 44 3 19 l) (zl (AV.b true)) T.e) (zl (AV.b true))))) (z1 (AV.b false) (z1 (AV.i .i64 (Int.ofNat j)) (z0 (z0 (zl (AV.tup [])) T.e) (zl (AV.i .i64 (TS.h t ((l * 3 + j) / 3)
  ((l * 3 + j) % 3))))) (z0 (z1 (AV.p 0 44) (zl (AV.tup [])) T.e) (zl (AV.tup [])))) (z0 (z0 (z1 (AV.i .i64 (Int.ofNat l)) (zl (AV.tup [])) T.e) (zl (AV.b (decide (TS.h t ((l * 3 + j) / 3) ((l * 3 + j) % 3) < 0))))) (z1 (AV.i .i64 (Int.ofNat j)) (zl (AV.ps 0 44 1 57 (l * 3 + j))) (zl (AV.b true)))))) ⟨zl (tsF t), 1, []⟩) Orc.z)) := by kernel_rfl
theorem vq_vc (t : TS) (cn : Int → Int → Bool) (ii : Int → Int) (l i n : Nat) (A M W : Nat → Int) (h1 : decide (Int.ofNat i < Int.ofNat n) = true) (K : Res → Orc → Prop) : runK Try.prog 1000000 (.code (loopAt Try.prog 23 2) 106 (mkT [(1, .p 0 0), (3, .i .i64 (Int.ofNat l)), (6, svN n A M W), (7, .i .i64 (Int.ofNat i))]) (mkH [some (tsF t)])) (Orc.t (Orc.s (Orc.t (Orc.f (Orc.s (Orc.t (Orc.f (Orc.s (Orc.t (Orc.f (Orc.s (Orc.t (Orc.t (Orc.t (Orc.t (Orc.t (Orc.f (Orc.s (Orc.t (Orc.t (Orc.cal [] (AV.i .i64 (ii (A i))) [] (Orc.t (Orc.t (Orc.f (Orc.s Orc.z (Orc.s (Orc.s (Orc.s (Orc.t (Orc.t (Orc.s (Orc.t (Orc.t (Orc.t (Orc.t (Orc.cal [] (AV.b (cn (A i) (M i))) [] (Orc.t (Orc.t (Orc.f (Orc.s Orc.z Orc.z))))))))) (Orc.f (Orc.f (Orc.f (Orc.f (Orc.t (Orc.f (Orc.f (Orc.c Orc.z))))))))))) (Orc.f (Orc.f (Orc.f (Orc.t (Orc.c Orc.z)))))) Orc.z) Orc.z)))))))) (Orc.f (Orc.f (Orc.f (Orc.f (Orc.t (Orc.c
  Orc.z))))))))))))) (Orc.f (Orc.f (Orc.f (Orc.f (Orc.f (Orc.t (oc 7 Orc.z)))))))))) (Orc.f (Orc.t (oc 14 Orc.z)))))) (Orc.f (Orc.t (oc 17 Orc.z)))))) (Orc.f (Orc.t (oc 20 Orc.z))))) K = (decide (Int.ofNat i < Int.ofNat n) = true ∧ (0 ≤ Int.ofNat i ∧ Int.ofNat i < ↑n) ∧ True ∧ True ∧ (0 ≤ Int.ofNat i ∧ Int.ofNat i < ↑n) ∧ True ∧ True ∧ ((!decide (A i < 0)) = true → (!decide (A i < 0)) = true ∧ decide (A i < 0) = false ∧ ((!decide (3 ≤ A i)) = true → (!decide (3 ≤ A i)) = true ∧ decide (3 ≤ A i) = false ∧ ((!decide (M i < 1)) = true → (!decide (M i < 1)) = true ∧ decide (M i < 1) = false ∧ ((!decide (2 < M i)) = true → (!decide (2 < M i)) = true ∧ (!decide (2 < M i)) = true ∧ (0 ≤ Int.ofNat i ∧ Int.ofNat i < ↑n) ∧ (!decide (2 < M i)) = true ∧ True ∧ (!decide (2 < M i)) = true ∧ True ∧ (!decide (2 < M i)) = true ∧ decide (2 < M i) = false ∧ ((!!decide (W i = 0)) = true → (!!decide (W i =
  0)) = true ∧ (!!decide (W i = 0)) = true ∧ Con Try.prog 38 [svN n A M W, AV.i .i64 (A i)] [] (AV.i .i64 (ii (A i))) [] ∧ (!!decide (W i = 0)) = true ∧ (!!decide (W i = 0)) = true ∧ (!decide (W i = 0)) = false ∧ ((!decide (ii (A i) = Int.ofNat i)) = true → K (Res.st XO.ret (z0 (z1 (AV.p 0 0) (z1 (AV.i .i64 (Int.ofNat l)) (z1 (AV.i .i64 (Int.ofNat i)) (z0 (z0 (zl (AV.b (decide (3 ≤ A i)))) T.e) (z0 (zl (AV.b !decide (W i = 0))) T.e)) (z0 (z0 (zl (AV.b (decide (2 < M i)))) T.e) (zl (AV.pv 3 (qF A M W i))))) (z0 (z0 (z0 (zl (AV.b (decide (M i < 1)))) T.e) (z1 (AV.pv 3 fun j => qF A M W i (0 + j)) (zl (AV.i .i64 (ii (A i)))) T.e)) (z0 (z1 (AV.sv 3 n (qF A M W)) (zl (AV.pv 3 (qF A M W i))) T.e) (zl (AV.b (decide (A i < 0))))))) (z0 (z1 (AV.i .i64 (M i)) (z0 (z0 (zl (AV.i .i64 (M i))) T.e) (z1 (AV.i .i64 (Int.ofNat i)) (zl (AV.sv 3 n (qF A M W))) T.e)) (z0 (z0 (zl (AV.sv 3 n (qF A M W))) T.e)
  (zl (AV.i .i64 (M i))))) (z0 (z0 (z0 (zl (AV.i .i64 (M i))) T.e) (z1 (AV.sv 3 n (qF A M W)) (zl (AV.b !decide (ii (A i) = Int.ofNat i))) T.e)) (z0 (z1 (AV.b (decide (Int.ofNat i < Int.ofNat n))) (zl (AV.i .i64 (W i))) T.e) (zl (AV.i .i64 (A i))))))) (z1 (AV.b false) (z0 (z1 (AV.i .i64 (A i)) (z0 (z0 (zl (AV.b (decide (3 ≤ A i)))) T.e) (z1 (AV.sv 3 n (qF A M W)) (zl (AV.b !decide (W i = 0))) T.e)) (z0 (z0 (zl (AV.b (decide (2 < M i)))) T.e) (zl (AV.pv 2 fun j => qF A M W i (1 + j))))) (z0 (z0 (z0 (zl (AV.b (decide (M i < 1)))) T.e) (z1 (AV.i .i64 (A i)) (zl (AV.i .i64 (Int.ofNat i))) T.e)) (z0 (z1 (AV.i .i64 (Int.ofNat n)) (zl (AV.pv 1 fun j => qF A M W i (2 + j))) T.e) (zl (AV.b (decide (A i < 0))))))) (z1 (AV.sv 3 n (qF A M W)) (z0 (z0 (z0 (zl (AV.b (decide (M i < 1)))) T.e) (z1 (AV.pv 3 (qF A M W i)) (zl (AV.i .i64 (A i))) T.e)) (z0 (z1 (AV.i .i64 (Int.ofNat i)) (zl (AV.i .i64
  (Int.ofNat i))) T.e) (zl (AV.i .i64 (A i))))) (z0 (z0 (z0 (zl (AV.b (decide (2 < M i)))) T.e) (z1 (AV.i .i64 (Int.ofNat i)) (zl (AV.b !decide (ii (A i) = Int.ofNat i))) T.e)) (z0 (z0 (zl (AV.b !decide (W i = 0))) T.e) (zl (AV.b (decide (3 ≤ A i))))))))) ⟨zl (tsF t), 1, []⟩) Orc.z) ∧ ((!decide (ii (A i) = Int.ofNat i)) = false → True ∧ (0 ≤ Int.ofNat l ∧ Int.ofNat l < 19) ∧ (0 ≤ A i ∧ A i < 3) ∧ l * 3 + Int.toNat (A i) < 57 ∧ ((!decide (M i ≤ TS.h t ((l * 3 + Int.toNat (A i)) / 3) ((l * 3 + Int.toNat (A i)) % 3))) = true → (!decide (M i ≤ TS.h t ((l * 3 + Int.toNat (A i)) / 3) ((l * 3 + Int.toNat (A i)) % 3))) = true ∧ (!decide (M i ≤ TS.h t ((l * 3 + Int.toNat (A i)) / 3) ((l * 3 + Int.toNat (A i)) % 3))) = true ∧ (decide (Int.ofNat i = 0) = true → True ∧ decide (Int.ofNat i = 0) = true ∧ decide (Int.ofNat i = 0) = true ∧ decide (Int.ofNat i = 0) = true ∧ decide (Int.ofNat i = 0) = true
  ∧ Con Try.prog 40 [tsV t, AV.i .i64 (Int.ofNat l), AV.i .i64 (A i), AV.i .i64 (M i)] [] (AV.b (cn (A i) (M i))) [] ∧ (!decide (M i ≤ TS.h t ((l * 3 + Int.toNat (A i)) / 3) ((l * 3 + Int.toNat (A i)) % 3))) = true ∧ decide (Int.ofNat i = 0) = true ∧ decide (M i ≤ TS.h t ((l * 3 + Int.toNat (A i)) / 3) ((l * 3 + Int.toNat (A i)) % 3)) = false ∧ (cn (A i) (M i) = true → K (Res.st XO.ret (z0 (z1 (AV.p 0 0) (z1 (AV.i .i64 (Int.ofNat l)) (z1 (AV.i .i64 (Int.ofNat i)) (z0 (z0 (zl (AV.b (decide (3 ≤ A i)))) (zl (AV.b (decide (M i ≤ TS.h t ((l * 3 + Int.toNat (A i)) / 3) ((l * 3 + Int.toNat (A i)) % 3)))))) (z0 (zl (AV.b !decide (W i = 0))) T.e)) (z0 (z0 (zl (AV.b (decide (2 < M i)))) (zl (AV.b (cn (A i) (M i))))) (z1 (AV.pv 3 (qF A M W i)) (zl (AV.i .i64 (M i))) T.e))) (z0 (z0 (z0 (zl (AV.b (decide (M i < 1)))) (zl (tsV t))) (z1 (AV.pv 3 fun j => qF A M W i (0 + j)) (zl (AV.i .i64 (ii (A i))))
  T.e)) (z0 (z1 (AV.sv 3 n (qF A M W)) (zl (AV.pv 3 (qF A M W i))) T.e) (z1 (AV.b (decide (A i < 0))) (zl (AV.ps 0 44 3 19 l)) T.e)))) (z0 (z1 (AV.i .i64 (M i)) (z0 (z0 (zl (AV.i .i64 (M i))) (zl (AV.b (decide (Int.ofNat i = 0))))) (z1 (AV.i .i64 (Int.ofNat i)) (zl (AV.sv 3 n (qF A M W))) T.e)) (z0 (z0 (zl (AV.sv 3 n (qF A M W))) (zl (AV.b (cn (A i) (M i))))) (z1 (AV.i .i64 (M i)) (zl (AV.i .i64 (A i))) T.e))) (z0 (z0 (z0 (zl (AV.i .i64 (M i))) (zl (AV.i .i64 (A i)))) (z1 (AV.sv 3 n (qF A M W)) (zl (AV.b !decide (ii (A i) = Int.ofNat i))) T.e)) (z0 (z1 (AV.b (decide (Int.ofNat i < Int.ofNat n))) (zl (AV.i .i64 (W i))) T.e) (z1 (AV.i .i64 (A i)) (zl (AV.i .i64 (TS.h t ((l * 3 + Int.toNat (A i)) / 3) ((l * 3 + Int.toNat (A i)) % 3)))) T.e))))) (z1 (AV.b false) (z0 (z1 (AV.i .i64 (A i)) (z0 (z0 (zl (AV.b (decide (3 ≤ A i)))) (zl (AV.i .i64 (Int.ofNat i)))) (z1 (AV.sv 3 n (qF A M W)) (zl
  (AV.b !decide (W i = 0))) T.e)) (z0 (z0 (zl (AV.b (decide (2 < M i)))) (zl (AV.b (cn (A i) (M i))))) (z1 (AV.pv 2 fun j => qF A M W i (1 + j)) (zl (AV.i .i64 (Int.ofNat l))) T.e))) (z0 (z0 (z0 (zl (AV.b (decide (M i < 1)))) (zl (AV.i .i64 (Int.ofNat l)))) (z1 (AV.i .i64 (A i)) (zl (AV.i .i64 (Int.ofNat i))) T.e)) (z0 (z1 (AV.i .i64 (Int.ofNat n)) (zl (AV.pv 1 fun j => qF A M W i (2 + j))) T.e) (z1 (AV.b (decide (A i < 0))) (zl (AV.ps 0 44 1 57 (l * 3 + Int.toNat (A i)))) T.e)))) (z1 (AV.sv 3 n (qF A M W)) (z0 (z0 (z0 (zl (AV.b (decide (M i < 1)))) (zl (AV.b (decide (Int.ofNat i = 0))))) (z1 (AV.pv 3 (qF A M W i)) (zl (AV.i .i64 (A i))) T.e)) (z0 (z1 (AV.i .i64 (Int.ofNat i)) (zl (AV.i .i64 (Int.ofNat i))) T.e) (z1 (AV.i .i64 (A i)) (zl (AV.p 0 44)) T.e))) (z0 (z0 (z0 (zl (AV.b (decide (2 < M i)))) (zl (AV.i .i64 (M i)))) (z1 (AV.i .i64 (Int.ofNat i)) (zl (AV.b !decide (ii (A i) =
  Int.ofNat i))) T.e)) (z0 (z0 (zl (AV.b !decide (W i = 0))) T.e) (z1 (AV.b (decide (3 ≤ A i))) (zl (AV.b (decide (M i ≤ TS.h t ((l * 3 + Int.toNat (A i)) / 3) ((l * 3 + Int.toNat (A i)) % 3))))) T.e)))))) ⟨zl (tsF t), 1, []⟩) Orc.z) ∧ (cn (A i) (M i) = false → ((-9223372036854775808) ≤ Int.ofNat i + 1 ∧ Int.ofNat i + (1 : Int) ≤ (9223372036854775807 : Int)) ∧ K (Res.st XO.nrm (z0 (z1 (AV.p 0 0) (z1 (AV.i .i64 (Int.ofNat l)) (z1 (AV.i .i64 (Int.ofNat i + 1)) (z0 (z0 (zl (AV.b (decide (3 ≤ A i)))) (zl (AV.b (decide (M i ≤ TS.h t ((l * 3 + Int.toNat (A i)) / 3) ((l * 3 + Int.toNat (A i)) % 3)))))) (z1 (AV.i .i64 (Int.ofNat i + 1)) (zl (AV.b !decide (W i = 0))) T.e)) (z0 (z0 (zl (AV.b (decide (2 < M i)))) (zl (AV.b (cn (A i) (M i))))) (z1 (AV.pv 3 (qF A M W i)) (zl (AV.i .i64 (M i))) T.e))) (z0 (z0 (z0 (zl (AV.b (decide (M i < 1)))) (zl (tsV t))) (z1 (AV.pv 3 fun j => qF A M W i (0 + j)) (zl
  (AV.i .i64 (ii (A i)))) T.e)) (z0 (z1 (AV.sv 3 n (qF A M W)) (zl (AV.pv 3 (qF A M W i))) T.e) (z1 (AV.b (decide (A i < 0))) (zl (AV.ps 0 44 3 19 l)) T.e)))) (z0 (z1 (AV.i .i64 (M i)) (z0 (z0 (zl (AV.i .i64 (M i))) (zl (AV.b (decide (Int.ofNat i = 0))))) (z1 (AV.i .i64 (Int.ofNat i)) (zl (AV.sv 3 n (qF A M W))) T.e)) (z0 (z0 (zl (AV.sv 3 n (qF A M W))) (zl (AV.b (cn (A i) (M i))))) (z1 (AV.i .i64 (M i)) (zl (AV.i .i64 (A i))) T.e))) (z0 (z0 (z0 (zl (AV.i .i64 (M i))) (zl (AV.i .i64 (A i)))) (z1 (AV.sv 3 n (qF A M W)) (zl (AV.b !decide (ii (A i) = Int.ofNat i))) T.e)) (z0 (z1 (AV.b (decide (Int.ofNat i < Int.ofNat n))) (zl (AV.i .i64 (W i))) T.e) (z1 (AV.i .i64 (A i)) (zl (AV.i .i64 (TS.h t ((l * 3 + Int.toNat (A i)) / 3) ((l * 3 + Int.toNat (A i)) % 3)))) T.e))))) (z0 (z0 (z1 (AV.i .i64 (A i)) (z0 (z0 (zl (AV.b (decide (3 ≤ A i)))) (zl (AV.i .i64 (Int.ofNat i)))) (z1 (AV.sv 3 n (qF A M
  W)) (zl (AV.b !decide (W i = 0))) T.e)) (z0 (z0 (zl (AV.b (decide (2 < M i)))) (zl (AV.b (cn (A i) (M i))))) (z1 (AV.pv 2 fun j => qF A M W i (1 + j)) (zl (AV.i .i64 (Int.ofNat l))) T.e))) (z0 (z0 (z0 (zl (AV.b (decide (M i < 1)))) (zl (AV.i .i64 (Int.ofNat l)))) (z1 (AV.i .i64 (A i)) (zl (AV.i .i64 (Int.ofNat i))) T.e)) (z0 (z1 (AV.i .i64 (Int.ofNat n)) (zl (AV.pv 1 fun j => qF A M W i (2 + j))) T.e) (z1 (AV.b (decide (A i < 0))) (zl (AV.ps 0 44 1 57 (l * 3 + Int.toNat (A i)))) T.e)))) (z1 (AV.sv 3 n (qF A M W)) (z0 (z0 (z0 (zl (AV.b (decide (M i < 1)))) (zl (AV.b (decide (Int.ofNat i = 0))))) (z1 (AV.pv 3 (qF A M W i)) (zl (AV.i .i64 (A i))) T.e)) (z0 (z1 (AV.i .i64 (Int.ofNat i)) (zl (AV.i .i64 (Int.ofNat i))) T.e) (z1 (AV.i .i64 (A i)) (zl (AV.p 0 44)) T.e))) (z0 (z0 (z0 (zl (AV.b (decide (2 < M i)))) (zl (AV.i .i64 (M i)))) (z1 (AV.i .i64 (Int.ofNat i)) (zl (AV.b !decide (ii (A i)
  = Int.ofNat i))) T.e)) (z0 (z1 (AV.i .i64 (Int.ofNat i)) (zl (AV.b !decide (W i = 0))) T.e) (z1 (AV.b (decide (3 ≤ A i))) (zl (AV.b (decide (M i ≤ TS.h t ((l * 3 + Int.toNat (A i)) / 3) ((l * 3 + Int.toNat (A i)) % 3))))) T.e)))))) ⟨zl (tsF t), 1, []⟩) Orc.z)) ∧ (decide (Int.ofNat i = 0) = false → decide (Int.ofNat i = 0) = false ∧ decide (Int.ofNat i = 0) = false ∧ decide (Int.ofNat i = 0) = false ∧ decide (Int.ofNat i = 0) = false ∧ (!decide (M i ≤ TS.h t ((l * 3 + Int.toNat (A i)) / 3) ((l * 3 + Int.toNat (A i)) % 3))) = true ∧ decide (Int.ofNat i = 0) = false ∧ decide (M i ≤ TS.h t ((l * 3 + Int.toNat (A i)) / 3) ((l * 3 + Int.toNat (A i)) % 3)) = false ∧ ((-9223372036854775808) ≤ Int.ofNat i + 1 ∧ Int.ofNat i + (1 : Int) ≤ (9223372036854775807 : Int)) ∧ K (Res.st XO.nrm (z0 (z1 (AV.p 0 0) (z1 (AV.i .i64 (Int.ofNat l)) (z1 (AV.i .i64 (Int.ofNat i + 1)) (z0 (z0 (zl (AV.b (decide (3 ≤
  A i)))) (zl (AV.b (decide (M i ≤ TS.h t ((l * 3 + Int.toNat (A i)) / 3) ((l * 3 + Int.toNat (A i)) % 3)))))) (z1 (AV.i .i64 (Int.ofNat i + 1)) (zl (AV.b !decide (W i = 0))) T.e)) (z0 (z0 (zl (AV.b (decide (2 < M i)))) (zl (AV.tup []))) (z1 (AV.pv 3 (qF A M W i)) (zl (AV.i .i64 (M i))) T.e))) (z0 (z0 (z0 (zl (AV.b (decide (M i < 1)))) (zl (AV.tup []))) (z1 (AV.pv 3 fun j => qF A M W i (0 + j)) (zl (AV.i .i64 (ii (A i)))) T.e)) (z0 (z1 (AV.sv 3 n (qF A M W)) (zl (AV.pv 3 (qF A M W i))) T.e) (z1 (AV.b (decide (A i < 0))) (zl (AV.ps 0 44 3 19 l)) T.e)))) (z0 (z1 (AV.i .i64 (M i)) (z0 (z0 (zl (AV.i .i64 (M i))) (zl (AV.b (decide (Int.ofNat i = 0))))) (z1 (AV.i .i64 (Int.ofNat i)) (zl (AV.sv 3 n (qF A M W))) T.e)) (z0 (z0 (zl (AV.sv 3 n (qF A M W))) (zl (AV.b false))) (z1 (AV.i .i64 (M i)) (zl (AV.i .i64 (A i))) T.e))) (z0 (z0 (z0 (zl (AV.i .i64 (M i))) (zl (AV.tup []))) (z1 (AV.sv 3 n (qF A
  M W)) (zl (AV.b !decide (ii (A i) = Int.ofNat i))) T.e)) (z0 (z1 (AV.b (decide (Int.ofNat i < Int.ofNat n))) (zl (AV.i .i64 (W i))) T.e) (z1 (AV.i .i64 (A i)) (zl (AV.i .i64 (TS.h t ((l * 3 + Int.toNat (A i)) / 3) ((l * 3 + Int.toNat (A i)) % 3)))) T.e))))) (z0 (z0 (z1 (AV.i .i64 (A i)) (z0 (z0 (zl (AV.b (decide (3 ≤ A i)))) (zl (AV.i .i64 (Int.ofNat i)))) (z1 (AV.sv 3 n (qF A M W)) (zl (AV.b !decide (W i = 0))) T.e)) (z0 (z0 (zl (AV.b (decide (2 < M i)))) (zl (AV.b false))) (z1 (AV.pv 2 fun j => qF A M W i (1 + j)) (zl (AV.i .i64 (Int.ofNat l))) T.e))) (z0 (z0 (z0 (zl (AV.b (decide (M i < 1)))) (zl (AV.tup []))) (z1 (AV.i .i64 (A i)) (zl (AV.i .i64 (Int.ofNat i))) T.e)) (z0 (z1 (AV.i .i64 (Int.ofNat n)) (zl (AV.pv 1 fun j => qF A M W i (2 + j))) T.e) (z1 (AV.b (decide (A i < 0))) (zl (AV.ps 0 44 1 57 (l * 3 + Int.toNat (A i)))) T.e)))) (z1 (AV.sv 3 n (qF A M W)) (z0 (z0 (z0 (zl (AV.b
  (decide (M i < 1)))) (zl (AV.b (decide (Int.ofNat i = 0))))) (z1 (AV.pv 3 (qF A M W i)) (zl (AV.i .i64 (A i))) T.e)) (z0 (z1 (AV.i .i64 (Int.ofNat i)) (zl (AV.i .i64 (Int.ofNat i))) T.e) (z1 (AV.i .i64 (A i)) (zl (AV.p 0 44)) T.e))) (z0 (z0 (z0 (zl (AV.b (decide (2 < M i)))) (zl (AV.tup []))) (z1 (AV.i .i64 (Int.ofNat i)) (zl (AV.b !decide (ii (A i) = Int.ofNat i))) T.e)) (z0 (z1 (AV.i .i64 (Int.ofNat i)) (zl (AV.b !decide (W i = 0))) T.e) (z1 (AV.b (decide (3 ≤ A i))) (zl (AV.b (decide (M i ≤ TS.h t ((l * 3 + Int.toNat (A i)) / 3) ((l * 3 + Int.toNat (A i)) % 3))))) T.e)))))) ⟨zl (tsF t), 1, []⟩) Orc.z)) ∧ ((!decide (M i ≤ TS.h t ((l * 3 + Int.toNat (A i)) / 3) ((l * 3 + Int.toNat (A i)) % 3))) = false → (!decide (M i ≤ TS.h t ((l * 3 + Int.toNat (A i)) / 3) ((l * 3 + Int.toNat (A i)) % 3))) = false ∧ (!decide (M i ≤ TS.h t ((l * 3 + Int.toNat (A i)) / 3) ((l * 3 + Int.toNat (A i)) %
  3))) = false ∧ (!decide (M i ≤ TS.h t ((l * 3 + Int.toNat (A i)) / 3) ((l * 3 + Int.toNat (A i)) % 3))) = false ∧ decide (M i ≤ TS.h t ((l * 3 + Int.toNat (A i)) / 3) ((l * 3 + Int.toNat (A i)) % 3)) = true ∧ K (Res.st XO.ret (z0 (z1 (AV.p 0 0) (z1 (AV.i .i64 (Int.ofNat l)) (z1 (AV.i .i64 (Int.ofNat i)) (z0 (z0 (zl (AV.b (decide (3 ≤ A i)))) (zl (AV.b (decide (M i ≤ TS.h t ((l * 3 + Int.toNat (A i)) / 3) ((l * 3 + Int.toNat (A i)) % 3)))))) (z0 (zl (AV.b !decide (W i = 0))) T.e)) (z0 (z0 (zl (AV.b (decide (2 < M i)))) (zl (AV.tup []))) (z1 (AV.pv 3 (qF A M W i)) (zl (AV.i .i64 (M i))) T.e))) (z0 (z0 (z0 (zl (AV.b (decide (M i < 1)))) (zl (AV.tup []))) (z1 (AV.pv 3 fun j => qF A M W i (0 + j)) (zl (AV.i .i64 (ii (A i)))) T.e)) (z0 (z1 (AV.sv 3 n (qF A M W)) (zl (AV.pv 3 (qF A M W i))) T.e) (z1 (AV.b (decide (A i < 0))) (zl (AV.ps 0 44 3 19 l)) T.e)))) (z0 (z1 (AV.i .i64 (M i)) (z0 (z0
  (zl (AV.i .i64 (M i))) (zl (AV.tup []))) (z1 (AV.i .i64 (Int.ofNat i)) (zl (AV.sv 3 n (qF A M W))) T.e)) (z0 (z0 (zl (AV.sv 3 n (qF A M W))) (zl (AV.b true))) (z1 (AV.i .i64 (M i)) (zl (AV.i .i64 (A i))) T.e))) (z0 (z0 (z0 (zl (AV.i .i64 (M i))) (zl (AV.tup []))) (z1 (AV.sv 3 n (qF A M W)) (zl (AV.b !decide (ii (A i) = Int.ofNat i))) T.e)) (z0 (z1 (AV.b (decide (Int.ofNat i < Int.ofNat n))) (zl (AV.i .i64 (W i))) T.e) (z1 (AV.i .i64 (A i)) (zl (AV.i .i64 (TS.h t ((l * 3 + Int.toNat (A i)) / 3) ((l * 3 + Int.toNat (A i)) % 3)))) T.e))))) (z1 (AV.b false) (z0 (z1 (AV.i .i64 (A i)) (z0 (z0 (zl (AV.b (decide (3 ≤ A i)))) (zl (AV.tup []))) (z1 (AV.sv 3 n (qF A M W)) (zl (AV.b !decide (W i = 0))) T.e)) (z0 (z0 (zl (AV.b (decide (2 < M i)))) (zl (AV.tup []))) (z1 (AV.pv 2 fun j => qF A M W i (1 + j)) (zl (AV.i .i64 (Int.ofNat l))) T.e))) (z0 (z0 (z0 (zl (AV.b (decide (M i < 1)))) (zl (AV.tup
  []))) (z1 (AV.i .i64 (A i)) (zl (AV.i .i64 (Int.ofNat i))) T.e)) (z0 (z1 (AV.i .i64 (Int.ofNat n)) (zl (AV.pv 1 fun j => qF A M W i (2 + j))) T.e) (z1 (AV.b (decide (A i < 0))) (zl (AV.ps 0 44 1 57 (l * 3 + Int.toNat (A i)))) T.e)))) (z1 (AV.sv 3 n (qF A M W)) (z0 (z0 (z0 (zl (AV.b (decide (M i < 1)))) (zl (AV.tup []))) (z1 (AV.pv 3 (qF A M W i)) (zl (AV.i .i64 (A i))) T.e)) (z0 (z1 (AV.i .i64 (Int.ofNat i)) (zl (AV.i .i64 (Int.ofNat i))) T.e) (z1 (AV.i .i64 (A i)) (zl (AV.p 0 44)) T.e))) (z0 (z0 (z0 (zl (AV.b (decide (2 < M i)))) (zl (AV.tup []))) (z1 (AV.i .i64 (Int.ofNat i)) (zl (AV.b !decide (ii (A i) = Int.ofNat i))) T.e)) (z0 (z0 (zl (AV.b !decide (W i = 0))) T.e) (z1 (AV.b (decide (3 ≤ A i))) (zl (AV.b (decide (M i ≤ TS.h t ((l * 3 + Int.toNat (A i)) / 3) ((l * 3 + Int.toNat (A i)) % 3))))) T.e)))))) ⟨zl (tsF t), 1, []⟩) Orc.z))) ∧ ((!!decide (W i = 0)) = false → (!!decide (W i =
  0)) = false ∧ (!!decide (W i = 0)) = false ∧ (!!decide (W i = 0)) = false ∧ (!!decide (W i = 0)) = false ∧ (!decide (W i = 0)) = true ∧ K (Res.st XO.ret (z0 (z1 (AV.p 0 0) (z1 (AV.i .i64 (Int.ofNat l)) (z1 (AV.i .i64 (Int.ofNat i)) (z0 (z0 (zl (AV.b (decide (3 ≤ A i)))) T.e) (z0 (zl (AV.b !decide (W i = 0))) T.e)) (z0 (z0 (zl (AV.b (decide (2 < M i)))) T.e) (zl (AV.pv 3 (qF A M W i))))) (z0 (z0 (z0 (zl (AV.b (decide (M i < 1)))) T.e) (z1 (AV.pv 3 fun j => qF A M W i (0 + j)) (zl (AV.tup [])) T.e)) (z0 (z1 (AV.sv 3 n (qF A M W)) (zl (AV.pv 3 (qF A M W i))) T.e) (zl (AV.b (decide (A i < 0))))))) (z0 (z1 (AV.i .i64 (M i)) (z0 (z0 (zl (AV.i .i64 (M i))) T.e) (z1 (AV.i .i64 (Int.ofNat i)) (zl (AV.tup [])) T.e)) (z0 (z0 (zl (AV.sv 3 n (qF A M W))) T.e) (zl (AV.i .i64 (M i))))) (z0 (z0 (z0 (zl (AV.i .i64 (M i))) T.e) (z1 (AV.sv 3 n (qF A M W)) (zl (AV.tup [])) T.e)) (z0 (z1 (AV.b (decide
  (Int.ofNat i < Int.ofNat n))) (zl (AV.i .i64 (W i))) T.e) (zl (AV.i .i64 (A i))))))) (z1 (AV.b false) (z0 (z1 (AV.i .i64 (A i)) (z0 (z0 (zl (AV.b (decide (3 ≤ A i)))) T.e) (z1 (AV.sv 3 n (qF A M W)) (zl (AV.b !decide (W i = 0))) T.e)) (z0 (z0 (zl (AV.b (decide (2 < M i)))) T.e) (zl (AV.pv 2 fun j => qF A M W i (1 + j))))) (z0 (z0 (z0 (zl (AV.b (decide (M i < 1)))) T.e) (z1 (AV.i .i64 (A i)) (zl (AV.tup [])) T.e)) (z0 (z1 (AV.i .i64 (Int.ofNat n)) (zl (AV.pv 1 fun j => qF A M W i (2 + j))) T.e) (zl (AV.b (decide (A i < 0))))))) (z1 (AV.sv 3 n (qF A M W)) (z0 (z0 (z0 (zl (AV.b (decide (M i < 1)))) T.e) (z1 (AV.pv 3 (qF A M W i)) (zl (AV.tup [])) T.e)) (z0 (z1 (AV.i .i64 (Int.ofNat i)) (zl (AV.i .i64 (Int.ofNat i))) T.e) (zl (AV.i .i64 (A i))))) (z0 (z0 (z0 (zl (AV.b (decide (2 < M i)))) T.e) (z1 (AV.i .i64 (Int.ofNat i)) (zl (AV.b true)) T.e)) (z0 (z0 (zl (AV.b !decide (W i = 0))) T.e)
  (zl (AV.b (decide (3 ≤ A i))))))))) ⟨zl (tsF t), 1, []⟩) Orc.z)) ∧ ((!decide (2 < M i)) = false → (!decide (2 < M i)) = false ∧ (!decide (2 < M i)) = false ∧ (!decide (2 < M i)) = false ∧ (!decide (2 < M i)) = false ∧ (!decide (2 < M i)) = false ∧ decide (2 < M i) = true ∧ K (Res.st XO.ret (z0 (z1 (AV.p 0 0) (z1 (AV.i .i64 (Int.ofNat l)) (z1 (AV.i .i64 (Int.ofNat i)) (z0 (z0 (zl (AV.b (decide (3 ≤ A i)))) T.e) (z0 (zl (AV.b true)) T.e)) (z0 (z0 (zl (AV.b (decide (2 < M i)))) T.e) (zl (AV.pv 3 (qF A M W i))))) (z0 (z0 (z0 (zl (AV.b (decide (M i < 1)))) T.e) (z1 (AV.pv 3 fun j => qF A M W i (0 + j)) (zl (AV.tup [])) T.e)) (z0 (z1 (AV.sv 3 n (qF A M W)) (zl (AV.tup [])) T.e) (zl (AV.b (decide (A i < 0))))))) (z0 (z1 (AV.i .i64 (M i)) (z0 (z0 (zl (AV.i .i64 (M i))) T.e) (z1 (AV.i .i64 (Int.ofNat i)) (zl (AV.tup [])) T.e)) (z0 (z0 (zl (AV.tup [])) T.e) (zl (AV.i .i64 (M i))))) (z0 (z0 (z0
  (zl (AV.i .i64 (M i))) T.e) (z1 (AV.sv 3 n (qF A M W)) (zl (AV.tup [])) T.e)) (z0 (z1 (AV.b (decide (Int.ofNat i < Int.ofNat n))) (zl (AV.tup [])) T.e) (zl (AV.i .i64 (A i))))))) (z1 (AV.b false) (z0 (z1 (AV.i .i64 (A i)) (z0 (z0 (zl (AV.b (decide (3 ≤ A i)))) T.e) (z1 (AV.sv 3 n (qF A M W)) (zl (AV.b true)) T.e)) (z0 (z0 (zl (AV.b (decide (2 < M i)))) T.e) (zl (AV.pv 2 fun j => qF A M W i (1 + j))))) (z0 (z0 (z0 (zl (AV.b (decide (M i < 1)))) T.e) (z1 (AV.i .i64 (A i)) (zl (AV.tup [])) T.e)) (z0 (z1 (AV.i .i64 (Int.ofNat n)) (zl (AV.tup [])) T.e) (zl (AV.b (decide (A i < 0))))))) (z1 (AV.sv 3 n (qF A M W)) (z0 (z0 (z0 (zl (AV.b (decide (M i < 1)))) T.e) (z1 (AV.pv 3 (qF A M W i)) (zl (AV.tup [])) T.e)) (z0 (z1 (AV.i .i64 (Int.ofNat i)) (zl (AV.tup [])) T.e) (zl (AV.i .i64 (A i))))) (z0 (z0 (z0 (zl (AV.b (decide (2 < M i)))) T.e) (z1 (AV.i .i64 (Int.ofNat i)) (zl (AV.b true)) T.e)) (z0
  (z0 (zl (AV.tup [])) T.e) (zl (AV.b (decide (3 ≤ A i))))))))) ⟨zl (tsF t), 1, []⟩) Orc.z)) ∧ ((!decide (M i < 1)) = false → (!decide (M i < 1)) = false ∧ decide (M i < 1) = true ∧ K (Res.st XO.ret (z0 (z1 (AV.p 0 0) (z1 (AV.i .i64 (Int.ofNat l)) (z1 (AV.i .i64 (Int.ofNat i)) (z0 (z0 (zl (AV.b (decide (3 ≤ A i)))) T.e) (z0 (zl (AV.b true)) T.e)) (z0 (z0 (zl (AV.b true)) T.e) (zl (AV.pv 3 (qF A M W i))))) (z0 (z0 (z0 (zl (AV.b (decide (M i < 1)))) T.e) (z1 (AV.pv 3 fun j => qF A M W i (0 + j)) (zl (AV.tup [])) T.e)) (z0 (z1 (AV.sv 3 n (qF A M W)) (zl (AV.tup [])) T.e) (zl (AV.b (decide (A i < 0))))))) (z0 (z1 (AV.i .i64 (M i)) (z0 (z0 (zl (AV.i .i64 (M i))) T.e) (z1 (AV.i .i64 (Int.ofNat i)) (zl (AV.tup [])) T.e)) (z0 (z0 (zl (AV.tup [])) T.e) (zl (AV.i .i64 (M i))))) (z0 (z0 (z0 (zl (AV.tup [])) T.e) (z1 (AV.sv 3 n (qF A M W)) (zl (AV.tup [])) T.e)) (z0 (z1 (AV.b (decide (Int.ofNat i <
  Int.ofNat n))) (zl (AV.tup [])) T.e) (zl (AV.i .i64 (A i))))))) (z1 (AV.b false) (z0 (z1 (AV.i .i64 (A i)) (z0 (z0 (zl (AV.b (decide (3 ≤ A i)))) T.e) (z1 (AV.sv 3 n (qF A M W)) (zl (AV.b true)) T.e)) (z0 (z0 (zl (AV.b true)) T.e) (zl (AV.pv 2 fun j => qF A M W i (1 + j))))) (z0 (z0 (z0 (zl (AV.b (decide (M i < 1)))) T.e) (z1 (AV.i .i64 (A i)) (zl (AV.tup [])) T.e)) (z0 (z1 (AV.i .i64 (Int.ofNat n)) (zl (AV.tup [])) T.e) (zl (AV.b (decide (A i < 0))))))) (z1 (AV.sv 3 n (qF A M W)) (z0 (z0 (z0 (zl (AV.b (decide (M i < 1)))) T.e) (z1 (AV.pv 3 (qF A M W i)) (zl (AV.tup [])) T.e)) (z0 (z1 (AV.i .i64 (Int.ofNat i)) (zl (AV.tup [])) T.e) (zl (AV.i .i64 (A i))))) (z0 (z0 (z0 (zl (AV.tup [])) T.e) (z1 (AV.i .i64 (Int.ofNat i)) (zl (AV.b true)) T.e)) (z0 (z0 (zl (AV.tup [])) T.e) (zl (AV.b (decide (3 ≤ A i))))))))) ⟨zl (tsF t), 1, []⟩) Orc.z)) ∧ ((!decide (3 ≤ A i)) = false → (!decide (3 ≤ A i))
  = false ∧ decide (3 ≤ A i) = true ∧ K (Res.st XO.ret (z0 (z1 (AV.p 0 0) (z1 (AV.i .i64 (Int.ofNat l)) (z1 (AV.i .i64 (Int.ofNat i)) (z0 (z0 (zl (AV.b (decide (3 ≤ A i)))) T.e) (z0 (zl (AV.b true)) T.e)) (z0 (z0 (zl (AV.b true)) T.e) (zl (AV.pv 3 (qF A M W i))))) (z0 (z0 (z0 (zl (AV.b true)) T.e) (z1 (AV.pv 3 fun j => qF A M W i (0 + j)) (zl (AV.tup [])) T.e)) (z0 (z1 (AV.sv 3 n (qF A M W)) (zl (AV.tup [])) T.e) (zl (AV.b (decide (A i < 0))))))) (z0 (z1 (AV.i .i64 (M i)) (z0 (z0 (zl (AV.tup [])) T.e) (z1 (AV.i .i64 (Int.ofNat i)) (zl (AV.tup [])) T.e)) (z0 (z0 (zl (AV.tup [])) T.e) (zl (AV.i .i64 (M i))))) (z0 (z0 (z0 (zl (AV.tup [])) T.e) (z1 (AV.sv 3 n (qF A M W)) (zl (AV.tup [])) T.e)) (z0 (z1 (AV.b (decide (Int.ofNat i < Int.ofNat n))) (zl (AV.tup [])) T.e) (zl (AV.i .i64 (A i))))))) (z1 (AV.b false) (z0 (z1 (AV.i .i64 (A i)) (z0 (z0 (zl (AV.b (decide (3 ≤ A i)))) T.e) (z1 (AV.sv 3 n
  (qF A M W)) (zl (AV.b true)) T.e)) (z0 (z0 (zl (AV.b true)) T.e) (zl (AV.pv 2 fun j => qF A M W i (1 + j))))) (z0 (z0 (z0 (zl (AV.b true)) T.e) (z1 (AV.i .i64 (A i)) (zl (AV.tup [])) T.e)) (z0 (z1 (AV.i .i64 (Int.ofNat n)) (zl (AV.tup [])) T.e) (zl (AV.b (decide (A i < 0))))))) (z1 (AV.sv 3 n (qF A M W)) (z0 (z0 (z0 (zl (AV.tup [])) T.e) (z1 (AV.pv 3 (qF A M W i)) (zl (AV.tup [])) T.e)) (z0 (z1 (AV.i .i64 (Int.ofNat i)) (zl (AV.tup [])) T.e) (zl (AV.i .i64 (A i))))) (z0 (z0 (z0 (zl (AV.tup [])) T.e) (z1 (AV.i .i64 (Int.ofNat i)) (zl (AV.b true)) T.e)) (z0 (z0 (zl (AV.tup [])) T.e) (zl (AV.b (decide (3 ≤ A i))))))))) ⟨zl (tsF t), 1, []⟩) Orc.z)) ∧ ((!decide (A i < 0)) = false → (!decide (A i < 0)) = false ∧ decide (A i < 0) = true ∧ K (Res.st XO.ret (z0 (z1 (AV.p 0 0) (z1 (AV.i .i64 (Int.ofNat l)) (z1 (AV.i .i64 (Int.ofNat i)) (z0 (z0 (zl (AV.b true)) T.e) (z0 (zl (AV.b true)) T.e)) (z0
  (z0 (zl (AV.b true)) T.e) (zl (AV.pv 3 (qF A M W i))))) (z0 (z0 (z0 (zl (AV.b true)) T.e) (z1 (AV.pv 3 fun j => qF A M W i (0 + j)) (zl (AV.tup [])) T.e)) (z0 (z1 (AV.sv 3 n (qF A M W)) (zl (AV.tup [])) T.e) (zl (AV.b (decide (A i < 0))))))) (z0 (z1 (AV.i .i64 (M i)) (z0 (z0 (zl (AV.tup [])) T.e) (z1 (AV.i .i64 (Int.ofNat i)) (zl (AV.tup [])) T.e)) (z0 (z0 (zl (AV.tup [])) T.e) (zl (AV.i .i64 (M i))))) (z0 (z0 (z0 (zl (AV.tup [])) T.e) (z1 (AV.sv 3 n (qF A M W)) (zl (AV.tup [])) T.e)) (z0 (z1 (AV.b (decide (Int.ofNat i < Int.ofNat n))) (zl (AV.tup [])) T.e) (zl (AV.tup [])))))) (z1 (AV.b false) (z0 (z1 (AV.i .i64 (A i)) (z0 (z0 (zl (AV.b true)) T.e) (z1 (AV.sv 3 n (qF A M W)) (zl (AV.b true)) T.e)) (z0 (z0 (zl (AV.b true)) T.e) (zl (AV.pv 2 fun j => qF A M W i (1 + j))))) (z0 (z0 (z0 (zl (AV.b true)) T.e) (z1 (AV.i .i64 (A i)) (zl (AV.tup [])) T.e)) (z0 (z1 (AV.i .i64 (Int.ofNat n)) (zl
  (AV.tup [])) T.e) (zl (AV.b (decide (A i < 0))))))) (z1 (AV.sv 3 n (qF A M W)) (z0 (z0 (z0 (zl (AV.tup [])) T.e) (z1 (AV.pv 3 (qF A M W i)) (zl (AV.tup [])) T.e)) (z0 (z1 (AV.i .i64 (Int.ofNat i)) (zl (AV.tup [])) T.e) (zl (AV.i .i64 (A i))))) (z0 (z0 (z0 (zl (AV.tup [])) T.e) (z1 (AV.i .i64 (Int.ofNat i)) (zl (AV.b true)) T.e)) (z0 (z0 (zl (AV.tup [])) T.e) (zl (AV.tup []))))))) ⟨zl (tsF t), 1, []⟩) Orc.z)) := by kernel_rfl
theorem ve_vc (t : TS) (l : Nat) (K : Res → Orc → Prop) : runK Try.prog 1000000 (.code (loopAt Try.prog 23 1) 106 (mkT [(1, .p 0 0), (3, .i .i64 (Int.ofNat l)), (4, .i .i64 3)]) (mkH [some (tsF t)])) (Orc.c Orc.z) K = (K (Res.st (XO.exit 2) (z0 (z1 (AV.p 0 0) (z1 (AV.i .i64 (Int.ofNat l)) (z0 (zl (AV.b false)) T.e) T.e) T.e) (z0 (zl (AV.i .i64 3)) (z0 T.e (zl (AV.i .i64 3))))) ⟨zl (tsF t), 1, []⟩) Orc.z) := by kernel_rfl
theorem vf_vc (t : TS) (l i n : Nat) (A M W : Nat → Int) (h1 : decide (Int.ofNat i < Int.ofNat n) = false) (K : Res → Orc → Prop) : runK Try.prog 1000000 (.code (loopAt Try.prog 23 2) 106 (mkT [(1, .p 0 0), (3, .i .i64 (Int.ofNat l)), (6, svN n A M W), (7, .i .i64 (Int.ofNat i))]) (mkH [some (tsF t)])) (Orc.f Orc.z) K = (decide (Int.ofNat i < Int.ofNat n) = false ∧ K (Res.st (XO.exit 4) (z0 (z1 (AV.p 0 0) (z1 (AV.i .i64 (Int.ofNat l)) (zl (AV.i .i64 (Int.ofNat i))) (z0 T.e (z0 (zl (AV.sv 3 n (qF A M W))) T.e))) (z0 T.e (z0 T.e (z0 (zl (AV.b (decide (Int.ofNat i < Int.ofNat n)))) T.e)))) (z0 (z0 T.e (z0 T.e (z0 (zl (AV.i .i64 (Int.ofNat n))) T.e))) (z1 (AV.sv 3 n (qF A M W)) (z0 T.e (z0 (zl (AV.i .i64 (Int.ofNat i))) T.e)) T.e))) ⟨zl (tsF t), 1, []⟩) Orc.z) := by kernel_rfl
theorem vRT_vc (t : TS) (l : Nat) (h1 : decide (Int.ofNat l < 19) = true) (K : Res → Orc → Prop) : runK Try.prog 1000000 (.code (loopAt Try.prog 23 0) 106 (mkT [(1, .p 0 0), (3, .i .i64 (Int.ofNat l))]) (mkH [some (tsF t)])) (Orc.t (Orc.lop [0] [1, 3, 4] 1 (XO.exit 2) [(1, AV.p 0 0), (3, AV.i .i64 (Int.ofNat l))] [some (tsF t)] (Orc.s (Orc.lop [0] [1, 3, 6, 7] 1 (XO.exit 4) [(1, AV.p 0 0), (3, AV.i .i64 (Int.ofNat l))] [some (tsF t)] Orc.z) Orc.z))) K = (decide (Int.ofNat l < 19) = true ∧ LDoes Try.prog (loopAt Try.prog 23 1) 106 1 (mkT [(1, AV.p 0 0), (3, AV.i .i64 (Int.ofNat l)), (4, AV.i .i64 0)]) [some (tsF t)] (XO.exit 2) (mkT [(1, AV.p 0 0), (3, AV.i .i64 (Int.ofNat l))]) [some (tsF t)] ∧ True ∧ (0 ≤ Int.ofNat l ∧ Int.ofNat l < 19) ∧ l < 19 ∧ LDoes Try.prog (loopAt Try.prog 23 2) 106 1 (mkT [(1, AV.p 0 0), (3, AV.i .i64 (Int.ofNat l)), (6, svN (TS.n t l) (TS.A t (Int.toNat
  (Int.ofNat l))) (TS.M t (Int.toNat (Int.ofNat l))) (TS.W t (Int.toNat (Int.ofNat l)))), (7, AV.i .i64 0)]) [some (tsF t)] (XO.exit 4) (mkT [(1, AV.p 0 0), (3, AV.i .i64 (Int.ofNat l))]) [some (tsF t)] ∧ ((-9223372036854775808) ≤ Int.ofNat l + 1 ∧ Int.ofNat l + (1 : Int) ≤ (9223372036854775807 : Int)) ∧ K (Res.st XO.nrm (z0 (z1 (AV.p 0 0) (zl (AV.i .i64 (Int.ofNat l + 1))) (z0 T.e (zl (AV.i .i64 (Int.ofNat l + 1))))) (z0 (z0 T.e (zl (AV.i .i64 (Int.ofNat l)))) T.e)) ⟨zl (tsF t), 1, [0, 0]⟩) Orc.z) := by kernel_rfl
theorem vRE_vc (t : TS) (K : Res → Orc → Prop) : runK Try.prog 1000000 (.code (loopAt Try.prog 23 0) 106 (mkT [(1, .p 0 0), (3, .i .i64 19)]) (mkH [some (tsF t)])) (Orc.c Orc.z) K = (K (Res.st (XO.exit 0) (z0 (z1 (AV.p 0 0) (z1 (AV.i .i64 19) T.e (zl (AV.b false))) T.e) (z0 T.e (z0 (zl (AV.i .i64 19)) T.e))) ⟨zl (tsF t), 1, []⟩) Orc.z) := by kernel_rfl
theorem v1_vc (t : TS) (V : AV) : runK Try.prog 1000000 (.call 23 [tsV t] (mkH [])) (Orc.c (Orc.lop [0] [1, 3] 1 (XO.exit 0) [] [some (tsF t)] Orc.z)) (fun r _ => rvIs V r) = (LDoes Try.prog (loopAt Try.prog 23 0) 106 1 (mkT [(1, AV.p 0 0), (3, AV.i .i64 0)]) [some (tsO t)] (XO.exit 0) (mkT []) [some (tsF t)] ∧ (AV.b true) = V) := by kernel_rfl
theorem lg_vc (t : TS) (vl : Bool) (l k : Int) (V : AV) : runK Try.prog 1000000 (.call 37 [tsV t, .i .i64 l, .i .i64 k] (mkH [])) (Orc.c (Orc.cal [] (AV.b vl) [] (Orc.s (Orc.t (Orc.t (Orc.s (Orc.t (Orc.t (Orc.s (Orc.t (Orc.t (Orc.s (Orc.t (Orc.t Orc.z)) (Orc.f (Orc.f Orc.z))))) (Orc.f (Orc.f (oc 3 Orc.z)))))) (Orc.f (Orc.f (oc 6 Orc.z)))))) (Orc.f (Orc.f (oc 9 Orc.z)))))) (fun r _ => rvIs V r) = (Con Try.prog 23 [tsV t] [] (AV.b vl) [] ∧ (vl = true → vl = true ∧ vl = true ∧ (decide (0 ≤ l) = true → decide (0 ≤ l) = true ∧ decide (0 ≤ l) = true ∧ (decide (l < 19) = true → decide (l < 19) = true ∧ decide (l < 19) = true ∧ (decide (0 ≤ k) = true → decide (0 ≤ k) = true ∧ decide (0 ≤ k) = true ∧ (AV.b (decide (k < 3))) = V) ∧ (decide (0 ≤ k) = false → decide (0 ≤ k) = false ∧ decide (0 ≤ k) = false ∧ (AV.b false) = V)) ∧ (decide (l < 19) = false → decide (l < 19) = false ∧ decide (l < 19) =
  false ∧ (AV.b false) = V)) ∧ (decide (0 ≤ l) = false → decide (0 ≤ l) = false ∧ decide (0 ≤ l) = false ∧ (AV.b false) = V)) ∧ (vl = false → vl = false ∧ vl = false ∧ (AV.b false) = V)) := by kernel_rfl
theorem goesB_canJ {h : Nat → Int} (hm : hmB h = true) {j : Nat} (hj : j < 3) : canB h (Int.ofNat j) (h j) = true ∧ 0 ≤ h j ∧ h j ≤ 2 := by
  rw [hm3_eq] at hm
  unfold hm3 at hm
  simp only [Bool.and_eq_true] at hm
  obtain ⟨⟨a, b, c⟩, d, e, f⟩ := hm
  have im : ∀ k : Int, isModeB k = true → 0 ≤ k ∧ k ≤ 2 := by
    intro k hk
    unfold isModeB isWishB at hk
    simp at hk
    omega
  rcases (show j = 0 ∨ j = 1 ∨ j = 2 by omega) with rfl | rfl | rfl
  · refine ⟨?_, im _ a⟩
    unfold canB
    rw [goesB_comm (h 0) (h 1), goesB_comm (h 0) (h 2), c, e]
    simp
  · refine ⟨?_, im _ b⟩
    unfold canB
    rw [goesB_comm (h 1) (h 2), c, f]
    simp
  · refine ⟨?_, im _ d⟩
    unfold canB
    rw [e, f]
    simp
theorem vsT_lp (s : LS) (l : Nat) (hl : l < 19) (hm : hmB (s.row l).h = true) : LDoes Try.prog (loopAt Try.prog 23 1) 106 1 (mkT [(1, .p 0 0), (3, .i .i64 (Int.ofNat l)), (4, .i .i64 0)]) [some (tsF s.ts)] (.exit 2) (mkT [(1, .p 0 0), (3, .i .i64 (Int.ofNat l))]) [some (tsF s.ts)] := by
  refine loop_ind (D := Nat) (fun j : Nat => ([(1, .p 0 0), (3, .i .i64 (Int.ofNat l)), (4, .i .i64 (Int.ofNat j))], [some (tsF s.ts)])) (fun j => 3 - j) (fun j => j ≤ 3) (fun j hj => ?_) 0 (by decide)
  refine ⟨Nat.le_refl _, ?_⟩
  by_cases e : j = 3
  · subst e
    exact ⟨_, _, (ve_vc s.ts l _).mpr (.inr ⟨[0], [], _, _, rfl, by simp, st_k [0] (by kernel_rfl)⟩)⟩
  have h1 : decide (Int.ofNat j < 3) = true := by simp <;> omega
  obtain ⟨g1, g2, g3⟩ := goesB_canJ hm (show j < 3 by omega)
  have q1 : (l * 3 + j) / 3 = l := by omega
  have q2 : (l * 3 + j) % 3 = j := by omega
  have f0 : TS.h s.ts ((l * 3 + j) / 3) ((l * 3 + j) % 3) = (s.row l).h j := by rw [q1, q2]; rfl
  have f1 : decide (TS.h s.ts ((l * 3 + j) / 3) ((l * 3 + j) % 3) < (0 : Int)) = false := by rw [f0]; exact decide_eq_false (by omega)
  have f2 : decide ((2 : Int) < TS.h s.ts ((l * 3 + j) / 3) ((l * 3 + j) % 3)) = false := by rw [f0]; exact decide_eq_false (by omega)
  have f1n : (!decide (TS.h s.ts ((l * 3 + j) / 3) ((l * 3 + j) % 3) < (0 : Int))) = true := by rw [f1]; rfl
  have f2n : (!decide ((2 : Int) < TS.h s.ts ((l * 3 + j) / 3) ((l * 3 + j) % 3))) = true := by rw [f2]; rfl
  have cn := can_con s l hl (Int.ofNat j) (TS.h s.ts ((l * 3 + j) / 3) ((l * 3 + j) % 3))
  have fcn : (!(fun a m => canB (s.row l).h a m) (Int.ofNat j) (TS.h s.ts ((l * 3 + j) / 3) ((l * 3 + j) % 3))) = false := by
    show (!canB (s.row l).h _ _) = false
    rw [f0, g1]; rfl
  refine ⟨_, _, (vs_vc s.ts (fun a m => canB (s.row l).h a m) l j h1 _).mpr ⟨h1, trivial, ⟨by simp, by simp <;> omega⟩, ⟨by simp, by simp <;> omega⟩, by omega, fun _ => ⟨f1n, f1, fun _ => ⟨trivial, f2n, f2n, f2n, f2n, cn, f2n, trivial, f2, fun h => Bool.noConfusion (fcn.symm.trans h), fun _ => ⟨⟨by simp <;> omega, by simp <;> omega⟩, .inl ⟨j + 1, [0], [], _, _, by omega, by show 3 - (j + 1) < 3 - j; omega, rfl, st_k [0] (by kernel_rfl)⟩⟩⟩, fun h => Bool.noConfusion (f2n.symm.trans h)⟩, fun h => Bool.noConfusion (f1n.symm.trans h)⟩⟩
theorem vqT_lp (s : LS) (l : Nat) (hl : l < 19) (ok : RowOk (s.row l)) (hn : (s.row l).q.length ≤ 1152921504606846976) : LDoes Try.prog (loopAt Try.prog 23 2) 106 1 (mkT [(1, .p 0 0), (3, .i .i64 (Int.ofNat l)), (6, svQ (s.row l).q), (7, .i .i64 0)]) [some (tsF s.ts)] (.exit 4) (mkT [(1, .p 0 0), (3, .i .i64 (Int.ofNat l))]) [some (tsF s.ts)] := by
  refine loop_ind (D := Nat) (fun i : Nat => ([(1, .p 0 0), (3, .i .i64 (Int.ofNat l)), (6, svQ (s.row l).q), (7, .i .i64 (Int.ofNat i))], [some (tsF s.ts)])) (fun i => (s.row l).q.length - i) (fun i => i ≤ (s.row l).q.length) (fun i hi => ?_) 0 (Nat.zero_le _)
  refine ⟨Nat.le_refl _, ?_⟩
  by_cases e : i = (s.row l).q.length
  · have h1 : decide (Int.ofNat i < Int.ofNat (s.row l).q.length) = false := by simp; omega
    exact ⟨_, _, (vf_vc s.ts l i _ (qA (s.row l).q) (qM (s.row l).q) (qW (s.row l).q) h1 _).mpr ⟨h1, .inr ⟨[0], [], _, _, rfl, by simp, st_k [0] (by kernel_rfl)⟩⟩⟩
  have hi' : i < (s.row l).q.length := by omega
  have h1 : decide (Int.ofNat i < Int.ofNat (s.row l).q.length) = true := by simp; omega
  obtain ⟨⟨a1, a2⟩, m1, hx1, w1⟩ := mw_iff.1 (ok.w.1.wait _ (List.getElem_mem hi'))
  have eA : qA (s.row l).q i = (s.row l).q[i].a := qA_lt hi'
  have eM : qM (s.row l).q i = (s.row l).q[i].m := qM_lt hi'
  have eW : qW (s.row l).q i = (s.row l).q[i].w := qW_lt hi'
  rw [← eA] at a1 a2 hx1
  rw [← eM] at m1 hx1
  rw [← eW] at w1
  have hfi := fi_self ok.w.1.once hi'
  have hii : inI (s.row l).q.length (qA (s.row l).q) (qA (s.row l).q i) = Int.ofNat i := by unfold inI; rw [hfi, if_pos hi']
  have k1 : decide (qA (s.row l).q i < (0 : Int)) = false := decide_eq_false (by omega)
  have k2 : decide ((3 : Int) ≤ qA (s.row l).q i) = false := decide_eq_false (by omega)
  have k3 : decide (qM (s.row l).q i < (1 : Int)) = false := decide_eq_false (by omega)
  have k4 : decide ((2 : Int) < qM (s.row l).q i) = false := decide_eq_false (by omega)
  have k5 : (!decide (qW (s.row l).q i = (0 : Int))) = false := by rw [decide_eq_true w1]; rfl
  have k6 : (!decide (inI (s.row l).q.length (qA (s.row l).q) (qA (s.row l).q i) = Int.ofNat i)) = false := by rw [decide_eq_true hii]; rfl
  have f0 : TS.h s.ts ((l * 3 + Int.toNat (qA (s.row l).q i)) / 3) ((l * 3 + Int.toNat (qA (s.row l).q i)) % 3) = hx (s.row l).h (qA (s.row l).q i) := by
    rw [show (l * 3 + Int.toNat (qA (s.row l).q i)) / 3 = l by omega, show (l * 3 + Int.toNat (qA (s.row l).q i)) % 3 = Int.toNat (qA (s.row l).q i) by omega]
    show (s.row l).h _ = _
    rcases three ⟨a1, a2⟩ with c | c | c <;> rw [c] <;> rfl
  have k7 : decide (qM (s.row l).q i ≤ TS.h s.ts ((l * 3 + Int.toNat (qA (s.row l).q i)) / 3) ((l * 3 + Int.toNat (qA (s.row l).q i)) % 3)) = false := by rw [f0]; exact decide_eq_false (by omega)
  have n1 : (!decide (qA (s.row l).q i < (0 : Int))) = true := by rw [k1]; rfl
  have n2 : (!decide ((3 : Int) ≤ qA (s.row l).q i)) = true := by rw [k2]; rfl
  have n3 : (!decide (qM (s.row l).q i < (1 : Int))) = true := by rw [k3]; rfl
  have n4 : (!decide ((2 : Int) < qM (s.row l).q i)) = true := by rw [k4]; rfl
  have n5 : (!!decide (qW (s.row l).q i = (0 : Int))) = true := by rw [k5]; rfl
  have n7 : (!decide (qM (s.row l).q i ≤ TS.h s.ts ((l * 3 + Int.toNat (qA (s.row l).q i)) / 3) ((l * 3 + Int.toNat (qA (s.row l).q i)) % 3))) = true := by rw [k7]; rfl
  have c1 := in_con (s.row l).q.length (qA (s.row l).q) (qM (s.row l).q) (qW (s.row l).q) (qA (s.row l).q i) hn
  have c2 := can_con s l hl (qA (s.row l).q i) (qM (s.row l).q i)
  have bi : (0 : Int) ≤ Int.ofNat i ∧ Int.ofNat i < ((s.row l).q.length : Int) := ⟨by simp, by simp <;> omega⟩
  have ov : (-9223372036854775808 : Int) ≤ Int.ofNat i + (1 : Int) ∧ Int.ofNat i + (1 : Int) ≤ (9223372036854775807 : Int) := ⟨by simp <;> omega, by simp <;> omega⟩
  refine ⟨_, _, (vq_vc s.ts (fun a m => canB (s.row l).h a m) (fun k => inI (s.row l).q.length (qA (s.row l).q) k) l i _ (qA (s.row l).q) (qM (s.row l).q) (qW (s.row l).q) h1 _).mpr ⟨h1, bi, trivial, trivial, bi, trivial, trivial, fun _ => ⟨n1, k1, fun _ => ⟨n2, k2, fun _ => ⟨n3, k3, fun _ => ⟨n4, n4, bi, n4, trivial, n4, trivial, n4, k4, fun _ => ⟨n5, n5, c1, n5, n5, k5, fun h => Bool.noConfusion (k6.symm.trans h), fun _ => ⟨trivial, ⟨by simp, by simp <;> omega⟩, ⟨a1, a2⟩, by omega, fun _ => ⟨n7, n7, fun z => ⟨trivial, z, z, z, z, c2, n7, z, k7, fun h => ?_, fun _ => ⟨ov, .inl ⟨i + 1, [0], [], _, _, by omega, by show _ - (i + 1) < _ - i; omega, rfl, st_k [0] (by kernel_rfl)⟩⟩⟩, fun z => ⟨z, z, z, z, n7, z, k7, ov, .inl ⟨i + 1, [0], [], _, _, by omega, by show _ - (i + 1) < _ - i; omega, rfl, st_k [0] (by kernel_rfl)⟩⟩⟩, fun h => Bool.noConfusion (n7.symm.trans h)⟩⟩, fun h => Bool.noConfusion (n5.symm.trans h)⟩, fun h => Bool.noConfusion (n4.symm.trans h)⟩, fun h => Bool.noConfusion (n3.symm.trans h)⟩, fun h => Bool.noConfusion (n2.symm.trans h)⟩, fun h => Bool.noConfusion (n1.symm.trans h)⟩⟩
  have z0 : i = 0 := by simpa using z
  subst z0
  have hst : canB (s.row l).h (qA (s.row l).q 0) (qM (s.row l).q 0) = false := by
    cases hq : (s.row l).q with
    | nil => rw [hq] at hi'; exact absurd hi' (by simp)
    | cons x q => exact ok.stuck x q hq
  exact Bool.noConfusion (hst.symm.trans h)
theorem rvT_lp (s : LS) (ok : s.ok) (v : vaS s = true) : LDoes Try.prog (loopAt Try.prog 23 0) 106 1 (mkT [(1, .p 0 0), (3, .i .i64 0)]) [some (tsO s.ts)] (.exit 0) (mkT []) [some (tsF s.ts)] := by
  have key := loop_ind (P := Try.prog) (c := loopAt Try.prog 23 0) (n := 106) (b := 1) (x := .exit 0) (l' := []) (objs' := [some (tsF s.ts)]) (D := Nat) (fun l : Nat => ([(1, .p 0 0), (3, .i .i64 (Int.ofNat l))], [some (tsF s.ts)])) (fun l => 19 - l) (fun l => l ≤ 19) (fun l hl => ?_) 0 (Nat.zero_le _)
  · exact key.ovl (objs0 := [some (tsO s.ts)]) ⟨OV.trans (tsZ_ov [] s.ts) (tsS_F s.ts), trivial⟩
  refine ⟨Nat.le_refl _, ?_⟩
  by_cases e : l = 19
  · subst e
    exact ⟨_, _, (vRE_vc s.ts _).mpr (.inr ⟨[0], [], _, _, rfl, by simp, st_k [0] (by kernel_rfl)⟩)⟩
  have h1 : decide (Int.ofNat l < 19) = true := by simp <;> omega
  have rk := mayB_ok (va_row v (show l < 19 by omega))
  exact ⟨_, _, (vRT_vc s.ts l h1 _).mpr ⟨h1, vsT_lp s l (by omega) rk.hm, trivial, ⟨by simp, by simp <;> omega⟩, by omega, vqT_lp s l (by omega) rk (by have := ok.q l; have e : s.ts.n l = (s.row l).q.length := rfl; omega), ⟨by simp <;> omega, by simp <;> omega⟩, .inl ⟨l + 1, [0], [], _, _, by omega, by show 19 - (l + 1) < 19 - l; omega, rfl, st_k [0] (by kernel_rfl)⟩⟩⟩
theorem rvalid_con (s : LS) (ok : s.ok) (v : vaS s = true) : Con Try.prog 23 [lsV s] [] (.b true) [] :=
  con_pureX (v1_vc s.ts _) rfl ⟨rvT_lp s ok v, rfl⟩
theorem rlegal_con (s : LS) (ok : s.ok) (v : vaS s = true) (l k : Int) : Con Try.prog 37 [lsV s, .i .i64 l, .i .i64 k] [] (.b (isLockB l && isServerB k)) [] := by
  refine con_pureX (lg_vc s.ts true l k _) rfl ⟨rvalid_con s ok v, fun _ => ⟨rfl, rfl, fun a => ⟨a, a, fun b => ⟨b, b, fun c => ⟨c, c, ?_⟩, fun c => ⟨c, c, ?_⟩⟩, fun b => ⟨b, b, ?_⟩⟩, fun a => ⟨a, a, ?_⟩⟩, fun h => Bool.noConfusion h⟩
  all_goals (unfold isLockB isServerB; simp_all <;> omega)
theorem onE_vc (t : TS) (l : Nat) (h1 : decide (0 < Int.ofNat (t.n l)) = false) (K : Res → Orc → Prop) : runK Try.prog 1000000 (.code (loopAt Try.prog 39 0) 45 (mkT [(1, .i .i64 (Int.ofNat l)), (2, .p 0 0), (4, .p 1 0)]) (mkH [some (tsF t), some tzO])) (Orc.s (Orc.f Orc.z) Orc.z) K = (True ∧ (0 ≤ Int.ofNat l ∧ Int.ofNat l < 19) ∧ l < 19 ∧ decide (0 < Int.ofNat (TS.n t l)) = false ∧ K (Res.st (XO.exit 0) (z0 (z1 (AV.i .i64 (Int.ofNat l)) (z0 (zl (AV.p 0 101)) (zl (AV.b (decide (0 < Int.ofNat (TS.n t l)))))) (z0 (zl (AV.sv 3 (TS.n t l) (qF (TS.A t (Int.toNat (Int.ofNat l))) (TS.M t (Int.toNat (Int.ofNat l))) (TS.W t (Int.toNat (Int.ofNat l)))))) T.e)) (z1 (AV.p 0 0) (z1 (AV.p 1 0) (zl (AV.ps 0 101 1 19 l)) T.e) (z1 (AV.i .i64 (Int.ofNat l)) (zl (AV.i .i64 (Int.ofNat (TS.n t l)))) T.e))) ⟨z1 (tsF t) (zl (tzO)) T.e, 2, []⟩) Orc.z) := by kernel_rfl
theorem onT_vc (t : TS) (cn : Bool) (l : Nat) (h1 : decide (0 < Int.ofNat (t.n l)) = true) (h2 : (!cn) = false) (K : Res → Orc → Prop) : runK Try.prog 1000000 (.code (loopAt Try.prog 39 0) 45 (mkT [(1, .i .i64 (Int.ofNat l)), (2, .p 0 0), (4, .p 1 0)]) (mkH [some (tsF t), some tzO])) (Orc.s (Orc.t (Orc.s (Orc.cal [] (AV.b cn) [] (Orc.f (Orc.s (Orc.s (Orc.s (Orc.cal [] (AV.sv 3 (TS.n t l - 1) (shiftF 1 (qF (TS.A t (Int.toNat (Int.ofNat l))) (TS.M t (Int.toNat (Int.ofNat l))) (TS.W t (Int.toNat (Int.ofNat l)))))) [] (Orc.s Orc.z Orc.z)) Orc.z) Orc.z) Orc.z))) Orc.z)) Orc.z) K = (True ∧ (0 ≤ Int.ofNat l ∧ Int.ofNat l < 19) ∧ l < 19 ∧ decide (0 < Int.ofNat (TS.n t l)) = true ∧ True ∧ (0 ≤ Int.ofNat l ∧ Int.ofNat l < 19) ∧ l < 19 ∧ ((0 : Int) ≤ (0 : Int) ∧ (0 : Int) < ↑(TS.n t l)) ∧ True ∧ True ∧ True ∧ True ∧ Con Try.prog 40 [tsV t, AV.i .i64 (Int.ofNat l), AV.i .i64 (TS.A t l 0), AV.i .i64
  (TS.M t l 0)] [] (AV.b cn) [] ∧ True ∧ (!cn) = false ∧ True ∧ True ∧ True ∧ (0 ≤ Int.ofNat l ∧ Int.ofNat l < 19) ∧ (0 ≤ TS.A t l 0 ∧ TS.A t l 0 < 3) ∧ l * 3 + Int.toNat (TS.A t l 0) < 57 ∧ True ∧ (0 ≤ Int.ofNat l ∧ Int.ofNat l < 19) ∧ l < 19 ∧ ((0 : Int) ≤ (1 : Int) ∧ True ∧ 1 ≤ TS.n t l ∧ TS.n t l ≤ TS.n t l) ∧ Con Try.prog 50 [AV.sv 3 (TS.n t l - 1) (shiftF 1 (qF (TS.A t (Int.toNat (Int.ofNat l))) (TS.M t (Int.toNat (Int.ofNat l))) (TS.W t (Int.toNat (Int.ofNat l)))))] [] (AV.sv 3 (TS.n t l - 1) (shiftF 1 (qF (TS.A t (Int.toNat (Int.ofNat l))) (TS.M t (Int.toNat (Int.ofNat l))) (TS.W t (Int.toNat (Int.ofNat l)))))) [] ∧ True ∧ (0 ≤ Int.ofNat l ∧ Int.ofNat l < 19) ∧ l < 19 ∧ K (Res.st XO.nrm (z0 (z1 (AV.i .i64 (Int.ofNat l)) (z0 (z1 (AV.p 0 101) (z1 (AV.sv 3 (TS.n t l) (qF (TS.A t (Int.toNat (Int.ofNat l))) (TS.M t (Int.toNat (Int.ofNat l))) (TS.W t (Int.toNat (Int.ofNat l))))) (zl
  (AV.i .i64 (TS.M t l 0))) T.e) (z1 (AV.i .i64 (TS.M t l 0)) (zl (AV.sv 3 (TS.n t l) (qF (TS.A t (Int.toNat (Int.ofNat l))) (TS.M t (Int.toNat (Int.ofNat l))) (TS.W t (Int.toNat (Int.ofNat l)))))) T.e)) (z1 (AV.b (decide (0 < Int.ofNat (TS.n t l)))) (z1 (AV.i .i64 (Int.ofNat l)) (zl (AV.i .i64 (Int.ofNat l))) T.e) (z1 (AV.i .i64 (Int.ofNat l)) (zl (AV.ps 0 101 1 19 l)) T.e))) (z1 (AV.p 2 0) (z1 (AV.sv 3 (TS.n t l) (qF (TS.A t (Int.toNat (Int.ofNat l))) (TS.M t (Int.toNat (Int.ofNat l))) (TS.W t (Int.toNat (Int.ofNat l))))) (z1 (AV.agg [AV.i .i64 (TS.A t l 0), AV.i .i64 (TS.M t l 0), AV.i .i64 (TS.W t l 0)]) (zl (AV.ps 0 44 3 19 l)) T.e) (z1 (AV.b !cn) (zl (AV.sv 3 (TS.n t l - 1) (shiftF 1 (qF (TS.A t (Int.toNat (Int.ofNat l))) (TS.M t (Int.toNat (Int.ofNat l))) (TS.W t (Int.toNat (Int.ofNat l))))))) T.e)) (z1 (AV.p 0 101) (z1 (AV.i .i64 (TS.A t l 0)) (zl (AV.p 0 101)) T.e) (zl (AV.i .i64
  (TS.A t l 0)))))) (z1 (AV.p 0 0) (z1 (AV.p 1 0) (z1 (AV.ps 0 101 1 19 l) (z1 (AV.pv 3 (qF (TS.A t (Int.toNat (Int.ofNat l))) (TS.M t (Int.toNat (Int.ofNat l))) (TS.W t (Int.toNat (Int.ofNat l))) 0)) (zl (AV.p 0 44)) T.e) (z1 (AV.b cn) (zl (AV.sv 3 (TS.n t l - 1) (shiftF 1 (qF (TS.A t (Int.toNat (Int.ofNat l))) (TS.M t (Int.toNat (Int.ofNat l))) (TS.W t (Int.toNat (Int.ofNat l))))))) T.e)) (z1 (AV.i .i64 (Int.ofNat l)) (z1 (AV.p 2 0) (zl (AV.i .i64 (Int.ofNat l))) T.e) (zl (AV.p 2 0)))) (z1 (AV.i .i64 (Int.ofNat l)) (z1 (AV.i .i64 (Int.ofNat (TS.n t l))) (z1 (tsV t) (zl (AV.ps 0 44 1 57 (l * 3 + Int.toNat (TS.A t l 0)))) T.e) (z0 (zl (AV.p 0 101)) T.e)) (z1 (AV.ps 0 101 1 19 l) (z1 (AV.p 2 1) (zl (AV.ps 0 101 1 19 l)) T.e) (zl (AV.p 2 1)))))) ⟨z1 (AObj.segs 39 120 [⟨0, 1, 44, fun i x => rsF (TS.r t) i⟩, ⟨44, 1, 57, setRow (fun i x => hF (TS.h t) (i / 3) (i % 3)) (l * 3 + Int.toNat (TS.A
  t l 0)) 0 [CV.i .i64 (TS.M t l 0)]⟩, ⟨101, 1, 19, setRow (fun l x => quF (TS.n t) (TS.A t) (TS.M t) (TS.W t) l) l 0 [CV.sv 3 (TS.n t l - 1) (shiftF 1 (qF (TS.A t (Int.toNat (Int.ofNat l))) (TS.M t (Int.toNat (Int.ofNat l))) (TS.W t (Int.toNat (Int.ofNat l)))))]⟩]) (zl (tzO)) (zl (AObj.cells 61 3 [AV.i .i64 0, AV.i .i64 0, AV.i .i64 0] (z1 (AV.i .i64 (TS.A t l 0)) (zl (AV.i .i64 (TS.M t l 0))) (zl (AV.i .i64 (TS.W t l 0)))))), 3, [0, 0, 2, 2]⟩) Orc.z) := by kernel_rfl
theorem onF_vc (t : TS) (cn : Bool) (l : Nat) (h1 : decide (0 < Int.ofNat (t.n l)) = true) (h2 : (!cn) = true) (K : Res → Orc → Prop) : runK Try.prog 1000000 (.code (loopAt Try.prog 39 0) 45 (mkT [(1, .i .i64 (Int.ofNat l)), (2, .p 0 0), (4, .p 1 0)]) (mkH [some (tsF t), some tzO])) (Orc.s (Orc.t (Orc.s (Orc.cal [] (AV.b cn) [] (Orc.t Orc.z)) Orc.z)) Orc.z) K = (True ∧ (0 ≤ Int.ofNat l ∧ Int.ofNat l < 19) ∧ l < 19 ∧ decide (0 < Int.ofNat (TS.n t l)) = true ∧ True ∧ (0 ≤ Int.ofNat l ∧ Int.ofNat l < 19) ∧ l < 19 ∧ ((0 : Int) ≤ (0 : Int) ∧ (0 : Int) < ↑(TS.n t l)) ∧ True ∧ True ∧ True ∧ True ∧ Con Try.prog 40 [tsV t, AV.i .i64 (Int.ofNat l), AV.i .i64 (TS.A t l 0), AV.i .i64 (TS.M t l 0)] [] (AV.b cn) [] ∧ True ∧ (!cn) = true ∧ True ∧ K (Res.st XO.ret (z0 (z1 (AV.i .i64 (Int.ofNat l)) (z0 (z1 (AV.p 0 101) (zl (AV.sv 3 (TS.n t l) (qF (TS.A t (Int.toNat (Int.ofNat l))) (TS.M t (Int.toNat
  (Int.ofNat l))) (TS.W t (Int.toNat (Int.ofNat l)))))) (zl (AV.i .i64 (TS.M t l 0)))) (z1 (AV.b (decide (0 < Int.ofNat (TS.n t l)))) (zl (AV.i .i64 (Int.ofNat l))) T.e)) (z1 (AV.p 2 0) (z1 (AV.sv 3 (TS.n t l) (qF (TS.A t (Int.toNat (Int.ofNat l))) (TS.M t (Int.toNat (Int.ofNat l))) (TS.W t (Int.toNat (Int.ofNat l))))) (zl (AV.agg [AV.i .i64 (TS.A t l 0), AV.i .i64 (TS.M t l 0), AV.i .i64 (TS.W t l 0)])) (zl (AV.b !cn))) (z1 (AV.p 0 101) (zl (AV.i .i64 (TS.A t l 0))) T.e))) (z1 (AV.p 0 0) (z1 (AV.p 1 0) (z1 (AV.ps 0 101 1 19 l) (zl (AV.pv 3 (qF (TS.A t (Int.toNat (Int.ofNat l))) (TS.M t (Int.toNat (Int.ofNat l))) (TS.W t (Int.toNat (Int.ofNat l))) 0))) (zl (AV.b cn))) (z1 (AV.i .i64 (Int.ofNat l)) (zl (AV.p 2 0)) T.e)) (z1 (AV.i .i64 (Int.ofNat l)) (z1 (AV.i .i64 (Int.ofNat (TS.n t l))) (zl (tsV t)) (zl (tsV t))) (z1 (AV.ps 0 101 1 19 l) (zl (AV.p 2 1)) T.e)))) ⟨z1 (tsF t) (zl (tsZ t))
  (zl (AObj.cells 61 3 [AV.i .i64 0, AV.i .i64 0, AV.i .i64 0] (z1 (AV.i .i64 (TS.A t l 0)) (zl (AV.i .i64 (TS.M t l 0))) (zl (AV.i .i64 (TS.W t l 0)))))), 3, [1, 2, 2]⟩) Orc.z) := by kernel_rfl
theorem on1_vc (t : TS) (t1 : TS) (l : Nat) (V : AV) : runK Try.prog 1000000 (.call 39 [tsV t, .i .i64 (Int.ofNat l)] (mkH [])) (Orc.c (Orc.lop [0, 1] [1, 2, 4] 2 (XO.exit 0) [(2, AV.p 0 0), (4, AV.p 1 0)] [some (tsF t1), some tzO] Orc.z)) (fun r _ => rvIs V r) = (LDoes Try.prog (loopAt Try.prog 39 0) 45 2 (mkT [(1, AV.i .i64 (Int.ofNat l)), (2, AV.p 0 0), (4, AV.p 1 0)]) [some (tsO t), some tzO] (XO.exit 0) (mkT [(2, AV.p 0 0), (4, AV.p 1 0)]) [some (tsF t1), some tzO] ∧ True ∧ (tsV t1) = V) := by kernel_rfl
theorem on2_vc (t : TS) (t1 : TS) (l : Nat) (V : AV) : runK Try.prog 1000000 (.call 39 [tsV t, .i .i64 (Int.ofNat l)] (mkH [])) (Orc.c (Orc.lop [0, 1] [1, 2, 4] 2 XO.ret [(4, AV.p 1 0)] [some (tsF t1), some (tsZ t1)] Orc.z)) (fun r _ => rvIs V r) = (LDoes Try.prog (loopAt Try.prog 39 0) 45 2 (mkT [(1, AV.i .i64 (Int.ofNat l)), (2, AV.p 0 0), (4, AV.p 1 0)]) [some (tsO t), some tzO] XO.ret (mkT [(4, AV.p 1 0)]) [some (tsF t1), some (tsZ t1)] ∧ (tsV t1) = V) := by kernel_rfl
theorem zip_CW (c : Bool) : ∀ (a b : CV), CW (zipCV c a b) (bif c then a else b) := by
  intro a
  induction a with
  | sv sz n f ih =>
    intro b
    cases b <;> try exact .refl _
    rename_i sz' n' f'
    simp only [zipCV]
    split
    · rename_i e
      have e' := Nat.eq_of_beq_eq_true e
      subst e'
      cases c with
      | true => exact .sv fun i j _ _ => ih i j _
      | false => exact .sv fun i j _ _ => ih i j _
    · exact .refl _
  | i k n =>
    intro b
    cases b <;> try exact .refl _
    rename_i k' n'
    simp only [zipCV]
    split
    · rename_i e
      simp at e; subst e
      cases c <;> exact .refl _
    · exact .refl _
  | opv b0 sz f ih =>
    intro b
    cases b with
    | opv b1 sz' f' =>
      simp only [zipCV]
      split
      · rename_i e
        have e' := Nat.eq_of_beq_eq_true e
        subst e'
        cases c with
        | true => exact .opv fun _ j _ => ih j _
        | false => exact .opv fun _ j _ => ih j _
      · exact .refl _
    | p0 =>
      cases c with
      | true => exact .refl _
      | false => intro ro v h; cases h; exact .p0
    | _ => exact .refl _
  | b x => intro b; cases b <;> cases c <;> exact .refl _
  | s x => intro b; cases b <;> cases c <;> exact .refl _
  | p0 => intro b; cases b <;> cases c <;> exact .refl _
  | m0 => intro b; cases b <;> cases c <;> exact .refl _
  | f0 => intro b; cases b <;> cases c <;> exact .refl _
  | if0 => intro b; cases b <;> cases c <;> exact .refl _
  | ifc t x ih => intro b; cases b <;> cases c <;> exact .refl _
def goS (s : LS) (l : Nat) (q : List HQ) : LS := s.set l ⟨setH (s.row l).h (qA (s.row l).q 0) (qM (s.row l).q 0), q⟩
theorem qF_cons (x : HQ) (q : List HQ) (i j : Nat) : shiftF 1 (qF (qA (x :: q)) (qM (x :: q)) (qW (x :: q))) i j = qF (qA q) (qM q) (qW q) i j := by
  rw [shiftF_eq, Nat.add_comm]; rfl
theorem go_ov (s : LS) (l : Nat) (hl : l < 19) {x : HQ} {q : List HQ} (e : (s.row l).q = x :: q) (ha : 0 ≤ x.a ∧ x.a < 3) : SegsW [⟨0, 1, 44, fun i _ => rsF s.ts.r i⟩, ⟨44, 1, 57, setRow (fun i _ => hF s.ts.h (i / 3) (i % 3)) (l * 3 + Int.toNat (s.ts.A l 0)) 0 [.i .i64 (s.ts.M l 0)]⟩, ⟨101, 1, 19, setRow (fun l _ => quF s.ts.n s.ts.A s.ts.M s.ts.W l) l 0 [.sv 3 (s.ts.n l - 1) (shiftF 1 (qF (s.ts.A (Int.toNat (Int.ofNat l))) (s.ts.M (Int.toNat (Int.ofNat l))) (s.ts.W (Int.toNat (Int.ofNat l)))))]⟩] [⟨0, 1, 44, fun i _ => rsF (goS s l q).ts.r i⟩, ⟨44, 1, 57, fun i _ => hF (goS s l q).ts.h (i / 3) (i % 3)⟩, ⟨101, 1, 19, fun l' _ => quF (goS s l q).ts.n (goS s l q).ts.A (goS s l q).ts.M (goS s l q).ts.W l'⟩] := by
  have eA : s.ts.A l 0 = x.a := by show qA (s.row l).q 0 = _; rw [e]; rfl
  have eA' : qA (s.row l).q 0 = x.a := eA
  refine ⟨SegW.refl _, ⟨rfl, rfl, rfl, fun i j hi hj => ?_⟩, ⟨rfl, rfl, rfl, fun i j hi hj => ?_⟩, trivial⟩
  · have j0 : j = 0 := by simp only at hj; omega
    subst j0
    refine .of ?_
    show CV.i .i64 (bif Nat.beq i (l * 3 + Int.toNat (s.ts.A l 0)) then s.ts.M l 0 else (s.row (i / 3)).h (i % 3)) = .i .i64 (((bif Nat.beq (i / 3) l then (⟨setH (s.row l).h (qA (s.row l).q 0) (qM (s.row l).q 0), q⟩ : Rw) else s.row (i / 3)) : Rw).h (i % 3))
    rw [eA, eA']
    congr 1
    by_cases c : i / 3 = l
    · have b1 : Nat.beq (i / 3) l = true := by rw [Nat.beq_eq]; exact c
      rw [b1, cond_true]
      show _ = setH _ _ _ _
      unfold setH
      by_cases c2 : i = l * 3 + x.a.toNat
      · have b2 : Nat.beq i (l * 3 + x.a.toNat) = true := by rw [Nat.beq_eq]; exact c2
        have b3 : Nat.beq x.a.toNat (i % 3) = true := by rw [Nat.beq_eq]; omega
        rw [b2, b3]; rfl
      · have b2 : Nat.beq i (l * 3 + x.a.toNat) = false := by rw [Bool.eq_false_iff, ne_eq, Nat.beq_eq]; exact c2
        have b3 : Nat.beq x.a.toNat (i % 3) = false := by rw [Bool.eq_false_iff, ne_eq, Nat.beq_eq]; omega
        rw [b2, b3, cond_false, cond_false, c]
    · have b1 : Nat.beq (i / 3) l = false := by rw [Bool.eq_false_iff, ne_eq, Nat.beq_eq]; exact c
      have b2 : Nat.beq i (l * 3 + x.a.toNat) = false := by rw [Bool.eq_false_iff, ne_eq, Nat.beq_eq]; omega
      rw [b1, b2]; rfl
  · have j0 : j = 0 := by simp only at hj; omega
    subst j0
    refine (zip_CW _ _ _).trans ?_
    by_cases c : i = l
    · subst c
      have b1 : Nat.beq i i = true := by rw [Nat.beq_eq]
      rw [b1, cond_true]
      have er : (goS s i q).row i = ⟨setH (s.row i).h (qA (s.row i).q 0) (qM (s.row i).q 0), q⟩ := by
        show (bif Nat.beq i i then _ else _) = _
        rw [b1]; rfl
      show CW _ (.sv 3 ((goS s i q).row i).q.length (qF (qA ((goS s i q).row i).q) (qM ((goS s i q).row i).q) (qW ((goS s i q).row i).q)))
      rw [er]
      show CW (.sv 3 ((s.row i).q.length - 1) (shiftF 1 (qF (qA (s.row i).q) (qM (s.row i).q) (qW (s.row i).q)))) _
      rw [e]
      exact .sv fun a b _ _ => .of (qF_cons x q a b)
    · have b1 : Nat.beq i l = false := by rw [Bool.eq_false_iff, ne_eq, Nat.beq_eq]; exact c
      rw [b1, cond_false]
      have er : (goS s l q).row i = s.row i := by
        show (bif Nat.beq i l then _ else _) = _
        rw [b1]; rfl
      show CW _ (.sv 3 ((goS s l q).row i).q.length (qF (qA ((goS s l q).row i).q) (qM ((goS s l q).row i).q) (qW ((goS s l q).row i).q)))
      rw [er]
      exact .refl _
structure Onv (s : LS) (l : Nat) (d : LS) : Prop where
  r : d.r = s.r
  row : ∀ j, j ≠ l → d.row j = s.row j
  go : goL (d.row l).h (d.row l).q = goL (s.row l).h (s.row l).q
  ok : d.ok
  qok : ∀ x ∈ (d.row l).q, 0 ≤ x.a ∧ x.a < 3
theorem Onv.fin {s : LS} {l : Nat} {d : LS} (v : Onv s l d) (e : goL (d.row l).h (d.row l).q = d.row l) : d = s.set l (onR (s.row l)) := by
  obtain ⟨dr, drow⟩ := d
  have h1 := v.r
  simp only at h1; subst h1
  unfold LS.set
  congr 1
  funext j
  by_cases c : j = l
  · subst c
    have b1 : Nat.beq j j = true := by rw [Nat.beq_eq]
    rw [b1, cond_true]
    show drow j = goL (s.row j).h (s.row j).q
    rw [← v.go]; exact e.symm
  · have b1 : Nat.beq j l = false := by rw [Bool.eq_false_iff, ne_eq, Nat.beq_eq]; exact c
    rw [b1, cond_false]
    exact v.row j c
theorem Onv.step {s : LS} {l : Nat} {d : LS} (v : Onv s l d) {x : HQ} {q : List HQ} (e : (d.row l).q = x :: q) (c : canB (d.row l).h x.a x.m = true) : Onv s l (goS d l q) := by
  have b1 : Nat.beq l l = true := by rw [Nat.beq_eq]
  have er : (goS d l q).row l = ⟨setH (d.row l).h (qA (d.row l).q 0) (qM (d.row l).q 0), q⟩ := by
    show (bif Nat.beq l l then _ else _) = _
    rw [b1]; rfl
  have en : ∀ j, j ≠ l → (goS d l q).row j = d.row j := by
    intro j c
    show (bif Nat.beq j l then _ else _) = _
    rw [show Nat.beq j l = false by rw [Bool.eq_false_iff, ne_eq, Nat.beq_eq]; exact c]; rfl
  refine ⟨v.r, fun j hj => (en j hj).trans (v.row j hj), ?_, ⟨v.ok.m, v.ok.s, fun j => ?_⟩, ?_⟩
  · rw [er, ← v.go, e, goL_cons, c]; rfl
  · show ((goS d l q).row j).q.length ≤ _
    by_cases c : j = l
    · subst c
      rw [er]
      have := v.ok.q j
      have e2 : d.ts.n j = (d.row j).q.length := rfl
      rw [e2, e] at this
      simp at this ⊢; omega
    · rw [en j c]; exact v.ok.q j
  · rw [er]
    intro y hy
    exact v.qok y (by rw [e]; exact List.mem_cons_of_mem _ hy)
theorem on_b (s : LS) (l : Nat) (hl : l < 19) {x : HQ} {q : List HQ} (e : (s.row l).q = x :: q) : decide (0 < Int.ofNat (s.ts.n l)) = true := by
  have e2 : s.ts.n l = (s.row l).q.length := rfl
  rw [e2, e]; simp <;> omega
theorem on_n (s : LS) (l : Nat) (e : (s.row l).q = []) : decide (0 < Int.ofNat (s.ts.n l)) = false := by
  have e2 : s.ts.n l = (s.row l).q.length := rfl
  rw [e2, e]; rfl
theorem onc_con (s : LS) (ok : s.ok) (l : Nat) : Con Try.prog 50 [.sv 3 (s.ts.n l - 1) (shiftF 1 (qF (s.ts.A (Int.toNat (Int.ofNat l))) (s.ts.M (Int.toNat (Int.ofNat l))) (s.ts.W (Int.toNat (Int.ofNat l)))))] [] (.sv 3 (s.ts.n l - 1) (shiftF 1 (qF (s.ts.A (Int.toNat (Int.ofNat l))) (s.ts.M (Int.toNat (Int.ofNat l))) (s.ts.W (Int.toNat (Int.ofNat l)))))) [] :=
  c50_con (s.ts.n l - 1) (fun i => s.ts.A l (1 + i)) (fun i => s.ts.M l (1 + i)) (fun i => s.ts.W l (1 + i)) (by have := ok.q l; omega)
theorem canX_con (s : LS) (l : Nat) (hl : l < 19) : Con Try.prog 40 [tsV s.ts, .i .i64 (Int.ofNat l), .i .i64 (s.ts.A l 0), .i .i64 (s.ts.M l 0)] [] (.b (canB (s.row l).h (qA (s.row l).q 0) (qM (s.row l).q 0))) [] :=
  can_con s l hl _ _
theorem on1_lp (s : LS) (l : Nat) (hl : l < 19) (ok : s.ok) (hq : ∀ x ∈ (s.row l).q, 0 ≤ x.a ∧ x.a < 3) (hf : (goL (s.row l).h (s.row l).q).q = []) : LDoes Try.prog (loopAt Try.prog 39 0) 45 2 (mkT [(1, .i .i64 (Int.ofNat l)), (2, .p 0 0), (4, .p 1 0)]) [some (tsO s.ts), some tzO] (.exit 0) (mkT [(2, .p 0 0), (4, .p 1 0)]) [some (tsF (s.set l (onR (s.row l))).ts), some tzO] := by
  have key := loop_indV (P := Try.prog) (c := loopAt Try.prog 39 0) (n := 45) (b := 2) (x := .exit 0) (l' := [(2, .p 0 0), (4, .p 1 0)]) (objs' := [some (tsF (s.set l (onR (s.row l))).ts), some tzO]) (D := LS) (fun d : LS => ([(1, .i .i64 (Int.ofNat l)), (2, .p 0 0), (4, .p 1 0)], [some (tsF d.ts), some tzO])) (fun d => (d.row l).q.length) (Onv s l) (fun d v => ?_) s ⟨rfl, fun _ _ => rfl, rfl, ok, hq⟩
  · exact key.ovl (objs0 := [some (tsO s.ts), some tzO]) ⟨OV.trans (tsZ_ov [] s.ts) (tsS_F s.ts), .refl _, trivial⟩
  refine ⟨Nat.le_refl _, ?_⟩
  have bl : (0 : Int) ≤ Int.ofNat l ∧ Int.ofNat l < 19 := ⟨by simp, by simp <;> omega⟩
  cases e : (d.row l).q with
  | nil =>
    have fin := v.fin (by rw [e]; show (⟨(d.row l).h, []⟩ : Rw) = _; rw [← e])
    have h0 := on_n d l e
    refine ⟨_, _, (onE_vc d.ts l h0 _).mpr ⟨trivial, bl, hl, h0, .inr ⟨[0, 1], [], _, _, [(2, .p 0 0), (4, .p 1 0)], [some (tsF d.ts), some tzO], rfl, by simp, st_k [0, 1] (by kernel_rfl), .refl _, ?_⟩⟩⟩
    rw [← fin]; exact OVL.refl _
  | cons x q =>
    have h0 := on_b d l hl e
    have eA : d.ts.A l 0 = x.a := by show qA (d.row l).q 0 = _; rw [e]; rfl
    have eA' : qA (d.row l).q 0 = x.a := eA
    have eM' : qM (d.row l).q 0 = x.m := by rw [e]; rfl
    have ha := v.qok x (by rw [e]; exact List.mem_cons_self)
    have hc : canB (d.row l).h x.a x.m = true := by
      cases hc : canB (d.row l).h x.a x.m with
      | true => rfl
      | false =>
        have g := v.go
        rw [e, goL_cons, hc, cond_false] at g
        rw [← g] at hf
        exact absurd hf (by simp)
    have h2 : (!canB (d.row l).h (qA (d.row l).q 0) (qM (d.row l).q 0)) = false := by rw [eA', eM', hc]; rfl
    have en : d.ts.n l = q.length + 1 := by show (d.row l).q.length = _; rw [e]; rfl
    refine ⟨_, _, (onT_vc d.ts _ l h0 h2 _).mpr ⟨trivial, bl, hl, h0, trivial, bl, hl, ⟨Int.le_refl _, by omega⟩, trivial, trivial, trivial, trivial, canX_con d l hl, trivial, h2, trivial, trivial, trivial, bl, by rw [eA]; exact ha, by rw [eA]; omega, trivial, bl, hl, ⟨by decide, trivial, by omega, Nat.le_refl _⟩, onc_con d v.ok l, trivial, bl, hl, .inl ⟨goS d l q, [0, 1], [], _, _, [(1, .i .i64 (Int.ofNat l)), (2, .p 0 0), (4, .p 1 0)], [some (.segs 39 120 [⟨0, 1, 44, fun i _ => rsF d.ts.r i⟩, ⟨44, 1, 57, setRow (fun i _ => hF d.ts.h (i / 3) (i % 3)) (l * 3 + Int.toNat (d.ts.A l 0)) 0 [.i .i64 (d.ts.M l 0)]⟩, ⟨101, 1, 19, setRow (fun l _ => quF d.ts.n d.ts.A d.ts.M d.ts.W l) l 0 [.sv 3 (d.ts.n l - 1) (shiftF 1 (qF (d.ts.A (Int.toNat (Int.ofNat l))) (d.ts.M (Int.toNat (Int.ofNat l))) (d.ts.W (Int.toNat (Int.ofNat l)))))]⟩] []), some tzO], v.step e hc, ?_, rfl, st_k [0, 1] (by kernel_rfl), .refl _, ⟨OV.segsW (go_ov d l hl e ha), .refl _, trivial⟩⟩⟩⟩
    show ((goS d l q).row l).q.length < (d.row l).q.length
    rw [e]
    show (Rw.q (bif Nat.beq l l then _ else _)).length < _
    rw [show Nat.beq l l = true by rw [Nat.beq_eq]]
    simp
theorem on2_lp (s : LS) (l : Nat) (hl : l < 19) (ok : s.ok) (hq : ∀ x ∈ (s.row l).q, 0 ≤ x.a ∧ x.a < 3) (hf : (goL (s.row l).h (s.row l).q).q ≠ []) : LDoes Try.prog (loopAt Try.prog 39 0) 45 2 (mkT [(1, .i .i64 (Int.ofNat l)), (2, .p 0 0), (4, .p 1 0)]) [some (tsO s.ts), some tzO] .ret (mkT [(4, .p 1 0)]) [some (tsF (s.set l (onR (s.row l))).ts), some (tsZ (s.set l (onR (s.row l))).ts)] := by
  have key := loop_indV (P := Try.prog) (c := loopAt Try.prog 39 0) (n := 45) (b := 2) (x := .ret) (l' := [(4, .p 1 0)]) (objs' := [some (tsF (s.set l (onR (s.row l))).ts), some (tsZ (s.set l (onR (s.row l))).ts)]) (D := LS) (fun d : LS => ([(1, .i .i64 (Int.ofNat l)), (2, .p 0 0), (4, .p 1 0)], [some (tsF d.ts), some tzO])) (fun d => (d.row l).q.length) (Onv s l) (fun d v => ?_) s ⟨rfl, fun _ _ => rfl, rfl, ok, hq⟩
  · exact key.ovl (objs0 := [some (tsO s.ts), some tzO]) ⟨OV.trans (tsZ_ov [] s.ts) (tsS_F s.ts), .refl _, trivial⟩
  refine ⟨Nat.le_refl _, ?_⟩
  have bl : (0 : Int) ≤ Int.ofNat l ∧ Int.ofNat l < 19 := ⟨by simp, by simp <;> omega⟩
  cases e : (d.row l).q with
  | nil =>
    have g := v.go
    rw [e] at g
    exact absurd (by rw [← g]; rfl) hf
  | cons x q =>
    have h0 := on_b d l hl e
    have eA : d.ts.A l 0 = x.a := by show qA (d.row l).q 0 = _; rw [e]; rfl
    have eA' : qA (d.row l).q 0 = x.a := eA
    have eM' : qM (d.row l).q 0 = x.m := by rw [e]; rfl
    have ha := v.qok x (by rw [e]; exact List.mem_cons_self)
    have en : d.ts.n l = q.length + 1 := by show (d.row l).q.length = _; rw [e]; rfl
    cases hc : canB (d.row l).h x.a x.m with
    | false =>
      have fin := v.fin (by rw [e, goL_cons, hc, cond_false, ← e])
      have h2 : (!canB (d.row l).h (qA (d.row l).q 0) (qM (d.row l).q 0)) = true := by rw [eA', eM', hc]; rfl
      refine ⟨_, _, (onF_vc d.ts _ l h0 h2 _).mpr ⟨trivial, bl, hl, h0, trivial, bl, hl, ⟨Int.le_refl _, by omega⟩, trivial, trivial, trivial, trivial, canX_con d l hl, trivial, h2, trivial, .inr ⟨[0, 1], [], _, _, [(4, .p 1 0)], [some (tsF d.ts), some (tsZ d.ts)], rfl, by simp, st_k [0, 1] (by kernel_rfl), .refl _, ?_⟩⟩⟩
      rw [← fin]; exact OVL.refl _
    | true =>
      have h2 : (!canB (d.row l).h (qA (d.row l).q 0) (qM (d.row l).q 0)) = false := by rw [eA', eM', hc]; rfl
      refine ⟨_, _, (onT_vc d.ts _ l h0 h2 _).mpr ⟨trivial, bl, hl, h0, trivial, bl, hl, ⟨Int.le_refl _, by omega⟩, trivial, trivial, trivial, trivial, canX_con d l hl, trivial, h2, trivial, trivial, trivial, bl, by rw [eA]; exact ha, by rw [eA]; omega, trivial, bl, hl, ⟨by decide, trivial, by omega, Nat.le_refl _⟩, onc_con d v.ok l, trivial, bl, hl, .inl ⟨goS d l q, [0, 1], [], _, _, [(1, .i .i64 (Int.ofNat l)), (2, .p 0 0), (4, .p 1 0)], [some (.segs 39 120 [⟨0, 1, 44, fun i _ => rsF d.ts.r i⟩, ⟨44, 1, 57, setRow (fun i _ => hF d.ts.h (i / 3) (i % 3)) (l * 3 + Int.toNat (d.ts.A l 0)) 0 [.i .i64 (d.ts.M l 0)]⟩, ⟨101, 1, 19, setRow (fun l _ => quF d.ts.n d.ts.A d.ts.M d.ts.W l) l 0 [.sv 3 (d.ts.n l - 1) (shiftF 1 (qF (d.ts.A (Int.toNat (Int.ofNat l))) (d.ts.M (Int.toNat (Int.ofNat l))) (d.ts.W (Int.toNat (Int.ofNat l)))))]⟩] []), some tzO], v.step e hc, ?_, rfl, st_k [0, 1] (by kernel_rfl), .refl _, ⟨OV.segsW (go_ov d l hl e ha), .refl _, trivial⟩⟩⟩⟩
      show ((goS d l q).row l).q.length < (d.row l).q.length
      rw [e]
      show (Rw.q (bif Nat.beq l l then _ else _)).length < _
      rw [show Nat.beq l l = true by rw [Nat.beq_eq]]
      simp
theorem on_con (s : LS) (ok : s.ok) (l : Nat) (hl : l < 19) (hq : ∀ x ∈ (s.row l).q, 0 ≤ x.a ∧ x.a < 3) : Con Try.prog 39 [lsV s, .i .i64 (Int.ofNat l)] [] (lsV (s.set l (onR (s.row l)))) [] := by
  by_cases hf : (goL (s.row l).h (s.row l).q).q = []
  · exact con_pureX (on1_vc s.ts (s.set l (onR (s.row l))).ts l _) (by kernel_rfl) ⟨on1_lp s l hl ok hq hf, trivial, rfl⟩
  · exact con_pureX (on2_vc s.ts (s.set l (onR (s.row l))).ts l _) (by kernel_rfl) ⟨on2_lp s l hl ok hq hf, rfl⟩
def frT (t : TS) (l : Nat) (k : Int) : TS := ⟨t.r, fun i j => bif Nat.beq (l * 3 + k.toNat) (i * 3 + j) then 0 else t.h i j, t.n, t.A, t.M, t.W⟩
noncomputable def frL (t : TS) (l : Nat) (k : Int) : List AV :=
  [.i .i64 (t.r.x 0), .i .i64 (t.r.x 1), .i .i64 (t.r.x 2), isv t.r.mn t.r.mf, isv t.r.sn t.r.sf] ++ mbL (t.r.s 0) ++ mbL (t.r.s 1) ++ mbL (t.r.s 2) ++
  upto 19 (fun i => [.i .i64 (bif Nat.beq (l * 3 + k.toNat) (i * 3 + 0) then 0 else t.h i 0), .i .i64 (bif Nat.beq (l * 3 + k.toNat) (i * 3 + 1) then 0 else t.h i 1), .i .i64 (bif Nat.beq (l * 3 + k.toNat) (i * 3 + 2) then 0 else t.h i 2)]) ++ upto 19 (fun i => [svN (t.n i) (t.A i) (t.M i) (t.W i)])
noncomputable def frO (t : TS) (l : Nat) (k : Int) : AObj := .cells 39 120 [] (setAll .e 0 (frL t l k))
theorem frO_eq (t : TS) (l : Nat) (k : Int) : frO t l k = tsO (frT t l k) := by kernel_rfl
noncomputable def tqL (u : TS) (l q : Nat) (F : Nat → Nat → CV) : List AV :=
  [.i .i64 (u.r.x 0), .i .i64 (u.r.x 1), .i .i64 (u.r.x 2), isv u.r.mn u.r.mf, isv u.r.sn u.r.sf] ++ mbL (u.r.s 0) ++ mbL (u.r.s 1) ++ mbL (u.r.s 2) ++
  upto 19 (fun i => [.i .i64 (u.h i 0), .i .i64 (u.h i 1), .i .i64 (u.h i 2)]) ++ upto 19 (fun i => [.sv 3 (bif Nat.beq i l then q else u.n i) fun a b => zipCV (Nat.beq i l) (F a b) (qF (u.A i) (u.M i) (u.W i) a b)])
noncomputable def tqV (u : TS) (l q : Nat) (F : Nat → Nat → CV) : AV := .agg (tqL u l q F)
theorem frA_vc (t : TS) (l i m : Nat) (k : Int) (F : Nat → Nat → CV) (h1 : decide (Int.ofNat i < Int.ofNat (t.n l)) = true) (h2 : (!decide (t.A l i = k)) = false) (K : Res → Orc → Prop) : runK Try.prog 1000000 (.code (loopAt Try.prog 17 0) 59 (mkT [(1, .i .i64 (Int.ofNat l)), (2, .i .i64 k), (3, .p 0 0), (6, .p 1 0), (8, .lr 2 3 0 m false), (9, .i .i64 (Int.ofNat i))]) (mkH [some (tsF t), some tzO, some (.rows 61 3 m F)])) (Orc.s (Orc.t (Orc.s (Orc.f Orc.z) Orc.z)) Orc.z) K = (True ∧ (0 ≤ Int.ofNat l ∧ Int.ofNat l < 19) ∧ l < 19 ∧ decide (Int.ofNat i < Int.ofNat (TS.n t l)) = true ∧ True ∧ (0 ≤ Int.ofNat l ∧ Int.ofNat l < 19) ∧ l < 19 ∧ (0 ≤ Int.ofNat i ∧ Int.ofNat i < ↑(TS.n t l)) ∧ True ∧ True ∧ (!decide (TS.A t l i = k)) = false ∧ ((-9223372036854775808) ≤ Int.ofNat i + 1 ∧ Int.ofNat i + (1 : Int) ≤ (9223372036854775807 : Int)) ∧ K (Res.st XO.nrm (z0 (z1 (AV.i .i64 (Int.ofNat l)) (z1
  (AV.p 0 0) (z0 (z0 (zl (AV.i .i64 (Int.ofNat i + 1))) T.e) (z1 (AV.i .i64 (Int.ofNat i)) (zl (AV.i .i64 (TS.A t l i))) T.e)) (z0 (z0 (zl (AV.sv 3 (TS.n t l) (qF (TS.A t (Int.toNat (Int.ofNat l))) (TS.M t (Int.toNat (Int.ofNat l))) (TS.W t (Int.toNat (Int.ofNat l)))))) T.e) (zl (AV.sv 3 (TS.n t l) (qF (TS.A t (Int.toNat (Int.ofNat l))) (TS.M t (Int.toNat (Int.ofNat l))) (TS.W t (Int.toNat (Int.ofNat l)))))))) (z0 (z1 (AV.i .i64 (Int.ofNat i + 1)) (z0 (zl (AV.p 0 101)) T.e) (z1 (AV.p 0 101) (zl (AV.b !decide (TS.A t l i = k))) T.e)) (z0 (z0 (zl (AV.pv 3 (qF (TS.A t (Int.toNat (Int.ofNat l))) (TS.M t (Int.toNat (Int.ofNat l))) (TS.W t (Int.toNat (Int.ofNat l))) i))) T.e) (zl (AV.b (decide (Int.ofNat i < Int.ofNat (TS.n t l)))))))) (z1 (AV.i .i64 k) (z0 (z1 (AV.lr 2 3 0 m false) (z0 (zl (AV.i .i64 (Int.ofNat l))) T.e) (z1 (AV.i .i64 (Int.ofNat l)) (zl (AV.i .i64 k)) T.e)) (z0 (z0 (zl (AV.i
  .i64 (Int.ofNat i))) T.e) (zl (AV.i .i64 (Int.ofNat (TS.n t l)))))) (z1 (AV.p 1 0) (z0 (z0 (zl (AV.ps 0 101 1 19 l)) T.e) (zl (AV.ps 0 101 1 19 l))) (z0 (z0 (zl (AV.pv 3 fun j => qF (TS.A t (Int.toNat (Int.ofNat l))) (TS.M t (Int.toNat (Int.ofNat l))) (TS.W t (Int.toNat (Int.ofNat l))) i (0 + j))) T.e) (zl (AV.i .i64 (Int.ofNat i))))))) ⟨z1 (tsF t) (zl (tzO)) (zl (AObj.rows 61 3 m F)), 3, []⟩) Orc.z) := by kernel_rfl
theorem frB_vc (t : TS) (l i m : Nat) (k : Int) (F : Nat → Nat → CV) (h1 : decide (Int.ofNat i < Int.ofNat (t.n l)) = true) (h2 : (!decide (t.A l i = k)) = true) (K : Res → Orc → Prop) : runK Try.prog 1000000 (.code (loopAt Try.prog 17 0) 59 (mkT [(1, .i .i64 (Int.ofNat l)), (2, .i .i64 k), (3, .p 0 0), (6, .p 1 0), (8, .lr 2 3 0 m false), (9, .i .i64 (Int.ofNat i))]) (mkH [some (tsF t), some tzO, some (.rows 61 3 m F)])) (Orc.s (Orc.t (Orc.s (Orc.t (Orc.s Orc.z Orc.z)) Orc.z)) Orc.z) K = (True ∧ (0 ≤ Int.ofNat l ∧ Int.ofNat l < 19) ∧ l < 19 ∧ decide (Int.ofNat i < Int.ofNat (TS.n t l)) = true ∧ True ∧ (0 ≤ Int.ofNat l ∧ Int.ofNat l < 19) ∧ l < 19 ∧ (0 ≤ Int.ofNat i ∧ Int.ofNat i < ↑(TS.n t l)) ∧ True ∧ True ∧ (!decide (TS.A t l i = k)) = true ∧ True ∧ (0 ≤ Int.ofNat l ∧ Int.ofNat l < 19) ∧ l < 19 ∧ (0 ≤ Int.ofNat i ∧ Int.ofNat i < ↑(TS.n t l)) ∧ True ∧ (0 + m ≤ m ∧ True ∧ m + 1 ≤
  140737488355328 ∧ (3 * (m + 1) + 1536) * 24 ≤ 562949953421312) ∧ ((-9223372036854775808) ≤ Int.ofNat i + 1 ∧ Int.ofNat i + (1 : Int) ≤ (9223372036854775807 : Int)) ∧ K (Res.st XO.nrm (z0 (z1 (AV.i .i64 (Int.ofNat l)) (z1 (AV.p 0 0) (z0 (z0 (zl (AV.i .i64 (Int.ofNat i + 1))) (zl (AV.i .i64 (Int.ofNat i)))) (z1 (AV.i .i64 (Int.ofNat i)) (zl (AV.i .i64 (TS.A t l i))) T.e)) (z0 (z0 (zl (AV.sv 3 (TS.n t l) (qF (TS.A t (Int.toNat (Int.ofNat l))) (TS.M t (Int.toNat (Int.ofNat l))) (TS.W t (Int.toNat (Int.ofNat l)))))) (zl (AV.lr 4 3 0 (addN m 1) false))) (z1 (AV.sv 3 (TS.n t l) (qF (TS.A t (Int.toNat (Int.ofNat l))) (TS.M t (Int.toNat (Int.ofNat l))) (TS.W t (Int.toNat (Int.ofNat l))))) (zl (AV.i .i64 (Int.ofNat l))) T.e))) (z0 (z1 (AV.i .i64 (Int.ofNat i + 1)) (z0 (zl (AV.p 0 101)) (zl (AV.agg [AV.i .i64 (TS.A t l i), AV.i .i64 (TS.M t l i), AV.i .i64 (TS.W t l i)]))) (z1 (AV.p 0 101) (zl
  (AV.b !decide (TS.A t l i = k))) T.e)) (z0 (z0 (zl (AV.pv 3 (qF (TS.A t (Int.toNat (Int.ofNat l))) (TS.M t (Int.toNat (Int.ofNat l))) (TS.W t (Int.toNat (Int.ofNat l))) i))) T.e) (z1 (AV.b (decide (Int.ofNat i < Int.ofNat (TS.n t l)))) (zl (AV.ps 0 101 1 19 l)) T.e)))) (z1 (AV.i .i64 k) (z0 (z1 (AV.lr 4 3 0 (addN m 1) false) (z0 (zl (AV.i .i64 (Int.ofNat l))) (zl (AV.pv 3 (qF (TS.A t (Int.toNat (Int.ofNat l))) (TS.M t (Int.toNat (Int.ofNat l))) (TS.W t (Int.toNat (Int.ofNat l))) i)))) (z1 (AV.i .i64 (Int.ofNat l)) (zl (AV.i .i64 k)) T.e)) (z0 (z0 (zl (AV.i .i64 (Int.ofNat i))) T.e) (z1 (AV.i .i64 (Int.ofNat (TS.n t l))) (zl (AV.p 0 101)) T.e))) (z1 (AV.p 1 0) (z0 (z0 (zl (AV.ps 0 101 1 19 l)) (zl (AV.l 3 0 1 1 3 true))) (z1 (AV.ps 0 101 1 19 l) (zl (AV.lr 2 3 0 m false)) T.e)) (z0 (z0 (zl (AV.pv 3 fun j => qF (TS.A t (Int.toNat (Int.ofNat l))) (TS.M t (Int.toNat (Int.ofNat l))) (TS.W t
  (Int.toNat (Int.ofNat l))) i (0 + j))) T.e) (z1 (AV.i .i64 (Int.ofNat i)) (zl (AV.sv 3 (TS.n t l) (qF (TS.A t (Int.toNat (Int.ofNat l))) (TS.M t (Int.toNat (Int.ofNat l))) (TS.W t (Int.toNat (Int.ofNat l)))))) T.e))))) ⟨z1 (tsF t) (z1 (tzO) (zl (AObj.cells 61 3 [] (z1 (AV.i .i64 (TS.A t l i)) (zl (AV.i .i64 (TS.M t l i))) (zl (AV.i .i64 (TS.W t l i)))))) T.e) (z0 (zl (AObj.rows 61 3 (addN m 1) (appZ m F (listF 3 [CV.i .i64 (TS.A t l i), CV.i .i64 (TS.M t l i), CV.i .i64 (TS.W t l i)] 1)))) T.e), 5, [4, 2, 3]⟩) Orc.z) := by kernel_rfl
theorem frE_vc (t : TS) (l i m : Nat) (k : Int) (F : Nat → Nat → CV) (h1 : decide (Int.ofNat i < Int.ofNat (t.n l)) = false) (K : Res → Orc → Prop) : runK Try.prog 1000000 (.code (loopAt Try.prog 17 0) 59 (mkT [(1, .i .i64 (Int.ofNat l)), (2, .i .i64 k), (3, .p 0 0), (6, .p 1 0), (8, .lr 2 3 0 m false), (9, .i .i64 (Int.ofNat i))]) (mkH [some (tsF t), some tzO, some (.rows 61 3 m F)])) (Orc.s (Orc.f Orc.z) Orc.z) K = (True ∧ (0 ≤ Int.ofNat l ∧ Int.ofNat l < 19) ∧ l < 19 ∧ decide (Int.ofNat i < Int.ofNat (TS.n t l)) = false ∧ K (Res.st (XO.exit 0) (z0 (z1 (AV.i .i64 (Int.ofNat l)) (z1 (AV.p 0 0) (z0 T.e (zl (AV.i .i64 (Int.ofNat i)))) (z0 T.e (zl (AV.sv 3 (TS.n t l) (qF (TS.A t (Int.toNat (Int.ofNat l))) (TS.M t (Int.toNat (Int.ofNat l))) (TS.W t (Int.toNat (Int.ofNat l)))))))) (z0 (z1 (AV.i .i64 (Int.ofNat i)) T.e (zl (AV.p 0 101))) (z0 T.e (zl (AV.b (decide (Int.ofNat i < Int.ofNat
  (TS.n t l)))))))) (z1 (AV.i .i64 k) (z0 (z1 (AV.lr 2 3 0 m false) T.e (zl (AV.i .i64 (Int.ofNat l)))) (z0 T.e (zl (AV.i .i64 (Int.ofNat (TS.n t l)))))) (z1 (AV.p 1 0) (z0 T.e (zl (AV.ps 0 101 1 19 l))) T.e))) ⟨z1 (tsF t) (zl (tzO)) (zl (AObj.rows 61 3 m F)), 3, []⟩) Orc.z) := by kernel_rfl
theorem fr_vc (t : TS) (lg : Bool) (q : Nat) (F : Nat → Nat → CV) (w : TS) (u : TS) (l : Nat) (k : Int) (h : (!lg) = false) (V : AV) : runK Try.prog 1000000 (.call 17 [tsV t, .i .i64 (Int.ofNat l), .i .i64 k] (mkH [])) (Orc.c (Orc.cal [] (AV.b lg) [] (Orc.f (Orc.cal [] (tsV t) [] (Orc.s (Orc.s (Orc.lop [0, 1] [1, 2, 3, 6, 8, 9] 2 (XO.exit 0) [(1, AV.i .i64 (Int.ofNat l)), (3, AV.p 0 0), (6, AV.p 1 0), (8, AV.sv 3 q F)] [some (tsF u), some tzO] (Orc.s (Orc.cal [] (tsV w) [] Orc.z) Orc.z)) Orc.z) Orc.z))))) (fun r _ => rvIs V r) = (Con Try.prog 37 [tsV t, AV.i .i64 (Int.ofNat l), AV.i .i64 k] [] (AV.b lg) [] ∧ True ∧ (!lg) = false ∧ Con Try.prog 36 [tsV t] [] (tsV t) [] ∧ True ∧ (0 ≤ Int.ofNat l ∧ Int.ofNat l < 19) ∧ (0 ≤ k ∧ k < 3) ∧ l * 3 + Int.toNat k < 57 ∧ LDoes Try.prog (loopAt Try.prog 17 0) 59 2 (mkT [(1, AV.i .i64 (Int.ofNat l)), (2, AV.i .i64 k), (3, AV.p 0 0), (6, AV.p 1 0), (8,
  AV.l0), (9, AV.i .i64 0)]) [some (frO t l k), some tzO] (XO.exit 0) (mkT [(1, AV.i .i64 (Int.ofNat l)), (3, AV.p 0 0), (6, AV.p 1 0), (8, AV.sv 3 q F)]) [some (tsF u), some tzO] ∧ True ∧ (0 ≤ Int.ofNat l ∧ Int.ofNat l < 19) ∧ l < 19 ∧ True ∧ Con Try.prog 39 [tqV u l q F, AV.i .i64 (Int.ofNat l)] [] (tsV w) [] ∧ (AV.tup [tsV w, AV.i .i64 0]) = V) := by kernel_rfl
theorem fr0_vc (t : TS) (lg : Bool) (l k : Int) (h : (!lg) = true) (V : AV) : runK Try.prog 1000000 (.call 17 [tsV t, .i .i64 l, .i .i64 k] (mkH [])) (Orc.c (Orc.cal [] (AV.b lg) [] (Orc.t Orc.z))) (fun r _ => rvIs V r) = (Con Try.prog 37 [tsV t, AV.i .i64 l, AV.i .i64 k] [] (AV.b lg) [] ∧ True ∧ (!lg) = true ∧ (AV.tup [AV.agg zL, AV.i .i64 2]) = V) := by kernel_rfl
theorem VWL.app : ∀ {a b a' b' : List AV}, VWL a a' → VWL b b' → VWL (a ++ b) (a' ++ b')
  | [], b, [], b', _, h => h
  | x :: a, b, y :: a', b', h, h' => ⟨h.1, VWL.app h.2 h'⟩
  | [], _, _ :: _, _, h, _ => h.elim
  | _ :: _, _, [], _, h, _ => h.elim
theorem VWL.upto {f g : Nat → List AV} : ∀ n, (∀ i, i < n → VWL (f i) (g i)) → VWL (upto n f) (upto n g)
  | 0, _ => trivial
  | n + 1, h => VWL.app (VWL.upto n fun i hi => h i (by omega)) (h n (by omega))
theorem VWL.c {a b : AV} {l r : List AV} (h : VW a b) (h' : VWL l r) : VWL (a :: l) (b :: r) := ⟨h, h'⟩
theorem VWL.n : VWL [] [] := trivial
theorem VW.ofI {a b : Int} (h : a = b) : VW (.i .i64 a) (.i .i64 b) := h ▸ VW.refl _
def fltQ (k : Int) (q : List HQ) : List HQ := q.filter fun x => !decide (x.a = k)
theorem rm_flt (k : Int) : ∀ q : List HQ, q.Pairwise (fun x y => x.a ≠ y.a) → rmQ k q = fltQ k q
  | [], _ => rfl
  | x :: q, h => by
    rw [List.pairwise_cons] at h
    unfold rmQ fltQ
    by_cases c : x.a = k
    · rw [if_pos c, List.filter_cons_of_neg (by simp [c])]
      symm
      rw [List.filter_eq_self]
      intro y hy
      have := h.1 y hy
      rw [c] at this
      simp [Ne.symm this]
    · rw [if_neg c, List.filter_cons_of_pos (by simp [c])]
      congr 1
      exact rm_flt k q h.2
theorem flt_take (k : Int) (q : List HQ) (i : Nat) (hi : i < q.length) : fltQ k (q.take (i + 1)) = fltQ k (q.take i) ++ (if q[i].a = k then [] else [q[i]]) := by
  unfold fltQ
  rw [List.take_succ_eq_append_getElem hi, List.filter_append]
  congr 1
  by_cases c : q[i].a = k <;> simp [c]
theorem flt_len (k : Int) (q : List HQ) (i : Nat) : (fltQ k (q.take i)).length ≤ i := by
  have h1 : (fltQ k (q.take i)).length ≤ (q.take i).length := List.length_filter_le _ _
  have h2 : (q.take i).length ≤ i := by simp; omega
  omega
theorem fr_lp (s : LS) (ok : s.ok) (l : Nat) (hl : l < 19) (k : Int) : LDoes Try.prog (loopAt Try.prog 17 0) 59 2 (mkT [(1, .i .i64 (Int.ofNat l)), (2, .i .i64 k), (3, .p 0 0), (6, .p 1 0), (8, .l0), (9, .i .i64 0)]) [some (frO s.ts l k), some tzO] (.exit 0) (mkT [(1, .i .i64 (Int.ofNat l)), (3, .p 0 0), (6, .p 1 0), (8, svQ (fltQ k (s.row l).q))]) [some (tsF (frT s.ts l k)), some tzO] := by
  have key := loop_indE (P := Try.prog) (c := loopAt Try.prog 17 0) (n := 59) (b := 2) (x := .exit 0) (l' := [(1, .i .i64 (Int.ofNat l)), (3, .p 0 0), (6, .p 1 0), (8, svQ (fltQ k (s.row l).q))]) (objs' := [some (tsF (frT s.ts l k)), some tzO]) (D := Nat)
    (fun i : Nat => ([(1, .i .i64 (Int.ofNat l)), (2, .i .i64 k), (3, .p 0 0), (6, .p 1 0), (8, .lr 2 3 0 (fltQ k ((s.row l).q.take i)).length false), (9, .i .i64 (Int.ofNat i))], [some (tsF (frT s.ts l k)), some tzO, some (.rows 61 3 (fltQ k ((s.row l).q.take i)).length (qF (qA (fltQ k ((s.row l).q.take i))) (qM (fltQ k ((s.row l).q.take i))) (qW (fltQ k ((s.row l).q.take i)))))])) (fun i => (s.row l).q.length - i) (fun i => i ≤ (s.row l).q.length) (fun i hi => ?_) 0 (Nat.zero_le _)
  · have key2 : LDoes Try.prog (loopAt Try.prog 17 0) 59 2 (mkT [(1, .i .i64 (Int.ofNat l)), (2, .i .i64 k), (3, .p 0 0), (6, .p 1 0), (8, .l0), (9, .i .i64 0)]) [some (tsF (frT s.ts l k)), some tzO] (.exit 0) (mkT [(1, .i .i64 (Int.ofNat l)), (3, .p 0 0), (6, .p 1 0), (8, svQ (fltQ k (s.row l).q))]) [some (tsF (frT s.ts l k)), some tzO] := by
      refine key.weak ⟨rfl, .inl rfl, rfl, .inl rfl, rfl, .inl rfl, rfl, .inl rfl, rfl, .inr ⟨rfl, .inl ⟨2, 3, 0, false, rfl⟩⟩, rfl, .inl rfl, trivial⟩ ⟨.refl _, .refl _, ?_⟩
      intro o ho
      simp at ho; subst ho
      exact ⟨_, rfl, rfl⟩
    exact key2.ovl (objs0 := [some (frO s.ts l k), some tzO]) ⟨OV.trans (by rw [frO_eq]; exact tsZ_ov [] _) (tsS_F _), .refl _, trivial⟩
  refine ⟨by simp, ?_⟩
  have bl : (0 : Int) ≤ Int.ofNat l ∧ Int.ofNat l < 19 := ⟨by simp, by simp <;> omega⟩
  have hlen := flt_len k (s.row l).q i
  have hok : (s.row l).q.length ≤ 5864062014805 := ok.q l
  have e0 : (frT s.ts l k).n l = (s.row l).q.length := rfl
  by_cases e : i = (s.row l).q.length
  · have h1 : decide (Int.ofNat i < Int.ofNat ((frT s.ts l k).n l)) = false := by rw [e0]; simp; omega
    have et : (s.row l).q.take i = (s.row l).q := by rw [e, List.take_length]
    have et' : fltQ k (s.row l).q = fltQ k ((s.row l).q.take i) := by rw [et]
    rw [et']
    generalize fltQ k ((s.row l).q.take i) = p at hlen ⊢
    refine ⟨_, _, (frE_vc _ l i p.length k (qF (qA p) (qM p) (qW p)) h1 _).mpr ⟨trivial, bl, hl, h1, .inr ⟨[0, 1], [2], _, _, [some (tsF (frT s.ts l k)), some tzO], rfl, by simp, st_fz [0, 1] [2] ((True ∧ True ∧ True ∧ (3 = 3 ∧ 0 + p.length ≤ p.length) ∧ True) ∧ True) [.i .i64 (Int.ofNat l), .p 0 0, .p 1 0, .lr 2 3 0 p.length false] (by kernel_rfl) (by kernel_rfl) (by kernel_rfl) ⟨⟨trivial, trivial, trivial, ⟨rfl, by omega⟩, trivial⟩, trivial⟩ (by kernel_rfl) rfl rfl rfl ⟨by kernel_rfl, by kernel_rfl, by kernel_rfl, by kernel_rfl, trivial⟩ rfl, OEqL.refl _⟩⟩⟩
  have hi' : i < (s.row l).q.length := by omega
  have h1 : decide (Int.ofNat i < Int.ofNat ((frT s.ts l k).n l)) = true := by rw [e0]; simp; omega
  have bi : (0 : Int) ≤ Int.ofNat i ∧ Int.ofNat i < ((frT s.ts l k).n l : Int) := ⟨by simp, by rw [e0]; simp <;> omega⟩
  have ov : (-9223372036854775808 : Int) ≤ Int.ofNat i + (1 : Int) ∧ Int.ofNat i + (1 : Int) ≤ (9223372036854775807 : Int) := ⟨by simp <;> omega, by simp <;> omega⟩
  have eA : (frT s.ts l k).A l i = (s.row l).q[i].a := qA_lt hi'
  have eM : (frT s.ts l k).M l i = (s.row l).q[i].m := qM_lt hi'
  have eW : (frT s.ts l k).W l i = (s.row l).q[i].w := qW_lt hi'
  by_cases c : (s.row l).q[i].a = k
  · have h2 : (!decide ((frT s.ts l k).A l i = k)) = false := by rw [eA, decide_eq_true c]; rfl
    have e2 : fltQ k ((s.row l).q.take (i + 1)) = fltQ k ((s.row l).q.take i) := by rw [flt_take k _ i hi', if_pos c, List.append_nil]
    refine ⟨_, _, (frA_vc _ l i _ k _ h1 h2 _).mpr ⟨trivial, bl, hl, h1, trivial, bl, hl, bi, trivial, trivial, h2, ov, .inl ⟨i + 1, [0, 1, 2], [], _, _, _, by omega, by show _ - (i + 1) < _ - i; omega, rfl, ?_, OEqL.refl _⟩⟩⟩
    dsimp only
    rw [e2]
    exact st_k [0, 1, 2] (by kernel_rfl)
  · have h2 : (!decide ((frT s.ts l k).A l i = k)) = true := by rw [eA, decide_eq_false c]; rfl
    have e2 : fltQ k ((s.row l).q.take (i + 1)) = fltQ k ((s.row l).q.take i) ++ [(s.row l).q[i]] := by rw [flt_take k _ i hi', if_neg c]
    have e3 : (fltQ k ((s.row l).q.take (i + 1))).length = addN (fltQ k ((s.row l).q.take i)).length 1 := by rw [e2, addN_eq]; simp
    refine ⟨_, _, (frB_vc _ l i _ k _ h1 h2 _).mpr ⟨trivial, bl, hl, h1, trivial, bl, hl, bi, trivial, trivial, h2, trivial, bl, hl, bi, trivial, ⟨by omega, trivial, by omega, by omega⟩, ov, .inl ⟨i + 1, [0, 1, 4], [], _, _, [some (tsF (frT s.ts l k)), some tzO, some (.rows 61 3 (addN (fltQ k ((s.row l).q.take i)).length 1) (appZ (fltQ k ((s.row l).q.take i)).length (qF (qA (fltQ k ((s.row l).q.take i))) (qM (fltQ k ((s.row l).q.take i))) (qW (fltQ k ((s.row l).q.take i)))) (listF 3 [.i .i64 ((frT s.ts l k).A l i), .i .i64 ((frT s.ts l k).M l i), .i .i64 ((frT s.ts l k).W l i)] 1)))], by omega, by show _ - (i + 1) < _ - i; omega, rfl, ?_, ?_⟩⟩⟩
    · dsimp only
      rw [e3]
      exact st_k [0, 1, 4] (by kernel_rfl)
    · dsimp only
      rw [e3]
      refine ⟨.refl _, .refl _, .rows ?_, trivial⟩
      intro a j ha hj
      rw [addN_eq] at ha
      rw [e2, apq3 hj (fun _ _ => rfl) (fun j hj => listF_q _ _ _ _ j hj), eA, eM, eW]
      by_cases c : a < (fltQ k ((s.row l).q.take i)).length
      · rw [if_pos c]
        apply qF_eq
        simp [List.getD_eq_getElem?_getD, List.getElem?_append, c]
      · obtain rfl : a = (fltQ k ((s.row l).q.take i)).length := by omega
        rw [if_neg c]
        refine (qF_one (s.row l).q[i] j).trans (qF_eq ?_)
        simp [List.getD_eq_getElem?_getD, List.getElem?_append]
theorem nb_ne {a b : Nat} (h : a ≠ b) : Nat.beq a b = false := by rw [Bool.eq_false_iff, ne_eq, Nat.beq_eq]; exact h
theorem nb_eq (a : Nat) : Nat.beq a a = true := by rw [Nat.beq_eq]
def frS (s : LS) (l : Nat) (k : Int) : LS := s.set l ⟨setH (s.row l).h k 0, fltQ k (s.row l).q⟩
theorem frS_l (s : LS) (l : Nat) (k : Int) : (frS s l k).row l = ⟨setH (s.row l).h k 0, fltQ k (s.row l).q⟩ := by
  show (bif Nat.beq l l then _ else _) = _
  rw [nb_eq]; rfl
theorem frS_n (s : LS) (l : Nat) (k : Int) {j : Nat} (h : j ≠ l) : (frS s l k).row j = s.row j := by
  show (bif Nat.beq j l then _ else _) = _
  rw [nb_ne h]; rfl
theorem frT_h (s : LS) (l : Nat) (k : Int) (hk : 0 ≤ k ∧ k < 3) (i j : Nat) (hj : j < 3) : (frT s.ts l k).h i j = (frS s l k).ts.h i j := by
  show (bif Nat.beq (l * 3 + k.toNat) (i * 3 + j) then 0 else (s.row i).h j) = ((frS s l k).row i).h j
  by_cases c : i = l
  · subst c
    rw [frS_l]
    show _ = (bif Nat.beq k.toNat j then 0 else (s.row i).h j)
    by_cases d : k.toNat = j
    · subst d
      rw [nb_eq, nb_eq]
    · rw [nb_ne (a := k.toNat) d, nb_ne (by omega)]
  · rw [frS_n s l k c, nb_ne (by omega)]; rfl
theorem fr_vwq (s : LS) (l : Nat) (k : Int) (i : Nat) : VW (.sv 3 (bif Nat.beq i l then (fltQ k (s.row l).q).length else (frT s.ts l k).n i) fun a b => zipCV (Nat.beq i l) (qF (qA (fltQ k (s.row l).q)) (qM (fltQ k (s.row l).q)) (qW (fltQ k (s.row l).q)) a b) (qF ((frT s.ts l k).A i) ((frT s.ts l k).M i) ((frT s.ts l k).W i) a b)) (svN ((frS s l k).ts.n i) ((frS s l k).ts.A i) ((frS s l k).ts.M i) ((frS s l k).ts.W i)) := by
  show VW _ (.sv 3 ((frS s l k).row i).q.length (qF (qA ((frS s l k).row i).q) (qM ((frS s l k).row i).q) (qW ((frS s l k).row i).q)))
  by_cases c : i = l
  · subst c
    rw [frS_l, nb_eq, cond_true]
    exact .svW fun a b _ _ => zip_CW true _ _
  · rw [frS_n s l k c, nb_ne c, cond_false]
    exact .svW fun a b _ _ => zip_CW false _ _
section
attribute [local irreducible] VWL upto
theorem fr_vw (s : LS) (l : Nat) (k : Int) (hk : 0 ≤ k ∧ k < 3) : VW (tqV (frT s.ts l k) l (fltQ k (s.row l).q).length (qF (qA (fltQ k (s.row l).q)) (qM (fltQ k (s.row l).q)) (qW (fltQ k (s.row l).q)))) (lsV (frS s l k)) := by
  unfold tqV tqL lsV tsV tsL
  rw [show (frT s.ts l k).r = s.r from rfl, show (frS s l k).ts.r = s.r from rfl]
  apply VW.agg
  apply VWL.app
  · apply VWL.app
    · exact VWL.refl _
    · apply VWL.upto
      intro i hi
      exact VWL.c (VW.ofI (frT_h s l k hk i 0 (by decide))) (VWL.c (VW.ofI (frT_h s l k hk i 1 (by decide))) (VWL.c (VW.ofI (frT_h s l k hk i 2 (by decide))) VWL.n))
  · apply VWL.upto
    intro i hi
    exact VWL.c (fr_vwq s l k i) VWL.n
end
theorem set_set (s : LS) (l : Nat) (r r' : Rw) : (s.set l r).set l r' = s.set l r' := by
  unfold LS.set
  congr 1
  funext j
  show (bif Nat.beq j l then r' else bif Nat.beq j l then r else s.row j) = _
  cases Nat.beq j l <;> rfl
theorem frS_ok (s : LS) (ok : s.ok) (l : Nat) (k : Int) : (frS s l k).ok := by
  refine ⟨ok.m, ok.s, fun j => ?_⟩
  show ((frS s l k).row j).q.length ≤ _
  by_cases c : j = l
  · subst c
    rw [frS_l]
    have h1 : (fltQ k (s.row j).q).length ≤ (s.row j).q.length := List.length_filter_le _ _
    have h2 : (s.row j).q.length ≤ 5864062014805 := ok.q j
    show (fltQ k (s.row j).q).length ≤ _
    omega
  · rw [frS_n s l k c]; exact ok.q j
theorem rfree_con (s : LS) (ok : s.ok) (v : vaS s = true) (l k : Int) : Con Try.prog 17 [lsV s, .i .i64 l, .i .i64 k] [] (.tup [lsV (freeS s l k), .i .i64 (freeE s l k)]) [] := by
  cases hk : isLockB l && isServerB k with
  | false =>
    have e : okF s l k = false := by
      unfold okF
      cases h1 : isLockB l with
      | false => rfl
      | true => rw [h1] at hk; rw [show isServerB k = false from hk]; rfl
    have lg := rlegal_con s ok v l k
    rw [hk] at lg
    unfold freeS freeE
    rw [e]
    have h0 : Con Try.prog 17 [lsV s, .i .i64 l, .i .i64 k] [] (.tup [.agg zL, .i .i64 2]) [] := con_pureX (fr0_vc s.ts false l k rfl _) rfl ⟨lg, trivial, rfl, rfl⟩
    refine h0.post (.tup ⟨?_, .refl _, trivial⟩) trivial
    exact .agg zL_vw
  | true =>
    have lg := rlegal_con s ok v l k
    rw [hk] at lg
    rw [Bool.and_eq_true] at hk
    have c1 : 0 ≤ l ∧ l < 19 := by have := hk.1; unfold isLockB at this; simpa using this
    have c2 : 0 ≤ k ∧ k < 3 := by have := hk.2; unfold isServerB at this; simpa using this
    have e : okF s l k = true := by unfold okF; rw [hk.1, hk.2, v]; rfl
    obtain ⟨n, rfl⟩ : ∃ n : Nat, l = Int.ofNat n := ⟨l.toNat, (Int.toNat_of_nonneg c1.1).symm⟩
    have hn : n < 19 := by have := c1.2; simp at this; omega
    have rk := (mayB_ok (va_row v hn)).w.1
    have hq : ∀ x ∈ ((frS s n k).row n).q, 0 ≤ x.a ∧ x.a < 3 := by
      rw [frS_l]
      intro x hx
      have hx' : x ∈ (s.row n).q := (List.mem_filter.1 hx).1
      exact (mw_iff.1 (rk.wait x hx')).1
    have on := (on_con (frS s n k) (frS_ok s ok n k) n hn hq).pre (pargs' := [tqV (frT s.ts n k) n (fltQ k (s.row n).q).length (qF (qA (fltQ k (s.row n).q)) (qM (fltQ k (s.row n).q)) (qW (fltQ k (s.row n).q))), .i .i64 (Int.ofNat n)]) ⟨fr_vw s n k c2, .refl _, trivial⟩
    have ew : (frS s n k).set n (onR ((frS s n k).row n)) = freeS s (Int.ofNat n) k := by
      unfold freeS
      rw [e, cond_true]
      show _ = s.set n (onR (freeR (s.row n) k))
      rw [frS_l, freeR_eq, rm_flt k _ rk.once]
      exact set_set _ _ _ _
    rw [ew] at on
    unfold freeE
    rw [e]
    exact con_pureX (fr_vc s.ts true _ _ (freeS s (Int.ofNat n) k).ts (frT s.ts n k) n k rfl _) (by kernel_rfl) ⟨lg, trivial, rfl, cp_con s.ts ok, trivial, ⟨by simp, by simp <;> omega⟩, c2, by omega, fr_lp s ok n hn k, trivial, ⟨by simp, by simp <;> omega⟩, hn, trivial, on, rfl⟩
theorem hdR_vc (t : TS) (gs : Int → Int → Bool) (l m : Nat) (k : Int) (F : Nat → Nat → CV) (h1 : decide (Int.ofNat l < 19) = true) (K : Res → Orc → Prop) : runK Try.prog 1000000 (.code (loopAt Try.prog 22 0) 60 (mkT [(1, .i .i64 k), (2, .p 0 0), (5, .lr 1 3 0 m false), (6, .i .i64 (Int.ofNat l))]) (mkH [some (tsF t), some (.rows 61 3 m F)])) (Orc.t (Orc.s (Orc.s (Orc.s Orc.z (Orc.s (Orc.s (Orc.s (Orc.s (Orc.t (Orc.t (Orc.t (Orc.cal [] (AV.b (gs (TS.M t l 0) (TS.h t ((l * 3 + Int.toNat k) / 3) ((l * 3 + Int.toNat k) % 3)))) [] (Orc.t (Orc.t (Orc.s Orc.z Orc.z))))))) (Orc.f (Orc.f (Orc.f (Orc.f (Orc.f (Orc.c Orc.z))))))) Orc.z) Orc.z) Orc.z)) Orc.z) Orc.z)) K = (decide (Int.ofNat l < 19) = true ∧ True ∧ (0 ≤ Int.ofNat l ∧ Int.ofNat l < 19) ∧ (0 ≤ k ∧ k < 3) ∧ l * 3 + Int.toNat k < 57 ∧ (decide (TS.h t ((l * 3 + Int.toNat k) / 3) ((l * 3 + Int.toNat k) % 3) = 0) = true →
  ((-9223372036854775808) ≤ Int.ofNat l + 1 ∧ Int.ofNat l + (1 : Int) ≤ (9223372036854775807 : Int)) ∧ K (Res.st XO.nrm (z0 (z1 (AV.i .i64 k) (z0 (z1 (AV.i .i64 (TS.h t ((l * 3 + Int.toNat k) / 3) ((l * 3 + Int.toNat k) % 3))) (zl (AV.b (decide (Int.ofNat l < 19)))) (zl (AV.i .i64 (TS.h t ((l * 3 + Int.toNat k) / 3) ((l * 3 + Int.toNat k) % 3))))) (z0 (zl (AV.i .i64 k)) T.e)) (z1 (AV.lr 1 3 0 m false) (z0 (zl (AV.i .i64 (Int.ofNat l + 1))) (zl (AV.b (decide (TS.h t ((l * 3 + Int.toNat k) / 3) ((l * 3 + Int.toNat k) % 3) = 0))))) (z0 (zl (AV.ps 0 44 3 19 l)) T.e))) (z1 (AV.p 0 0) (z0 (z0 (zl (AV.i .i64 (Int.ofNat l))) (zl (AV.i .i64 (TS.h t ((l * 3 + Int.toNat k) / 3) ((l * 3 + Int.toNat k) % 3))))) (z0 (zl (AV.p 0 44)) T.e)) (z1 (AV.i .i64 (Int.ofNat l + 1)) (z0 (zl (AV.i .i64 (Int.ofNat l))) T.e) (z1 (AV.i .i64 (Int.ofNat l)) (zl (AV.ps 0 44 1 57 (l * 3 + Int.toNat k))) T.e)))) ⟨z1 (tsF
  t) (zl (AObj.rows 61 3 m F)) T.e, 2, []⟩) Orc.z) ∧ (decide (TS.h t ((l * 3 + Int.toNat k) / 3) ((l * 3 + Int.toNat k) % 3) = 0) = false → True ∧ (0 ≤ Int.ofNat l ∧ Int.ofNat l < 19) ∧ l < 19 ∧ (decide (0 < Int.ofNat (TS.n t l)) = true → True ∧ (0 ≤ Int.ofNat l ∧ Int.ofNat l < 19) ∧ l < 19 ∧ ((0 : Int) ≤ (0 : Int) ∧ (0 : Int) < ↑(TS.n t l)) ∧ True ∧ True ∧ ((!decide (TS.A t l 0 = k)) = true → True ∧ (!decide (TS.A t l 0 = k)) = true ∧ (!decide (TS.A t l 0 = k)) = true ∧ (!decide (TS.A t l 0 = k)) = true ∧ Con Try.prog 25 [AV.i .i64 (TS.M t l 0), AV.i .i64 (TS.h t ((l * 3 + Int.toNat k) / 3) ((l * 3 + Int.toNat k) % 3))] [] (AV.b (gs (TS.M t l 0) (TS.h t ((l * 3 + Int.toNat k) / 3) ((l * 3 + Int.toNat k) % 3)))) [] ∧ (!decide (TS.A t l 0 = k)) = true ∧ True ∧ (!decide (TS.A t l 0 = k)) = true ∧ ((!gs (TS.M t l 0) (TS.h t ((l * 3 + Int.toNat k) / 3) ((l * 3 + Int.toNat k) % 3))) = true →
  True ∧ True ∧ (0 + m ≤ m ∧ True ∧ m + 1 ≤ 140737488355328 ∧ (3 * (m + 1) + 1536) * 24 ≤ 562949953421312) ∧ ((-9223372036854775808) ≤ Int.ofNat l + 1 ∧ Int.ofNat l + (1 : Int) ≤ (9223372036854775807 : Int)) ∧ K (Res.st XO.nrm (z0 (z1 (AV.i .i64 k) (z0 (z1 (AV.i .i64 (TS.h t ((l * 3 + Int.toNat k) / 3) ((l * 3 + Int.toNat k) % 3))) (z1 (AV.b (decide (Int.ofNat l < 19))) (zl (AV.ps 0 101 1 19 l)) (zl (AV.i .i64 (TS.M t l 0)))) (z1 (AV.i .i64 (TS.h t ((l * 3 + Int.toNat k) / 3) ((l * 3 + Int.toNat k) % 3))) (zl (AV.pv 3 (qF (TS.A t (Int.toNat (Int.ofNat l))) (TS.M t (Int.toNat (Int.ofNat l))) (TS.W t (Int.toNat (Int.ofNat l))) 0))) (zl (AV.lr 1 3 0 m false)))) (z0 (z1 (AV.i .i64 k) (zl (AV.i .i64 (Int.ofNat l))) (zl (AV.b !gs (TS.M t l 0) (TS.h t ((l * 3 + Int.toNat k) / 3) ((l * 3 + Int.toNat k) % 3))))) (z1 (AV.i .i64 (TS.h t ((l * 3 + Int.toNat k) / 3) ((l * 3 + Int.toNat k) % 3))) (zl
  (AV.i .i64 k)) T.e))) (z1 (AV.lr 5 3 0 (addN m 1) false) (z1 (AV.p 3 0) (z1 (AV.i .i64 (Int.ofNat l + 1)) (zl (AV.i .i64 (Int.ofNat (TS.n t l)))) (zl (AV.b (gs (TS.M t l 0) (TS.h t ((l * 3 + Int.toNat k) / 3) ((l * 3 + Int.toNat k) % 3)))))) (z1 (AV.b (decide (TS.h t ((l * 3 + Int.toNat k) / 3) ((l * 3 + Int.toNat k) % 3) = 0))) (zl (AV.p 3 0)) (zl (AV.l 4 0 1 1 3 true)))) (z0 (z1 (AV.ps 0 44 3 19 l) (zl (AV.ps 0 101 1 19 l)) (zl (AV.i .i64 (TS.M t l 0)))) (z1 (AV.i .i64 (Int.ofNat l)) (zl (AV.b !decide (TS.A t l 0 = k))) T.e)))) (z1 (AV.p 0 0) (z0 (z1 (AV.p 2 0) (z1 (AV.i .i64 (Int.ofNat l)) (zl (AV.sv 3 (TS.n t l) (qF (TS.A t (Int.toNat (Int.ofNat l))) (TS.M t (Int.toNat (Int.ofNat l))) (TS.W t (Int.toNat (Int.ofNat l)))))) (zl (AV.i .i64 (TS.h t ((l * 3 + Int.toNat k) / 3) ((l * 3 + Int.toNat k) % 3))))) (z1 (AV.i .i64 (TS.h t ((l * 3 + Int.toNat k) / 3) ((l * 3 + Int.toNat k) % 3)))
  (zl (AV.agg [AV.i .i64 (TS.A t l 0), AV.i .i64 (TS.M t l 0), AV.i .i64 (TS.W t l 0)])) (zl (AV.agg [AV.i .i64 (Int.ofNat l), AV.i .i64 (TS.h t ((l * 3 + Int.toNat k) / 3) ((l * 3 + Int.toNat k) % 3)), AV.i .i64 (TS.M t l 0)])))) (z0 (z1 (AV.p 0 44) (zl (AV.p 0 101)) (zl (AV.p 3 1))) (z1 (AV.agg [AV.i .i64 (Int.ofNat l), AV.i .i64 (TS.h t ((l * 3 + Int.toNat k) / 3) ((l * 3 + Int.toNat k) % 3)), AV.i .i64 0]) (zl (AV.b !decide (TS.A t l 0 = k))) T.e))) (z1 (AV.i .i64 (Int.ofNat l + 1)) (z0 (z1 (AV.i .i64 (Int.ofNat l)) (zl (AV.b (decide (0 < Int.ofNat (TS.n t l))))) (zl (AV.b !gs (TS.M t l 0) (TS.h t ((l * 3 + Int.toNat k) / 3) ((l * 3 + Int.toNat k) % 3))))) (z1 (AV.i .i64 (Int.ofNat l)) (zl (AV.i .i64 (TS.A t l 0))) (zl (AV.lr 5 3 0 (addN m 1) false)))) (z1 (AV.i .i64 (Int.ofNat l)) (z1 (AV.ps 0 44 1 57 (l * 3 + Int.toNat k)) (zl (AV.sv 3 (TS.n t l) (qF (TS.A t (Int.toNat (Int.ofNat
  l))) (TS.M t (Int.toNat (Int.ofNat l))) (TS.W t (Int.toNat (Int.ofNat l)))))) (zl (AV.p 2 2))) (z1 (AV.p 0 101) (zl (AV.p 3 1)) T.e))))) ⟨z1 (tsF t) (z0 (zl (AObj.cells 61 3 [AV.i .i64 0, AV.i .i64 0, AV.i .i64 0] (z1 (AV.i .i64 (TS.A t l 0)) (zl (AV.i .i64 (TS.M t l 0))) (zl (AV.i .i64 (TS.W t l 0)))))) (zl (AObj.rows 61 3 (addN m 1) (appZ m F (listF 3 [CV.i .i64 (Int.ofNat l), CV.i .i64 (TS.h t ((l * 3 + Int.toNat k) / 3) ((l * 3 + Int.toNat k) % 3)), CV.i .i64 (TS.M t l 0)] 1))))) (z1 (AObj.cells 61 3 [AV.i .i64 0, AV.i .i64 0, AV.i .i64 0] (z1 (AV.i .i64 (Int.ofNat l)) (zl (AV.i .i64 (TS.h t ((l * 3 + Int.toNat k) / 3) ((l * 3 + Int.toNat k) % 3)))) (zl (AV.i .i64 (TS.M t l 0))))) (zl (AObj.cells 61 3 [] (z1 (AV.i .i64 (Int.ofNat l)) (zl (AV.i .i64 (TS.h t ((l * 3 + Int.toNat k) / 3) ((l * 3 + Int.toNat k) % 3)))) (zl (AV.i .i64 (TS.M t l 0)))))) T.e), 6, [5, 1, 4, 2, 3, 3, 2, 2]⟩)
  Orc.z) ∧ ((!gs (TS.M t l 0) (TS.h t ((l * 3 + Int.toNat k) / 3) ((l * 3 + Int.toNat k) % 3))) = false → (0 + m ≤ m ∧ True ∧ m + 1 ≤ 140737488355328 ∧ (3 * (m + 1) + 1536) * 24 ≤ 562949953421312) ∧ ((-9223372036854775808) ≤ Int.ofNat l + 1 ∧ Int.ofNat l + (1 : Int) ≤ (9223372036854775807 : Int)) ∧ K (Res.st XO.nrm (z0 (z1 (AV.i .i64 k) (z0 (z1 (AV.i .i64 (TS.h t ((l * 3 + Int.toNat k) / 3) ((l * 3 + Int.toNat k) % 3))) (z1 (AV.b (decide (Int.ofNat l < 19))) (zl (AV.ps 0 101 1 19 l)) (zl (AV.i .i64 (TS.M t l 0)))) (z1 (AV.i .i64 (TS.h t ((l * 3 + Int.toNat k) / 3) ((l * 3 + Int.toNat k) % 3))) (zl (AV.pv 3 (qF (TS.A t (Int.toNat (Int.ofNat l))) (TS.M t (Int.toNat (Int.ofNat l))) (TS.W t (Int.toNat (Int.ofNat l))) 0))) (zl (AV.lr 1 3 0 m false)))) (z0 (z1 (AV.i .i64 k) (zl (AV.i .i64 (Int.ofNat l))) (zl (AV.b !gs (TS.M t l 0) (TS.h t ((l * 3 + Int.toNat k) / 3) ((l * 3 + Int.toNat k) %
  3))))) (z1 (AV.i .i64 (TS.h t ((l * 3 + Int.toNat k) / 3) ((l * 3 + Int.toNat k) % 3))) (zl (AV.i .i64 k)) T.e))) (z1 (AV.lr 5 3 0 (addN m 1) false) (z1 (AV.p 3 0) (z1 (AV.i .i64 (Int.ofNat l + 1)) (zl (AV.i .i64 (Int.ofNat (TS.n t l)))) (zl (AV.b (gs (TS.M t l 0) (TS.h t ((l * 3 + Int.toNat k) / 3) ((l * 3 + Int.toNat k) % 3)))))) (z1 (AV.b (decide (TS.h t ((l * 3 + Int.toNat k) / 3) ((l * 3 + Int.toNat k) % 3) = 0))) (zl (AV.p 3 0)) (zl (AV.l 4 0 1 1 3 true)))) (z0 (z1 (AV.ps 0 44 3 19 l) (zl (AV.ps 0 101 1 19 l)) T.e) (z1 (AV.i .i64 (Int.ofNat l)) (zl (AV.b !decide (TS.A t l 0 = k))) T.e)))) (z1 (AV.p 0 0) (z0 (z1 (AV.p 2 0) (z1 (AV.i .i64 (Int.ofNat l)) (zl (AV.sv 3 (TS.n t l) (qF (TS.A t (Int.toNat (Int.ofNat l))) (TS.M t (Int.toNat (Int.ofNat l))) (TS.W t (Int.toNat (Int.ofNat l)))))) (zl (AV.i .i64 (TS.h t ((l * 3 + Int.toNat k) / 3) ((l * 3 + Int.toNat k) % 3))))) (z1 (AV.i .i64
  (TS.h t ((l * 3 + Int.toNat k) / 3) ((l * 3 + Int.toNat k) % 3))) (zl (AV.agg [AV.i .i64 (TS.A t l 0), AV.i .i64 (TS.M t l 0), AV.i .i64 (TS.W t l 0)])) (zl (AV.agg [AV.i .i64 (Int.ofNat l), AV.i .i64 (TS.h t ((l * 3 + Int.toNat k) / 3) ((l * 3 + Int.toNat k) % 3)), AV.i .i64 0])))) (z0 (z1 (AV.p 0 44) (zl (AV.p 0 101)) T.e) (z1 (AV.agg [AV.i .i64 (Int.ofNat l), AV.i .i64 (TS.h t ((l * 3 + Int.toNat k) / 3) ((l * 3 + Int.toNat k) % 3)), AV.i .i64 0]) (zl (AV.b !decide (TS.A t l 0 = k))) T.e))) (z1 (AV.i .i64 (Int.ofNat l + 1)) (z0 (z1 (AV.i .i64 (Int.ofNat l)) (zl (AV.b (decide (0 < Int.ofNat (TS.n t l))))) (zl (AV.b !gs (TS.M t l 0) (TS.h t ((l * 3 + Int.toNat k) / 3) ((l * 3 + Int.toNat k) % 3))))) (z1 (AV.i .i64 (Int.ofNat l)) (zl (AV.i .i64 (TS.A t l 0))) (zl (AV.lr 5 3 0 (addN m 1) false)))) (z1 (AV.i .i64 (Int.ofNat l)) (z1 (AV.ps 0 44 1 57 (l * 3 + Int.toNat k)) (zl (AV.sv 3
  (TS.n t l) (qF (TS.A t (Int.toNat (Int.ofNat l))) (TS.M t (Int.toNat (Int.ofNat l))) (TS.W t (Int.toNat (Int.ofNat l)))))) T.e) (z1 (AV.p 0 101) (zl (AV.p 3 1)) T.e))))) ⟨z1 (tsF t) (z0 (zl (AObj.cells 61 3 [AV.i .i64 0, AV.i .i64 0, AV.i .i64 0] (z1 (AV.i .i64 (TS.A t l 0)) (zl (AV.i .i64 (TS.M t l 0))) (zl (AV.i .i64 (TS.W t l 0)))))) (zl (AObj.rows 61 3 (addN m 1) (appZ m F (listF 3 [CV.i .i64 (Int.ofNat l), CV.i .i64 (TS.h t ((l * 3 + Int.toNat k) / 3) ((l * 3 + Int.toNat k) % 3)), CV.i .i64 0] 1))))) (z1 (AObj.cells 61 3 [AV.i .i64 0, AV.i .i64 0, AV.i .i64 0] (z1 (AV.i .i64 (Int.ofNat l)) (zl (AV.i .i64 (TS.h t ((l * 3 + Int.toNat k) / 3) ((l * 3 + Int.toNat k) % 3)))) (zl (AV.i .i64 0)))) (zl (AObj.cells 61 3 [] (z1 (AV.i .i64 (Int.ofNat l)) (zl (AV.i .i64 (TS.h t ((l * 3 + Int.toNat k) / 3) ((l * 3 + Int.toNat k) % 3)))) (zl (AV.i .i64 0))))) T.e), 6, [5, 1, 4, 3, 3, 2, 2]⟩)
  Orc.z)) ∧ ((!decide (TS.A t l 0 = k)) = false → (!decide (TS.A t l 0 = k)) = false ∧ (!decide (TS.A t l 0 = k)) = false ∧ (!decide (TS.A t l 0 = k)) = false ∧ (!decide (TS.A t l 0 = k)) = false ∧ (!decide (TS.A t l 0 = k)) = false ∧ (0 + m ≤ m ∧ True ∧ m + 1 ≤ 140737488355328 ∧ (3 * (m + 1) + 1536) * 24 ≤ 562949953421312) ∧ ((-9223372036854775808) ≤ Int.ofNat l + 1 ∧ Int.ofNat l + (1 : Int) ≤ (9223372036854775807 : Int)) ∧ K (Res.st XO.nrm (z0 (z1 (AV.i .i64 k) (z0 (z1 (AV.i .i64 (TS.h t ((l * 3 + Int.toNat k) / 3) ((l * 3 + Int.toNat k) % 3))) (z1 (AV.b (decide (Int.ofNat l < 19))) (zl (AV.ps 0 101 1 19 l)) (zl (AV.tup []))) (z1 (AV.i .i64 (TS.h t ((l * 3 + Int.toNat k) / 3) ((l * 3 + Int.toNat k) % 3))) (zl (AV.pv 3 (qF (TS.A t (Int.toNat (Int.ofNat l))) (TS.M t (Int.toNat (Int.ofNat l))) (TS.W t (Int.toNat (Int.ofNat l))) 0))) (zl (AV.lr 1 3 0 m false)))) (z0 (z1 (AV.i .i64 k) (zl
  (AV.i .i64 (Int.ofNat l))) (zl (AV.b false))) (z1 (AV.i .i64 (TS.h t ((l * 3 + Int.toNat k) / 3) ((l * 3 + Int.toNat k) % 3))) (zl (AV.i .i64 k)) T.e))) (z1 (AV.lr 5 3 0 (addN m 1) false) (z1 (AV.p 3 0) (z1 (AV.i .i64 (Int.ofNat l + 1)) (zl (AV.i .i64 (Int.ofNat (TS.n t l)))) (zl (AV.tup []))) (z1 (AV.b (decide (TS.h t ((l * 3 + Int.toNat k) / 3) ((l * 3 + Int.toNat k) % 3) = 0))) (zl (AV.p 3 0)) (zl (AV.l 4 0 1 1 3 true)))) (z0 (z1 (AV.ps 0 44 3 19 l) (zl (AV.ps 0 101 1 19 l)) T.e) (z1 (AV.i .i64 (Int.ofNat l)) (zl (AV.b !decide (TS.A t l 0 = k))) T.e)))) (z1 (AV.p 0 0) (z0 (z1 (AV.p 2 0) (z1 (AV.i .i64 (Int.ofNat l)) (zl (AV.sv 3 (TS.n t l) (qF (TS.A t (Int.toNat (Int.ofNat l))) (TS.M t (Int.toNat (Int.ofNat l))) (TS.W t (Int.toNat (Int.ofNat l)))))) (zl (AV.tup []))) (z1 (AV.i .i64 (TS.h t ((l * 3 + Int.toNat k) / 3) ((l * 3 + Int.toNat k) % 3))) (zl (AV.agg [AV.i .i64 (TS.A t l 0),
  AV.i .i64 (TS.M t l 0), AV.i .i64 (TS.W t l 0)])) (zl (AV.agg [AV.i .i64 (Int.ofNat l), AV.i .i64 (TS.h t ((l * 3 + Int.toNat k) / 3) ((l * 3 + Int.toNat k) % 3)), AV.i .i64 0])))) (z0 (z1 (AV.p 0 44) (zl (AV.p 0 101)) T.e) (z1 (AV.agg [AV.i .i64 (Int.ofNat l), AV.i .i64 (TS.h t ((l * 3 + Int.toNat k) / 3) ((l * 3 + Int.toNat k) % 3)), AV.i .i64 0]) (zl (AV.b !decide (TS.A t l 0 = k))) T.e))) (z1 (AV.i .i64 (Int.ofNat l + 1)) (z0 (z1 (AV.i .i64 (Int.ofNat l)) (zl (AV.b (decide (0 < Int.ofNat (TS.n t l))))) (zl (AV.tup []))) (z1 (AV.i .i64 (Int.ofNat l)) (zl (AV.i .i64 (TS.A t l 0))) (zl (AV.lr 5 3 0 (addN m 1) false)))) (z1 (AV.i .i64 (Int.ofNat l)) (z1 (AV.ps 0 44 1 57 (l * 3 + Int.toNat k)) (zl (AV.sv 3 (TS.n t l) (qF (TS.A t (Int.toNat (Int.ofNat l))) (TS.M t (Int.toNat (Int.ofNat l))) (TS.W t (Int.toNat (Int.ofNat l)))))) T.e) (z1 (AV.p 0 101) (zl (AV.tup [])) T.e))))) ⟨z1 (tsF t)
  (z0 (zl (AObj.cells 61 3 [AV.i .i64 0, AV.i .i64 0, AV.i .i64 0] (z1 (AV.i .i64 (TS.A t l 0)) (zl (AV.i .i64 (TS.M t l 0))) (zl (AV.i .i64 (TS.W t l 0)))))) (zl (AObj.rows 61 3 (addN m 1) (appZ m F (listF 3 [CV.i .i64 (Int.ofNat l), CV.i .i64 (TS.h t ((l * 3 + Int.toNat k) / 3) ((l * 3 + Int.toNat k) % 3)), CV.i .i64 0] 1))))) (z1 (AObj.cells 61 3 [AV.i .i64 0, AV.i .i64 0, AV.i .i64 0] (z1 (AV.i .i64 (Int.ofNat l)) (zl (AV.i .i64 (TS.h t ((l * 3 + Int.toNat k) / 3) ((l * 3 + Int.toNat k) % 3)))) (zl (AV.i .i64 0)))) (zl (AObj.cells 61 3 [] (z1 (AV.i .i64 (Int.ofNat l)) (zl (AV.i .i64 (TS.h t ((l * 3 + Int.toNat k) / 3) ((l * 3 + Int.toNat k) % 3)))) (zl (AV.i .i64 0))))) T.e), 6, [5, 1, 4, 3, 3, 2, 2]⟩) Orc.z)) ∧ (decide (0 < Int.ofNat (TS.n t l)) = false → (0 + m ≤ m ∧ True ∧ m + 1 ≤ 140737488355328 ∧ (3 * (m + 1) + 1536) * 24 ≤ 562949953421312) ∧ ((-9223372036854775808) ≤ Int.ofNat l
  + 1 ∧ Int.ofNat l + (1 : Int) ≤ (9223372036854775807 : Int)) ∧ K (Res.st XO.nrm (z0 (z1 (AV.i .i64 k) (z0 (z1 (AV.i .i64 (TS.h t ((l * 3 + Int.toNat k) / 3) ((l * 3 + Int.toNat k) % 3))) (z1 (AV.b (decide (Int.ofNat l < 19))) (zl (AV.ps 0 101 1 19 l)) T.e) (z1 (AV.i .i64 (TS.h t ((l * 3 + Int.toNat k) / 3) ((l * 3 + Int.toNat k) % 3))) T.e (zl (AV.lr 1 3 0 m false)))) (z0 (zl (AV.i .i64 k)) (zl (AV.i .i64 (TS.h t ((l * 3 + Int.toNat k) / 3) ((l * 3 + Int.toNat k) % 3)))))) (z1 (AV.lr 4 3 0 (addN m 1) false) (z0 (z1 (AV.i .i64 (Int.ofNat l + 1)) (zl (AV.i .i64 (Int.ofNat (TS.n t l)))) T.e) (z1 (AV.b (decide (TS.h t ((l * 3 + Int.toNat k) / 3) ((l * 3 + Int.toNat k) % 3) = 0))) T.e (zl (AV.l 3 0 1 1 3 true)))) (z0 (zl (AV.ps 0 44 3 19 l)) (zl (AV.i .i64 (Int.ofNat l)))))) (z1 (AV.p 0 0) (z0 (z1 (AV.p 2 0) (z1 (AV.i .i64 (Int.ofNat l)) (zl (AV.sv 3 (TS.n t l) (qF (TS.A t (Int.toNat
  (Int.ofNat l))) (TS.M t (Int.toNat (Int.ofNat l))) (TS.W t (Int.toNat (Int.ofNat l)))))) T.e) (z1 (AV.i .i64 (TS.h t ((l * 3 + Int.toNat k) / 3) ((l * 3 + Int.toNat k) % 3))) T.e (zl (AV.agg [AV.i .i64 (Int.ofNat l), AV.i .i64 (TS.h t ((l * 3 + Int.toNat k) / 3) ((l * 3 + Int.toNat k) % 3)), AV.i .i64 0])))) (z0 (zl (AV.p 0 44)) (zl (AV.agg [AV.i .i64 (Int.ofNat l), AV.i .i64 (TS.h t ((l * 3 + Int.toNat k) / 3) ((l * 3 + Int.toNat k) % 3)), AV.i .i64 0])))) (z1 (AV.i .i64 (Int.ofNat l + 1)) (z0 (z1 (AV.i .i64 (Int.ofNat l)) (zl (AV.b (decide (0 < Int.ofNat (TS.n t l))))) T.e) (z1 (AV.i .i64 (Int.ofNat l)) T.e (zl (AV.lr 4 3 0 (addN m 1) false)))) (z1 (AV.i .i64 (Int.ofNat l)) (zl (AV.ps 0 44 1 57 (l * 3 + Int.toNat k))) (zl (AV.p 0 101)))))) ⟨z1 (tsF t) (z0 (zl (AObj.cells 61 3 [] (z1 (AV.i .i64 (Int.ofNat l)) (zl (AV.i .i64 (TS.h t ((l * 3 + Int.toNat k) / 3) ((l * 3 + Int.toNat k) %
  3)))) (zl (AV.i .i64 0))))) T.e) (z1 (AObj.cells 61 3 [AV.i .i64 0, AV.i .i64 0, AV.i .i64 0] (z1 (AV.i .i64 (Int.ofNat l)) (zl (AV.i .i64 (TS.h t ((l * 3 + Int.toNat k) / 3) ((l * 3 + Int.toNat k) % 3)))) (zl (AV.i .i64 0)))) (zl (AObj.rows 61 3 (addN m 1) (appZ m F (listF 3 [CV.i .i64 (Int.ofNat l), CV.i .i64 (TS.h t ((l * 3 + Int.toNat k) / 3) ((l * 3 + Int.toNat k) % 3)), CV.i .i64 0] 1)))) T.e), 5, [4, 1, 3, 2, 2]⟩) Orc.z))) := by kernel_rfl
theorem hdE_vc (t : TS) (m : Nat) (k : Int) (F : Nat → Nat → CV) (K : Res → Orc → Prop) : runK Try.prog 1000000 (.code (loopAt Try.prog 22 0) 60 (mkT [(1, .i .i64 k), (2, .p 0 0), (5, .lr 1 3 0 m false), (6, .i .i64 19)]) (mkH [some (tsF t), some (.rows 61 3 m F)])) (Orc.c Orc.z) K = (K (Res.st (XO.exit 0) (z0 (z1 (AV.i .i64 k) (z0 (z0 (zl (AV.b false)) T.e) T.e) (zl (AV.lr 1 3 0 m false))) (z1 (AV.p 0 0) T.e (z1 (AV.i .i64 19) T.e (zl (AV.i .i64 19))))) ⟨z1 (tsF t) (zl (AObj.rows 61 3 m F)) T.e, 2, []⟩) Orc.z) := by kernel_rfl
theorem hd1_vc (t : TS) (lg : Bool) (q : Nat) (F : Nat → Nat → CV) (k : Int) (h : (!lg) = false) (V : AV) : runK Try.prog 1000000 (.call 22 [tsV t, .i .i64 k] (mkH [])) (Orc.c (Orc.cal [] (AV.b lg) [] (Orc.f (Orc.lop [0] [1, 2, 5, 6] 1 (XO.exit 0) [(5, AV.sv 3 q F)] [some (tsF t)] Orc.z)))) (fun r _ => rvIs V r) = (Con Try.prog 37 [tsV t, AV.i .i64 0, AV.i .i64 k] [] (AV.b lg) [] ∧ True ∧ (!lg) = false ∧ LDoes Try.prog (loopAt Try.prog 22 0) 60 1 (mkT [(1, AV.i .i64 k), (2, AV.p 0 0), (5, AV.l0), (6, AV.i .i64 0)]) [some (tsO t)] (XO.exit 0) (mkT [(5, AV.sv 3 q F)]) [some (tsF t)] ∧ (AV.sv 3 q F) = V) := by kernel_rfl
theorem hd0_vc (t : TS) (lg : Bool) (k : Int) (h : (!lg) = true) (V : AV) : runK Try.prog 1000000 (.call 22 [tsV t, .i .i64 k] (mkH [])) (Orc.c (Orc.cal [] (AV.b lg) [] (Orc.t Orc.z))) (fun r _ => rvIs V r) = (Con Try.prog 37 [tsV t, AV.i .i64 0, AV.i .i64 k] [] (AV.b lg) [] ∧ True ∧ (!lg) = true ∧ AV.l0 = V) := by kernel_rfl
theorem drR_vc (t : TS) (u : TS) (e : Int) (l : Nat) (k : Int) (h1 : decide (Int.ofNat l < 19) = true) (K : Res → Orc → Prop) : runK Try.prog 1000000 (.code (loopAt Try.prog 20 0) 26 (mkT [(1, .i .i64 k), (2, .p 0 0), (4, .p 1 0), (5, .i .i64 (Int.ofNat l))]) (mkH [some (tsO t), some tzO])) (Orc.t (Orc.cal [] (AV.tup [tsV u, AV.i .i64 e]) [] Orc.z)) K = (decide (Int.ofNat l < 19) = true ∧ Con Try.prog 17 [tsV t, AV.i .i64 (Int.ofNat l), AV.i .i64 k] [] (AV.tup [tsV u, AV.i .i64 e]) [] ∧ ((-9223372036854775808) ≤ Int.ofNat l + 1 ∧ Int.ofNat l + (1 : Int) ≤ (9223372036854775807 : Int)) ∧ K (Res.st XO.nrm (z0 (z1 (AV.i .i64 k) (z0 (z1 (AV.i .i64 e) (zl (AV.i .i64 (Int.ofNat l))) (zl (AV.i .i64 e))) (z0 (zl (AV.i .i64 (Int.ofNat l))) T.e)) (z1 (AV.i .i64 (Int.ofNat l + 1)) (z0 (zl (AV.tup [tsV u, AV.i .i64 e])) T.e) (z1 (AV.i .i64 (Int.ofNat l)) (zl (AV.tup [tsV u, AV.i .i64 e])) T.e))) (z1
  (AV.p 0 0) (z1 (AV.p 1 0) (z0 (zl (AV.i .i64 (Int.ofNat l + 1))) (zl (tsV u))) (z0 (zl (AV.i .i64 k)) T.e)) (z1 (AV.p 2 0) (z0 (zl (tsV t)) T.e) (z1 (AV.b (decide (Int.ofNat l < 19))) (zl (tsV u)) T.e)))) ⟨z1 (tsO u) (zl (tzO)) (zl (tsZ u)), 3, [0, 2, 2]⟩) Orc.z) := by kernel_rfl
theorem drE_vc (t : TS) (k : Int) (K : Res → Orc → Prop) : runK Try.prog 1000000 (.code (loopAt Try.prog 20 0) 26 (mkT [(1, .i .i64 k), (2, .p 0 0), (4, .p 1 0), (5, .i .i64 19)]) (mkH [some (tsO t), some tzO])) (Orc.c Orc.z) K = (K (Res.st (XO.exit 0) (z0 (z1 (AV.i .i64 k) T.e (z1 (AV.i .i64 19) T.e (zl (AV.i .i64 19)))) (z1 (AV.p 0 0) (zl (AV.p 1 0)) (z0 T.e (zl (AV.b false))))) ⟨z1 (tsO t) (zl (tzO)) T.e, 2, []⟩) Orc.z) := by kernel_rfl
theorem dr1_vc (t : TS) (lg : Bool) (w : TS) (k : Int) (h : (!lg) = false) (V : AV) : runK Try.prog 1000000 (.call 20 [tsV t, .i .i64 k] (mkH [])) (Orc.c (Orc.cal [] (AV.b lg) [] (Orc.f (Orc.lop [0, 1] [1, 2, 4, 5] 2 (XO.exit 0) [(2, AV.p 0 0), (4, AV.p 1 0)] [some (tsO w), some tzO] Orc.z)))) (fun r _ => rvIs V r) = (Con Try.prog 37 [tsV t, AV.i .i64 0, AV.i .i64 k] [] (AV.b lg) [] ∧ True ∧ (!lg) = false ∧ LDoes Try.prog (loopAt Try.prog 20 0) 26 2 (mkT [(1, AV.i .i64 k), (2, AV.p 0 0), (4, AV.p 1 0), (5, AV.i .i64 0)]) [some (tsO t), some tzO] (XO.exit 0) (mkT [(2, AV.p 0 0), (4, AV.p 1 0)]) [some (tsO w), some tzO] ∧ (tsV w) = V) := by kernel_rfl
theorem dr0_vc (t : TS) (lg : Bool) (k : Int) (h : (!lg) = true) (V : AV) : runK Try.prog 1000000 (.call 20 [tsV t, .i .i64 k] (mkH [])) (Orc.c (Orc.cal [] (AV.b lg) [] (Orc.t Orc.z))) (fun r _ => rvIs V r) = (Con Try.prog 37 [tsV t, AV.i .i64 0, AV.i .i64 k] [] (AV.b lg) [] ∧ True ∧ (!lg) = true ∧ (tsV t) = V) := by kernel_rfl
noncomputable def hdF (s : LS) (k : Int) (l : Nat) : Nat → Nat → CV := qF (qA (hldN s k l)) (qM (hldN s k l)) (qW (hldN s k l))
theorem hd_h (s : LS) (l : Nat) (k : Int) (hk : 0 ≤ k ∧ k < 3) : s.ts.h ((l * 3 + k.toNat) / 3) ((l * 3 + k.toNat) % 3) = hx (s.row l).h k := by
  rw [show (l * 3 + k.toNat) / 3 = l by omega, show (l * 3 + k.toNat) % 3 = k.toNat by omega]
  show (s.row l).h _ = _
  rcases three hk with c | c | c <;> rw [c] <;> rfl
theorem hd_ov (s : LS) (l : Nat) (k : Int) (hk : 0 ≤ k ∧ k < 3) (w : Int) (hz : hx (s.row l).h k ≠ 0) (hw : wantR (s.row l) k = w) : OEqL [some (tsF s.ts), some (.rows 61 3 (addN (hldN s k l).length 1) (appZ (hldN s k l).length (hdF s k l) (listF 3 [.i .i64 (Int.ofNat l), .i .i64 (s.ts.h ((l * 3 + k.toNat) / 3) ((l * 3 + k.toNat) % 3)), .i .i64 w] 1)))] [some (tsF s.ts), some (.rows 61 3 (addN (hldN s k l).length 1) (hdF s k (l + 1)))] := by
  have e2 : hldN s k (l + 1) = hldN s k l ++ [⟨l, hx (s.row l).h k, w⟩] := by rw [hldN_s, if_neg hz, hw]
  refine ⟨.refl _, .rows ?_, trivial⟩
  intro i j hi hj
  rw [addN_eq] at hi
  unfold hdF
  rw [e2, apq3 hj (fun _ _ => rfl) (fun j hj => listF_q _ _ _ _ j hj), hd_h s l k hk]
  by_cases c : i < (hldN s k l).length
  · rw [if_pos c]
    apply qF_eq
    simp [List.getD_eq_getElem?_getD, List.getElem?_append, c]
  · obtain rfl : i = (hldN s k l).length := by omega
    rw [if_neg c]
    refine (qF_one ⟨Int.ofNat l, hx (s.row l).h k, w⟩ j).trans (qF_eq ?_)
    simp [List.getD_eq_getElem?_getD, List.getElem?_append]
theorem hd_lp (s : LS) (k : Int) (hk : 0 ≤ k ∧ k < 3) : LDoes Try.prog (loopAt Try.prog 22 0) 60 1 (mkT [(1, .i .i64 k), (2, .p 0 0), (5, .l0), (6, .i .i64 0)]) [some (tsO s.ts)] (.exit 0) (mkT [(5, svQ (hldN s k 19))]) [some (tsF s.ts)] := by
  have key := loop_indE (P := Try.prog) (c := loopAt Try.prog 22 0) (n := 60) (b := 1) (x := .exit 0) (l' := [(5, svQ (hldN s k 19))]) (objs' := [some (tsF s.ts)]) (D := Nat)
    (fun l : Nat => ([(1, .i .i64 k), (2, .p 0 0), (5, .lr 1 3 0 (hldN s k l).length false), (6, .i .i64 (Int.ofNat l))], [some (tsF s.ts), some (.rows 61 3 (hldN s k l).length (hdF s k l))])) (fun l => 19 - l) (fun l => l ≤ 19) (fun l hl => ?_) 0 (Nat.zero_le _)
  · have key2 : LDoes Try.prog (loopAt Try.prog 22 0) 60 1 (mkT [(1, .i .i64 k), (2, .p 0 0), (5, .l0), (6, .i .i64 0)]) [some (tsF s.ts)] (.exit 0) (mkT [(5, svQ (hldN s k 19))]) [some (tsF s.ts)] := by
      refine key.weak ⟨rfl, .inl rfl, rfl, .inl rfl, rfl, .inr ⟨rfl, .inl ⟨1, 3, 0, false, rfl⟩⟩, rfl, .inl rfl, trivial⟩ ⟨.refl _, ?_⟩
      intro o ho
      simp at ho; subst ho
      exact ⟨_, rfl, rfl⟩
    exact key2.ovl (objs0 := [some (tsO s.ts)]) ⟨OV.trans (tsZ_ov [] _) (tsS_F _), trivial⟩
  refine ⟨by simp, ?_⟩
  have hlen := hldN_len s k l
  by_cases e : l = 19
  · subst e
    unfold hdF
    generalize hldN s k 19 = p at hlen ⊢
    exact ⟨_, _, (hdE_vc s.ts p.length k (qF (qA p) (qM p) (qW p)) _).mpr (.inr ⟨[0], [1], _, _, [some (tsF s.ts)], rfl, by simp, st_fz [0] [1] (((3 = 3 ∧ 0 + p.length ≤ p.length) ∧ True) ∧ True) [.lr 1 3 0 p.length false] (by kernel_rfl) (by kernel_rfl) (by kernel_rfl) ⟨⟨⟨rfl, by omega⟩, trivial⟩, trivial⟩ (by kernel_rfl) rfl rfl rfl ⟨by kernel_rfl, by kernel_rfl, trivial⟩ rfl, OEqL.refl _⟩)⟩
  have hlt : l < 19 := by omega
  have h1 : decide (Int.ofNat l < 19) = true := by simp <;> omega
  have bl : (0 : Int) ≤ Int.ofNat l ∧ Int.ofNat l < 19 := ⟨by simp, by simp <;> omega⟩
  have ov : (-9223372036854775808 : Int) ≤ Int.ofNat l + (1 : Int) ∧ Int.ofNat l + (1 : Int) ≤ (9223372036854775807 : Int) := ⟨by simp <;> omega, by simp <;> omega⟩
  have room : 0 + (hldN s k l).length ≤ (hldN s k l).length ∧ True ∧ (hldN s k l).length + 1 ≤ 140737488355328 ∧ (3 * ((hldN s k l).length + 1) + 1536) * 24 ≤ 562949953421312 := ⟨by omega, trivial, by omega, by omega⟩
  have eh := hd_h s l k hk
  have nz : ∀ {h : decide (s.ts.h ((l * 3 + k.toNat) / 3) ((l * 3 + k.toNat) % 3) = 0) = false}, hx (s.row l).h k ≠ 0 := by
    intro h
    rw [eh] at h
    exact of_decide_eq_false h
  have e3 : ∀ h : hx (s.row l).h k ≠ 0, (hldN s k (l + 1)).length = addN (hldN s k l).length 1 := by
    intro h
    rw [hldN_s, if_neg h, addN_eq]; simp
  refine ⟨_, _, (hdR_vc s.ts goesB l (hldN s k l).length k (hdF s k l) h1 _).mpr ⟨h1, trivial, bl, hk, by omega, fun c => ⟨ov, .inl ⟨l + 1, [0, 1], [], _, _, [some (tsF s.ts), some (.rows 61 3 (hldN s k l).length (hdF s k l))], by omega, by show 19 - (l + 1) < 19 - l; omega, rfl, ?_, ?_⟩⟩, fun c => ⟨trivial, bl, hlt, fun d => ⟨trivial, bl, hlt, ⟨by decide, by have := of_decide_eq_true d; simpa using this⟩, trivial, trivial, fun f => ⟨trivial, f, f, f, rgoes_con _ _, f, trivial, f, fun g => ⟨trivial, trivial, room, ov, .inl ⟨l + 1, [0, 5], [], _, _, [some (tsF s.ts), some (.rows 61 3 (addN (hldN s k l).length 1) (appZ (hldN s k l).length (hdF s k l) (listF 3 [.i .i64 (Int.ofNat l), .i .i64 (s.ts.h ((l * 3 + k.toNat) / 3) ((l * 3 + k.toNat) % 3)), .i .i64 (s.ts.M l 0)] 1)))], by omega, by show 19 - (l + 1) < 19 - l; omega, rfl, ?_, ?_⟩⟩, fun g => ⟨room, ov, .inl ⟨l + 1, [0, 5], [], _, _, [some (tsF s.ts), some (.rows 61 3 (addN (hldN s k l).length 1) (appZ (hldN s k l).length (hdF s k l) (listF 3 [.i .i64 (Int.ofNat l), .i .i64 (s.ts.h ((l * 3 + k.toNat) / 3) ((l * 3 + k.toNat) % 3)), .i .i64 0] 1)))], by omega, by show 19 - (l + 1) < 19 - l; omega, rfl, ?_, ?_⟩⟩⟩, fun f => ⟨f, f, f, f, f, room, ov, .inl ⟨l + 1, [0, 5], [], _, _, [some (tsF s.ts), some (.rows 61 3 (addN (hldN s k l).length 1) (appZ (hldN s k l).length (hdF s k l) (listF 3 [.i .i64 (Int.ofNat l), .i .i64 (s.ts.h ((l * 3 + k.toNat) / 3) ((l * 3 + k.toNat) % 3)), .i .i64 0] 1)))], by omega, by show 19 - (l + 1) < 19 - l; omega, rfl, ?_, ?_⟩⟩⟩, fun d => ⟨room, ov, .inl ⟨l + 1, [0, 4], [], _, _, [some (tsF s.ts), some (.rows 61 3 (addN (hldN s k l).length 1) (appZ (hldN s k l).length (hdF s k l) (listF 3 [.i .i64 (Int.ofNat l), .i .i64 (s.ts.h ((l * 3 + k.toNat) / 3) ((l * 3 + k.toNat) % 3)), .i .i64 0] 1)))], by omega, by show 19 - (l + 1) < 19 - l; omega, rfl, ?_, ?_⟩⟩⟩⟩⟩
  · dsimp only
    have hz : hx (s.row l).h k = 0 := by rw [← eh]; exact of_decide_eq_true c
    have e2 : hldN s k (l + 1) = hldN s k l := by rw [hldN_s, if_pos hz, List.append_nil]
    rw [e2]
    exact st_k [0, 1] (by kernel_rfl)
  · dsimp only
    have hz : hx (s.row l).h k = 0 := by rw [← eh]; exact of_decide_eq_true c
    have e2 : hldN s k (l + 1) = hldN s k l := by rw [hldN_s, if_pos hz, List.append_nil]
    unfold hdF
    rw [e2]
    exact OEqL.refl _
  · dsimp only
    rw [e3 (nz (h := c))]
    exact st_k [0, 5] (by kernel_rfl)
  · dsimp only
    rw [e3 (nz (h := c))]
    refine hd_ov s l k hk _ (nz (h := c)) ?_
    have d' := of_decide_eq_true d
    have g' : goesB (qM (s.row l).q 0) (hx (s.row l).h k) = false := by
      rw [eh] at g
      have : (!goesB (qM (s.row l).q 0) (hx (s.row l).h k)) = true := g
      simpa using this
    have f' : ¬ qA (s.row l).q 0 = k := by
      have : (!decide (qA (s.row l).q 0 = k)) = true := f
      simpa using this
    have n' : ¬ (s.row l).q.length = 0 := by
      have : (0 : Int) < Int.ofNat (s.row l).q.length := d'
      simp at this
      intro c0
      simp [c0] at this
    unfold wantR wantB
    rw [if_neg n', if_neg f', g']
    rfl
  · dsimp only
    rw [e3 (nz (h := c))]
    exact st_k [0, 5] (by kernel_rfl)
  · dsimp only
    rw [e3 (nz (h := c))]
    refine hd_ov s l k hk _ (nz (h := c)) ?_
    have g' : goesB (qM (s.row l).q 0) (hx (s.row l).h k) = true := by
      rw [eh] at g
      have : (!goesB (qM (s.row l).q 0) (hx (s.row l).h k)) = false := g
      simpa using this
    unfold wantR wantB
    rw [g']
    simp
  · dsimp only
    rw [e3 (nz (h := c))]
    exact st_k [0, 5] (by kernel_rfl)
  · dsimp only
    rw [e3 (nz (h := c))]
    refine hd_ov s l k hk _ (nz (h := c)) ?_
    have f' : qA (s.row l).q 0 = k := by
      have : (!decide (qA (s.row l).q 0 = k)) = false := f
      simpa using this
    unfold wantR wantB
    rw [if_pos f']
    simp
  · dsimp only
    rw [e3 (nz (h := c))]
    exact st_k [0, 4] (by kernel_rfl)
  · dsimp only
    rw [e3 (nz (h := c))]
    refine hd_ov s l k hk _ (nz (h := c)) ?_
    have n' : (s.row l).q.length = 0 := by
      have := of_decide_eq_false d
      have h2 : ¬ (0 : Int) < Int.ofNat (s.row l).q.length := this
      simp at h2
      simp [h2]
    unfold wantR wantB
    rw [if_pos n']
theorem rholds_con (s : LS) (ok : s.ok) (v : vaS s = true) (k : Int) : Con Try.prog 22 [lsV s, .i .i64 k] [] (svQ (hldS s k)) [] := by
  have lg := rlegal_con s ok v 0 k
  unfold hldS
  cases hk : isServerB k with
  | false =>
    rw [hk] at lg
    have h0 : Con Try.prog 22 [lsV s, .i .i64 k] [] .l0 [] := con_pureX (hd0_vc s.ts false k rfl _) rfl ⟨lg, trivial, rfl, rfl⟩
    exact h0.post (VW.nil _ _) trivial
  | true =>
    rw [hk] at lg
    have c2 : 0 ≤ k ∧ k < 3 := by unfold isServerB at hk; simpa using hk
    rw [v]
    exact con_pureX (hd1_vc s.ts true _ _ k rfl _) rfl ⟨lg, trivial, rfl, hd_lp s k c2, rfl⟩
theorem blt_f {a b : Nat} (h : ¬ a < b) : Nat.blt a b = false := by
  cases e : Nat.blt a b with
  | false => rfl
  | true => exact absurd (Nat.le_of_ble_eq_true e) (by omega)
theorem dropN_step (s : LS) (k : Int) (l : Nat) : (dropN s k l).set l (onR (freeR ((dropN s k l).row l) k)) = dropN s k (l + 1) := by
  have e : (dropN s k l).row l = s.row l := by
    show (bif Nat.blt l l then _ else _) = _
    rw [blt_f (by omega)]; rfl
  rw [e, dropN_set]
theorem dropN_va (s : LS) (v : vaS s = true) (k : Int) (hk : 0 ≤ k ∧ k < 3) (l : Nat) : vaS (dropN s k l) = true := by
  refine vaS_of fun j hj => ?_
  show mayB (bif Nat.blt j l then _ else _) = true
  cases Nat.blt j l with
  | false => exact va_row v hj
  | true => exact onR_may (free_w (mayB_ok (va_row v hj)).w.1 hk)
theorem dropN_ok (s : LS) (ok : s.ok) (v : vaS s = true) (k : Int) (hk : 0 ≤ k ∧ k < 3) (l : Nat) (hl : l ≤ 19) : (dropN s k l).ok := by
  refine ⟨ok.m, ok.s, fun j => ?_⟩
  show ((dropN s k l).row j).q.length ≤ _
  by_cases c : j < 19
  · have := (mayB_ok (va_row (dropN_va s v k hk l) c)).len
    omega
  · have e : (dropN s k l).row j = s.row j := by
      show (bif Nat.blt j l then _ else _) = _
      rw [blt_f (by omega)]; rfl
    rw [e]; exact ok.q j
theorem dropN_zero (s : LS) (k : Int) : dropN s k 0 = s := by
  unfold dropN
  obtain ⟨r, row⟩ := s
  congr 1
theorem dr_lp (s : LS) (ok : s.ok) (v : vaS s = true) (k : Int) (hk : 0 ≤ k ∧ k < 3) : LDoes Try.prog (loopAt Try.prog 20 0) 26 2 (mkT [(1, .i .i64 k), (2, .p 0 0), (4, .p 1 0), (5, .i .i64 0)]) [some (tsO s.ts), some tzO] (.exit 0) (mkT [(2, .p 0 0), (4, .p 1 0)]) [some (tsO (dropN s k 19).ts), some tzO] := by
  have key := loop_ind (P := Try.prog) (c := loopAt Try.prog 20 0) (n := 26) (b := 2) (x := .exit 0) (l' := [(2, .p 0 0), (4, .p 1 0)]) (objs' := [some (tsO (dropN s k 19).ts), some tzO]) (D := Nat) (fun l : Nat => ([(1, .i .i64 k), (2, .p 0 0), (4, .p 1 0), (5, .i .i64 (Int.ofNat l))], [some (tsO (dropN s k l).ts), some tzO])) (fun l => 19 - l) (fun l => l ≤ 19) (fun l hl => ?_) 0 (Nat.zero_le _)
  · dsimp only at key
    rw [dropN_zero] at key
    exact key
  refine ⟨Nat.le_refl _, ?_⟩
  by_cases e : l = 19
  · subst e
    exact ⟨_, _, (drE_vc _ k _).mpr (.inr ⟨[0, 1], [], _, _, rfl, by simp, st_k [0, 1] (by kernel_rfl)⟩)⟩
  have h1 : decide (Int.ofNat l < 19) = true := by simp <;> omega
  have hlt : l < 19 := by omega
  have fr := rfree_con (dropN s k l) (dropN_ok s ok v k hk l hl) (dropN_va s v k hk l) (Int.ofNat l) k
  have e1 : freeS (dropN s k l) (Int.ofNat l) k = dropN s k (l + 1) := by
    unfold freeS
    rw [okF_iff.2 ⟨⟨by simp, by simp <;> omega⟩, hk, dropN_va s v k hk l⟩, cond_true]
    exact dropN_step s k l
  rw [e1] at fr
  exact ⟨_, _, (drR_vc (dropN s k l).ts (dropN s k (l + 1)).ts _ l k h1 _).mpr ⟨h1, fr, ⟨by simp <;> omega, by simp <;> omega⟩, .inl ⟨l + 1, [0, 1], [], _, _, by omega, by show 19 - (l + 1) < 19 - l; omega, rfl, st_k [0, 1] (by kernel_rfl)⟩⟩⟩
theorem rdrop_con (s : LS) (ok : s.ok) (v : vaS s = true) (k : Int) : Con Try.prog 20 [lsV s, .i .i64 k] [] (lsV (dropS s k)) [] := by
  have lg := rlegal_con s ok v 0 k
  unfold dropS
  cases hk : isServerB k with
  | false =>
    rw [hk] at lg
    exact con_pureX (dr0_vc s.ts false k rfl _) (by kernel_rfl) ⟨lg, trivial, rfl, rfl⟩
  | true =>
    rw [hk] at lg
    have c2 : 0 ≤ k ∧ k < 3 := by unfold isServerB at hk; simpa using hk
    rw [v]
    exact con_pureX (dr1_vc s.ts true (dropN s k 19).ts k rfl _) (by kernel_rfl) ⟨lg, trivial, rfl, dr_lp s ok v k c2, rfl⟩
end Go.Proofs.Lk
