/- Runs over unknown values, told by the kernel: part LaA. -/
import Derived.Test.YtnekjjidcknieaaLkB
set_option linter.unusedSimpArgs false
set_option linter.unusedVariables false
set_option maxRecDepth 20000
namespace Go.Proofs.Lk
open Go Go.Sim Go.Proofs
theorem awake_vc (t1 : TS) (t2 : TS) (t3 : TS) (t4 : TS) (t5 : TS) (t6 : TS) (t7 : TS) (A : Nat → Int) (M : Nat → Int) (W : Nat → Int) (V : AV) : runK Try.prog 1000000 (.call 12 [] (mkH [])) (Orc.cal [] (AV.tup [tsV t1, AV.i .i64 0]) [] (Orc.cal [] (AV.tup [tsV t2, AV.i .i64 0]) [] (Orc.cal [] (AV.tup [tsV t3, AV.i .i64 0]) [] (Orc.cal [] (svN 1 A M W) [] (oc 16 (Orc.s (Orc.t (Orc.cal [] (AV.b true) [] (Orc.t (Orc.f (Orc.c (Orc.cal [] (AV.tup [tsV t4, AV.i .i64 0]) [] (Orc.cal [] (AV.tup [tsV t5, AV.i .i64 0]) [] (Orc.cal [] (AV.tup [tsV t6, AV.i .i64 0]) [] (oc 13 (Orc.s (Orc.t (Orc.c (Orc.t (Orc.t (Orc.t (Orc.t (Orc.s (Orc.cal [] (AV.b false) [] (Orc.t (Orc.t (oc 2 (Orc.cal [] (tsV t7) [] (oc 7 Orc.z)))))) (Orc.f (Orc.f (oc 7 Orc.z)))))))))) (Orc.f (Orc.f (Orc.f (Orc.f (Orc.f (oc 10 Orc.z)))))))))))))))) (Orc.f (Orc.f (Orc.t (Orc.c Orc.z)))))))))) (fun r _ => rvIs V r) = (Con Try.prog
  10 [AV.agg zL, AV.i .i64 3, AV.i .i64 0, AV.i .i64 1] [] (AV.tup [tsV t1, AV.i .i64 0]) [] ∧ Con Try.prog 10 [tsV t1, AV.i .i64 3, AV.i .i64 1, AV.i .i64 1] [] (AV.tup [tsV t2, AV.i .i64 0]) [] ∧ Con Try.prog 10 [tsV t2, AV.i .i64 3, AV.i .i64 2, AV.i .i64 2] [] (AV.tup [tsV t3, AV.i .i64 0]) [] ∧ Con Try.prog 14 [tsV t3, AV.i .i64 0] [] (svN 1 A M W) [] ∧ ((0 : Int) ≤ (0 : Int) ∧ (0 : Int) < (1 : Int)) ∧ True ∧ True ∧ ((!!(decide (A 0 = 3) && (decide (M 0 = 1) && (decide (W 0 = 2) && true)))) = true → (!!(decide (A 0 = 3) && (decide (M 0 = 1) && (decide (W 0 = 2) && true)))) = true ∧ Con Try.prog 13 [tsV t3] [] (AV.b true) [] ∧ (!!(decide (A 0 = 3) && (decide (M 0 = 1) && (decide (W 0 = 2) && true)))) = true ∧ True ∧ (!(decide (A 0 = 3) && (decide (M 0 = 1) && (decide (W 0 = 2) && true)))) = false ∧ Con Try.prog 10 [tsV t3, AV.i .i64 3, AV.i .i64 0, AV.i .i64 2] [] (AV.tup [tsV t4,
  AV.i .i64 0]) [] ∧ Con Try.prog 11 [tsV t4, AV.i .i64 3, AV.i .i64 1] [] (AV.tup [tsV t5, AV.i .i64 0]) [] ∧ Con Try.prog 11 [tsV t5, AV.i .i64 3, AV.i .i64 0] [] (AV.tup [tsV t6, AV.i .i64 0]) [] ∧ True ∧ True ∧ ((decide (TS.h t6 3 0 = 0) && (decide (TS.h t6 3 1 = 0) && (decide (TS.h t6 3 2 = 2) && true))) = true → True ∧ (decide (TS.h t6 3 0 = 0) && (decide (TS.h t6 3 1 = 0) && (decide (TS.h t6 3 2 = 2) && true))) = true ∧ (decide (TS.h t6 3 0 = 0) && (decide (TS.h t6 3 1 = 0) && (decide (TS.h t6 3 2 = 2) && true))) = true ∧ (decide (TS.h t6 3 0 = 0) && (decide (TS.h t6 3 1 = 0) && (decide (TS.h t6 3 2 = 2) && true))) = true ∧ (decide (TS.h t6 3 0 = 0) && (decide (TS.h t6 3 1 = 0) && (decide (TS.h t6 3 2 = 2) && true))) = true ∧ (decide (TS.h t6 3 0 = 0) && (decide (TS.h t6 3 1 = 0) && (decide (TS.h t6 3 2 = 2) && true))) = true ∧ (decide (Int.ofNat (TS.n t6 3) = 0) = true → Con
  Try.prog 24 [AV.i .i64 1, AV.i .i64 2] [] (AV.b false) [] ∧ decide (Int.ofNat (TS.n t6 3) = 0) = true ∧ True ∧ decide (Int.ofNat (TS.n t6 3) = 0) = true ∧ Con Try.prog 19 [tsV t6, AV.i .i64 2] [] (tsV t7) [] ∧ (AV.b (decide (TS.h t7 3 2 = 0))) = V) ∧ (decide (Int.ofNat (TS.n t6 3) = 0) = false → decide (Int.ofNat (TS.n t6 3) = 0) = false ∧ decide (Int.ofNat (TS.n t6 3) = 0) = false ∧ (AV.b false) = V)) ∧ ((decide (TS.h t6 3 0 = 0) && (decide (TS.h t6 3 1 = 0) && (decide (TS.h t6 3 2 = 2) && true))) = false → (decide (TS.h t6 3 0 = 0) && (decide (TS.h t6 3 1 = 0) && (decide (TS.h t6 3 2 = 2) && true))) = false ∧ (decide (TS.h t6 3 0 = 0) && (decide (TS.h t6 3 1 = 0) && (decide (TS.h t6 3 2 = 2) && true))) = false ∧ (decide (TS.h t6 3 0 = 0) && (decide (TS.h t6 3 1 = 0) && (decide (TS.h t6 3 2 = 2) && true))) = false ∧ (decide (TS.h t6 3 0 = 0) && (decide (TS.h t6 3 1 = 0) && (decide
  (TS.h t6 3 2 = 2) && true))) = false ∧ (decide (TS.h t6 3 0 = 0) && (decide (TS.h t6 3 1 = 0) && (decide (TS.h t6 3 2 = 2) && true))) = false ∧ (AV.b false) = V)) ∧ ((!!(decide (A 0 = 3) && (decide (M 0 = 1) && (decide (W 0 = 2) && true)))) = false → (!!(decide (A 0 = 3) && (decide (M 0 = 1) && (decide (W 0 = 2) && true)))) = false ∧ (!!(decide (A 0 = 3) && (decide (M 0 = 1) && (decide (W 0 = 2) && true)))) = false ∧ (!(decide (A 0 = 3) && (decide (M 0 = 1) && (decide (W 0 = 2) && true)))) = true ∧ (AV.b false) = V)) := by kernel_rfl
theorem names_vc (t1 : TS) (t2 : TS) (A : Nat → Int) (V : AV) : runK Try.prog 1000000 (.call 3 [] (mkH [])) (Orc.cal [] (AV.tup [tsV t1, AV.i .i64 2]) [] (Orc.cal [] (AV.tup [tsV t2, AV.i .i64 2]) [] (Orc.cal [] (AV.b true) [] (oc 12 (Orc.cal [] (AV.b true) [] (oc 3 (Orc.cal [] (svN 0 A A A) [] (oc 3 Orc.z)))))))) (fun r _ => rvIs V r) = (Con Try.prog 10 [AV.agg zL, AV.i .i64 19, AV.i .i64 0, AV.i .i64 1] [] (AV.tup [tsV t1, AV.i .i64 2]) [] ∧ Con Try.prog 11 [AV.agg zL, AV.i .i64 0, AV.i .i64 3] [] (AV.tup [tsV t2, AV.i .i64 2]) [] ∧ Con Try.prog 12 [] [] (AV.b true) [] ∧ Con Try.prog 13 [AV.agg zL] [] (AV.b true) [] ∧ Con Try.prog 14 [AV.agg zL, AV.i .i64 0] [] (svN 0 A A A) [] ∧ (AV.b true) = V) := by kernel_rfl
theorem goL_len : ∀ (q : List HQ) (h : Nat → Int), (goL h q).q.length ≤ q.length
  | [], h => Nat.le_refl _
  | x :: q, h => by
    unfold goL
    cases canB h x.a x.m with
    | true => exact Nat.le_trans (goL_len q _) (by simp)
    | false => exact Nat.le_refl _
theorem LS.ok.set {s : LS} (ok : s.ok) (l : Nat) {r : Rw} (h : r.q.length ≤ 1000) : (s.set l r).ok := by
  refine ⟨ok.m, ok.s, fun j => ?_⟩
  show ((s.set l r).row j).q.length ≤ _
  unfold LS.set
  cases hb : Nat.beq j l with
  | true => simp only [hb, cond_true]; omega
  | false => simp only [hb, cond_false]; exact ok.q j
theorem zS_ok : zS.ok := ⟨⟨by decide, by decide⟩, fun i => ⟨by show 0 ≤ _; omega, by show 0 ≤ _; omega, by show 0 ≤ _; omega, by show 0 ≤ _; omega⟩, fun l => by show 0 ≤ _; omega⟩
theorem askS_ok {s : LS} (ok : s.ok) (l k m : Int) : (askS s l k m).ok := by
  unfold askS
  cases h : okA s l k m with
  | false => exact zS_ok
  | true =>
    unfold okA at h
    simp only [Bool.and_eq_true] at h
    obtain ⟨h1, h2, h3, h4⟩ := h
    have hl : 0 ≤ l ∧ l < 19 := by simpa [isLockB] using h1
    have hk : 0 ≤ k ∧ k < 3 := by simpa [isServerB] using h2
    have ha := askR_ok (mayB_ok (va_row h4 (l := l.toNat) (by omega))) m hk
    exact ok.set _ (Nat.le_trans (goL_len _ _) ha.1)
theorem freeS_ok {s : LS} (ok : s.ok) (l k : Int) : (freeS s l k).ok := by
  unfold freeS
  cases h : okF s l k with
  | false => exact zS_ok
  | true =>
    unfold okF at h
    simp only [Bool.and_eq_true] at h
    obtain ⟨h1, h2, h4⟩ := h
    have hl : 0 ≤ l ∧ l < 19 := by simpa [isLockB] using h1
    have ha := freeR_ok (mayB_ok (va_row h4 (l := l.toNat) (by omega))) k
    exact ok.set _ (Nat.le_trans (goL_len _ _) ha.1)
def w1 : LS := askS zS 3 0 1
def w2 : LS := askS w1 3 1 1
def w3 : LS := askS w2 3 2 2
def w4 : LS := askS w3 3 0 2
def w5 : LS := freeS w4 3 1
def w6 : LS := freeS w5 3 0
def w7 : LS := dropS w6 2
theorem w1_ok : w1.ok := askS_ok zS_ok _ _ _
theorem w2_ok : w2.ok := askS_ok w1_ok _ _ _
theorem w3_ok : w3.ok := askS_ok w2_ok _ _ _
theorem w4_ok : w4.ok := askS_ok w3_ok _ _ _
theorem w5_ok : w5.ok := freeS_ok w4_ok _ _
theorem w6_ok : w6.ok := freeS_ok w5_ok _ _
theorem e1 : askE zS 3 0 1 = 0 := by kernel_rfl
theorem e2 : askE w1 3 1 1 = 0 := by kernel_rfl
theorem e3 : askE w2 3 2 2 = 0 := by kernel_rfl
theorem e4 : askE w3 3 0 2 = 0 := by kernel_rfl
theorem e5 : freeE w4 3 1 = 0 := by kernel_rfl
theorem e6 : freeE w5 3 0 = 0 := by kernel_rfl
theorem e3v : vaS w3 = true := by kernel_rfl
theorem e3h : hldS w3 0 = [⟨3, 1, 2⟩] := by kernel_rfl
theorem e6h : (w6.row 3).h 0 = 0 ∧ (w6.row 3).h 1 = 0 ∧ (w6.row 3).h 2 = 2 ∧ (w6.row 3).q = [] := ⟨by kernel_rfl, by kernel_rfl, by kernel_rfl, by kernel_rfl⟩
theorem e7h : (w7.row 3).h 2 = 0 := by kernel_rfl
theorem ask0_con (l k m : Int) : Con Try.prog 10 [.agg zL, .i .i64 l, .i .i64 k, .i .i64 m] [] (.tup [lsV (askS zS l k m), .i .i64 (askE zS l k m)]) [] :=
  (ask_con zS zS_ok l k m).pre ⟨.agg zL_vw, .refl _, .refl _, .refl _, trivial⟩
theorem free0_con (l k : Int) : Con Try.prog 11 [.agg zL, .i .i64 l, .i .i64 k] [] (.tup [lsV (freeS zS l k), .i .i64 (freeE zS l k)]) [] :=
  (free_con zS zS_ok l k).pre ⟨.agg zL_vw, .refl _, .refl _, trivial⟩
theorem awake_con : Con Try.prog 12 [] [] (.b true) [] := by
  have a1 : Con Try.prog 10 [.agg zL, .i .i64 3, .i .i64 0, .i .i64 1] [] (.tup [tsV w1.ts, .i .i64 (askE zS 3 0 1)]) [] := ask0_con 3 0 1
  have a2 : Con Try.prog 10 [tsV w1.ts, .i .i64 3, .i .i64 1, .i .i64 1] [] (.tup [tsV w2.ts, .i .i64 (askE w1 3 1 1)]) [] := ask_con w1 w1_ok 3 1 1
  have a3 : Con Try.prog 10 [tsV w2.ts, .i .i64 3, .i .i64 2, .i .i64 2] [] (.tup [tsV w3.ts, .i .i64 (askE w2 3 2 2)]) [] := ask_con w2 w2_ok 3 2 2
  have h3 : Con Try.prog 14 [tsV w3.ts, .i .i64 0] [] (svQ (hldS w3 0)) [] := holds_con w3 w3_ok 0
  have v3 : Con Try.prog 13 [tsV w3.ts] [] (.b (vaS w3)) [] := valid_con w3 w3_ok
  have a4 : Con Try.prog 10 [tsV w3.ts, .i .i64 3, .i .i64 0, .i .i64 2] [] (.tup [tsV w4.ts, .i .i64 (askE w3 3 0 2)]) [] := ask_con w3 w3_ok 3 0 2
  have f5 : Con Try.prog 11 [tsV w4.ts, .i .i64 3, .i .i64 1] [] (.tup [tsV w5.ts, .i .i64 (freeE w4 3 1)]) [] := free_con w4 w4_ok 3 1
  have f6 : Con Try.prog 11 [tsV w5.ts, .i .i64 3, .i .i64 0] [] (.tup [tsV w6.ts, .i .i64 (freeE w5 3 0)]) [] := free_con w5 w5_ok 3 0
  have d7 : Con Try.prog 19 [tsV w6.ts, .i .i64 2] [] (tsV w7.ts) [] := drop_con w6 w6_ok 2
  have gg : Con Try.prog 24 [.i .i64 1, .i .i64 2] [] (.b (goesB 1 2)) [] := goes_con 1 2
  have g0 : goesB 1 2 = false := by kernel_rfl
  rw [e1] at a1; rw [e2] at a2; rw [e3] at a3; rw [e3h] at h3; rw [e3v] at v3; rw [e4] at a4; rw [e5] at f5; rw [e6] at f6; rw [g0] at gg
  obtain ⟨q0, q1, q2, q3⟩ := e6h
  have r0 : w6.ts.h 3 0 = 0 := q0
  have r1 : w6.ts.h 3 1 = 0 := q1
  have r2 : w6.ts.h 3 2 = 2 := q2
  have r3 : w6.ts.n 3 = 0 := by show (w6.row 3).q.length = 0; rw [q3]; rfl
  have r7 : w7.ts.h 3 2 = 0 := e7h
  refine con_pureX (awake_vc w1.ts w2.ts w3.ts w4.ts w5.ts w6.ts w7.ts (qA [⟨3, 1, 2⟩]) (qM [⟨3, 1, 2⟩]) (qW [⟨3, 1, 2⟩]) _) rfl ?_
  generalize w1.ts = t1 at *
  generalize w2.ts = t2 at *
  generalize w3.ts = t3 at *
  generalize w4.ts = t4 at *
  generalize w5.ts = t5 at *
  generalize w6.ts = t6 at *
  generalize w7.ts = t7 at *
  refine ⟨a1, a2, a3, h3, ⟨by decide, by decide⟩, trivial, trivial, fun hX => ⟨hX, v3, hX, trivial, by simpa using hX, a4, f5, f6, trivial, trivial, fun hY => ⟨trivial, hY, hY, hY, hY, hY, fun hZ => ⟨gg, hZ, trivial, hZ, d7, ?_⟩, fun hZ => ?_⟩, fun hY => ?_⟩, fun hX => ?_⟩
  · rw [r7]; rfl
  · exfalso; rw [r3] at hZ; revert hZ; decide
  · exfalso; rw [r0, r1, r2] at hY; revert hY; decide
  · exfalso; revert hX; decide
theorem e1n : askE zS 19 0 1 = 2 := by kernel_rfl
theorem e2n : freeE zS 0 3 = 2 := by kernel_rfl
theorem e3n : vaS zS = true := by kernel_rfl
theorem e4n : hldS zS 0 = [] := by kernel_rfl
theorem names_con : Con Try.prog 3 [] [] (.b true) [] := by
  have a1 : Con Try.prog 10 [.agg zL, .i .i64 19, .i .i64 0, .i .i64 1] [] (.tup [tsV (askS zS 19 0 1).ts, .i .i64 (askE zS 19 0 1)]) [] := ask0_con 19 0 1
  have f1 : Con Try.prog 11 [.agg zL, .i .i64 0, .i .i64 3] [] (.tup [tsV (freeS zS 0 3).ts, .i .i64 (freeE zS 0 3)]) [] := free0_con 0 3
  have v1 : Con Try.prog 13 [.agg zL] [] (.b (vaS zS)) [] := (valid_con zS zS_ok).pre ⟨.agg zL_vw, trivial⟩
  have h1 : Con Try.prog 14 [.agg zL, .i .i64 0] [] (svQ (hldS zS 0)) [] := (holds_con zS zS_ok 0).pre ⟨.agg zL_vw, .refl _, trivial⟩
  rw [e1n] at a1; rw [e2n] at f1; rw [e3n] at v1; rw [e4n] at h1
  exact con_pureX (names_vc (askS zS 19 0 1).ts (freeS zS 0 3).ts (qA []) _) rfl ⟨a1, f1, awake_con, v1, h1, rfl⟩
end Go.Proofs.Lk
