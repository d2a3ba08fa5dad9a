/- Runs over unknown values, told by the kernel: part Clk. -/
import Derived.Test.YtfbadhofjhjnmaaSymI
import Derived.Test.YtfbadhofjhjnmaaRows
set_option linter.unusedSimpArgs false
set_option linter.unusedVariables false
namespace Go.Proofs.Clk
open Go Go.Sim Go.Proofs

noncomputable def isT (t : Int) : Bool := decide (0 ≤ t ∧ t ≤ 4503599627370496)
noncomputable def isR (r : Int) : Bool := decide (0 ≤ r ∧ r ≤ 999)
/-- How far apart, in thousandths. -/
def gap (d a : Int) : Int := if d ≤ a then (a - d) * 1000 else (d - a) * 1000
noncomputable def lst (d a : Int) : Int :=
  if isT d = false ∨ isT a = false then 1000 else if d = a then 0 else if d = 0 then 1000 else if 1000 < (gap d a + d - 1) / d then 1000 else (gap d a + d - 1) / d
noncomputable def hon (d a r : Int) : Bool := isT d && (isT a && (isR r && decide (gap d a ≤ r * d)))

theorem isT_iff {t : Int} : isT t = true ↔ 0 ≤ t ∧ t ≤ 4503599627370496 := by simp [isT]
theorem isT_not {t : Int} : isT t = false ↔ ¬ (0 ≤ t ∧ t ≤ 4503599627370496) := by rw [← isT_iff]; simp
theorem isR_iff {t : Int} : isR t = true ↔ 0 ≤ t ∧ t ≤ 999 := by simp [isR]
theorem isR_not {t : Int} : isR t = false ↔ ¬ (0 ≤ t ∧ t ≤ 999) := by rw [← isR_iff]; simp

theorem gap_nonneg (d a : Int) : 0 ≤ gap d a := by unfold gap; split <;> omega
theorem gap_max (d a : Int) : (if a - d > d - a then a - d else d - a) * 1000 = gap d a := by unfold gap; split <;> split <;> omega
theorem gap_max' (d a : Int) : (if d - a > a - d then d - a else a - d) * 1000 = gap d a := by unfold gap; split <;> split <;> omega

theorem ceil_le {g d m : Int} (hd : 0 < d) : (g + d - 1) / d ≤ m ↔ g ≤ m * d := by
  have h1 := Int.mul_ediv_add_emod (g + d - 1) d
  have h2 := Int.emod_nonneg (g + d - 1) (by omega : d ≠ 0)
  have h3 := Int.emod_lt_of_pos (g + d - 1) hd
  generalize (g + d - 1) / d = q at *
  generalize (g + d - 1) % d = r at *
  constructor
  · intro h
    have : d * q ≤ d * m := Int.mul_le_mul_of_nonneg_left h (by omega)
    rw [Int.mul_comm m d]; omega
  · intro h
    apply Classical.byContradiction
    intro hn
    have : d * (m + 1) ≤ d * q := Int.mul_le_mul_of_nonneg_left (by omega) (by omega)
    rw [Int.mul_add] at this
    rw [Int.mul_comm m d] at h
    omega

theorem lst_bounds (d a : Int) : 0 ≤ lst d a ∧ lst d a ≤ 1000 := by
  unfold lst
  split
  · omega
  · rename_i h
    split
    · omega
    · split
      · omega
      · split
        · omega
        · simp only [not_or, Bool.not_eq_false, isT_iff] at h
          have : 0 ≤ (gap d a + d - 1) / d := Int.ediv_nonneg (by have := gap_nonneg d a; omega) (by omega)
          omega

theorem hon_lst (d a r : Int) : hon d a r = (isR r && decide (lst d a ≤ r)) := by
  rw [Bool.eq_iff_iff]
  simp only [hon, Bool.and_eq_true, decide_eq_true_eq]
  unfold lst
  constructor
  · rintro ⟨h1, h2, h3, h4⟩
    refine ⟨h3, ?_⟩
    rw [isR_iff] at h3
    rw [if_neg (by simp [h1, h2])]
    rw [isT_iff] at h1 h2
    split
    · omega
    · rename_i hne
      split
      · rename_i h0
        exfalso
        subst h0
        unfold gap at h4
        split at h4 <;> omega
      · have := (ceil_le (g := gap d a) (d := d) (m := r) (by omega)).2 h4
        split <;> omega
  · rintro ⟨h3, h4⟩
    have h3' := isR_iff.1 h3
    split at h4
    · omega
    · rename_i h
      simp only [not_or, Bool.not_eq_false] at h
      refine ⟨h.1, h.2, h3, ?_⟩
      have h1 := isT_iff.1 h.1
      have h2 := isT_iff.1 h.2
      split at h4
      · rename_i e
        subst e
        have : gap d d = 0 := by unfold gap; split <;> omega
        rw [this]
        exact Int.mul_nonneg (by omega) (by omega)
      · split at h4
        · omega
        · split at h4
          · omega
          · exact (ceil_le (by omega)).1 h4

theorem isTime_vc (t : Int) (K : Res → Orc → Prop) : runK Try.prog 1000000 (.call 63 [.i .i64 t] (mkH []))
    (Orc.s (Orc.t (Orc.t Orc.z)) (Orc.f (Orc.f Orc.z))) K =
    ((decide (0 ≤ t) = true → decide (0 ≤ t) = true ∧ decide (0 ≤ t) = true ∧ K (Res.rv (AV.b (decide (t ≤ 4503599627370496))) { tree := T.e, next := 0, log := [] }) Orc.z) ∧ (decide (0 ≤ t) = false → decide (0 ≤ t) = false ∧ decide (0 ≤ t) = false ∧ K (Res.rv (AV.b false) { tree := T.e, next := 0, log := [] }) Orc.z)) := by kernel_rfl
theorem time_vc (t : Int) (K : Res → Orc → Prop) : runK Try.prog 1000000 (.call 65 [.i .i64 t] (mkH []))
    (Orc.s (Orc.t (Orc.t Orc.z)) (Orc.f (Orc.f Orc.z))) K =
    ((decide (0 ≤ t) = true → decide (0 ≤ t) = true ∧ decide (0 ≤ t) = true ∧ K (Res.rv (AV.b (decide (t ≤ 4503599627370496))) { tree := T.e, next := 0, log := [] }) Orc.z) ∧ (decide (0 ≤ t) = false → decide (0 ≤ t) = false ∧ decide (0 ≤ t) = false ∧ K (Res.rv (AV.b false) { tree := T.e, next := 0, log := [] }) Orc.z)) := by kernel_rfl
theorem isRho_vc (t : Int) (K : Res → Orc → Prop) : runK Try.prog 1000000 (.call 64 [.i .i64 t] (mkH []))
    (Orc.s (Orc.t (Orc.t Orc.z)) (Orc.f (Orc.f Orc.z))) K =
    ((decide (0 ≤ t) = true → decide (0 ≤ t) = true ∧ decide (0 ≤ t) = true ∧ K (Res.rv (AV.b (decide (t ≤ 999))) { tree := T.e, next := 0, log := [] }) Orc.z) ∧ (decide (0 ≤ t) = false → decide (0 ≤ t) = false ∧ decide (0 ≤ t) = false ∧ K (Res.rv (AV.b false) { tree := T.e, next := 0, log := [] }) Orc.z)) := by kernel_rfl

theorem isTime_con (t : Int) : Con Try.prog 63 [.i .i64 t] [] (.b (isT t)) [] := by
  refine con_plain rfl ((isTime_vc _ _).mpr ?_)
  refine ⟨fun h => ⟨h, h, _, _, rfl, ?_⟩, fun h => ⟨h, h, _, _, rfl, ?_⟩⟩
  · simp at h; simp [isT, h]
  · simp at h; simp [isT]; omega
theorem time_con (t : Int) : Con Try.prog 65 [.i .i64 t] [] (.b (isT t)) [] := by
  refine con_plain rfl ((time_vc _ _).mpr ?_)
  refine ⟨fun h => ⟨h, h, _, _, rfl, ?_⟩, fun h => ⟨h, h, _, _, rfl, ?_⟩⟩
  · simp at h; simp [isT, h]
  · simp at h; simp [isT]; omega
theorem isRho_con (t : Int) : Con Try.prog 64 [.i .i64 t] [] (.b (isR t)) [] := by
  refine con_plain rfl ((isRho_vc _ _).mpr ?_)
  refine ⟨fun h => ⟨h, h, _, _, rfl, ?_⟩, fun h => ⟨h, h, _, _, rfl, ?_⟩⟩
  · simp at h; simp [isR, h]
  · simp at h; simp [isR]; omega
end Go.Proofs.Clk

namespace Go.Proofs.Clk
open Go Go.Sim Go.Proofs

theorem least_vc (d a : Int) (K : Res → Orc → Prop) : runK Try.prog 1000000 (.call 45 [.i .i64 d, .i .i64 a] (mkH []))
    (Orc.cal [] (AV.b (isT d)) [] (Orc.s (Orc.t (Orc.cal [] (AV.b (isT a)) [] (Orc.t (Orc.f (Orc.s Orc.z (Orc.s Orc.z (Orc.s Orc.z Orc.z))))))) (Orc.f (Orc.f (Orc.t (Orc.c Orc.z)))))) K =
    (Con Try.prog (63 : FuncId) [AV.i IntKind.i64 d] [] (AV.b (isT d)) [] ∧ True ∧ ((!!isT d) = true → (!!isT d) = true ∧ Con Try.prog (63 : FuncId) [AV.i IntKind.i64 a] [] (AV.b (isT a)) [] ∧ (!!isT d) = true ∧ True ∧ (!isT d) = false ∧ ((!isT a) = true → K (Res.rv (AV.i IntKind.i64 (1000 : Int)) { tree := T.e, next := (0 : Nat), log := [] }) Orc.z) ∧ ((!isT a) = false → (decide (d = a) = true → K (Res.rv (AV.i IntKind.i64 (0 : Int)) { tree := T.e, next := (0 : Nat), log := [] }) Orc.z) ∧ (decide (d = a) = false → (decide (d = (0 : Int)) = true → K (Res.rv (AV.i IntKind.i64 (1000 : Int)) { tree := T.e, next := (0 : Nat), log := [] }) Orc.z) ∧ (decide (d = (0 : Int)) = false → ((-9223372036854775808 : Int) ≤ d - a ∧ d - a ≤ (9223372036854775807 : Int)) ∧ ((-9223372036854775808 : Int) ≤ a - d ∧ a - d ≤ (9223372036854775807 : Int)) ∧ ((-9223372036854775808 : Int) ≤ (if a - d > d - a then a - d else d - a) * (1000 : Int) ∧ (if a - d > d - a then a - d else d - a) * (1000 : Int) ≤ (9223372036854775807 : Int)) ∧ ((-9223372036854775808 : Int) ≤ (if a - d > d - a then a - d else d - a) * (1000 : Int) + d ∧ (if a - d > d - a then a - d else d - a) * (1000 : Int) + d ≤ (9223372036854775807 : Int)) ∧ ((-9223372036854775808 : Int) ≤ (if a - d > d - a then a - d else d - a) * (1000 : Int) + d - (1 : Int) ∧ (if a - d > d - a then a - d else d - a) * (1000 : Int) + d - (1 : Int) ≤ (9223372036854775807 : Int)) ∧ (d ≠ (0 : Int) ∧ (-9223372036854775808 : Int) ≤ Int.tdiv ((if a - d > d - a then a - d else d - a) * (1000 : Int) + d - (1 : Int)) d ∧ Int.tdiv ((if a - d > d - a then a - d else d - a) * (1000 : Int) + d - (1 : Int)) d ≤ (9223372036854775807 : Int)) ∧ K (Res.rv (AV.i IntKind.i64 (if (1000 : Int) < Int.tdiv ((if a - d > d - a then a - d else d - a) * (1000 : Int) + d - (1 : Int)) d then (1000 : Int) else Int.tdiv ((if a - d > d - a then a - d else d - a) * (1000 : Int) + d - (1 : Int)) d)) { tree := T.e, next := (0 : Nat), log := [] }) Orc.z)))) ∧ ((!!isT d) = false → (!!isT d) = false ∧ (!!isT d) = false ∧ (!isT d) = true ∧ K (Res.rv (AV.i IntKind.i64 (1000 : Int)) { tree := T.e, next := (0 : Nat), log := [] }) Orc.z)) := by kernel_rfl

theorem rHonest_vc (d a rho : Int) (K : Res → Orc → Prop) : runK Try.prog 1000000 (.call 44 [.i .i64 d, .i .i64 a, .i .i64 rho] (mkH []))
    (Orc.cal [] (AV.b (isT d)) [] (Orc.s (Orc.t (Orc.cal [] (AV.b (isT a)) [] (Orc.t (Orc.f (Orc.s (Orc.t (Orc.f (Orc.s (Orc.t (Orc.f (Orc.s Orc.z Orc.z))) (Orc.f (Orc.t (Orc.c Orc.z)))))) (Orc.f (Orc.t (Orc.c (Orc.c (Orc.c (Orc.c Orc.z))))))))))) (Orc.f (Orc.f (Orc.t (Orc.c (Orc.c (Orc.c (Orc.c (Orc.c (Orc.c (Orc.c Orc.z)))))))))))) K =
    (Con Try.prog (65 : FuncId) [AV.i IntKind.i64 d] [] (AV.b (isT d)) [] ∧ True ∧ ((!!isT d) = true → (!!isT d) = true ∧ Con Try.prog (65 : FuncId) [AV.i IntKind.i64 a] [] (AV.b (isT a)) [] ∧ (!!isT d) = true ∧ True ∧ (!isT d) = false ∧ ((!!isT a) = true → (!!isT a) = true ∧ (!isT a) = false ∧ ((!decide (rho < (0 : Int))) = true → (!decide (rho < (0 : Int))) = true ∧ decide (rho < (0 : Int)) = false ∧ (decide ((999 : Int) < rho) = true → K (Res.rv (AV.b false) { tree := T.e, next := (0 : Nat), log := [] }) Orc.z) ∧ (decide ((999 : Int) < rho) = false → ((-9223372036854775808 : Int) ≤ a - d ∧ a - d ≤ (9223372036854775807 : Int)) ∧ ((-9223372036854775808 : Int) ≤ d - a ∧ d - a ≤ (9223372036854775807 : Int)) ∧ ((-9223372036854775808 : Int) ≤ (if d - a > a - d then d - a else a - d) * (1000 : Int) ∧ (if d - a > a - d then d - a else a - d) * (1000 : Int) ≤ (9223372036854775807 : Int)) ∧ ((-9223372036854775808 : Int) ≤ rho * d ∧ rho * d ≤ (9223372036854775807 : Int)) ∧ K (Res.rv (AV.b (decide ((if d - a > a - d then d - a else a - d) * (1000 : Int) ≤ rho * d))) { tree := T.e, next := (0 : Nat), log := [] }) Orc.z)) ∧ ((!decide (rho < (0 : Int))) = false → (!decide (rho < (0 : Int))) = false ∧ decide (rho < (0 : Int)) = true ∧ K (Res.rv (AV.b false) { tree := T.e, next := (0 : Nat), log := [] }) Orc.z)) ∧ ((!!isT a) = false → (!!isT a) = false ∧ (!isT a) = true ∧ K (Res.rv (AV.b false) { tree := T.e, next := (0 : Nat), log := [] }) Orc.z)) ∧ ((!!isT d) = false → (!!isT d) = false ∧ (!!isT d) = false ∧ (!isT d) = true ∧ K (Res.rv (AV.b false) { tree := T.e, next := (0 : Nat), log := [] }) Orc.z)) := by kernel_rfl

theorem honest_vc (d a rho : Int) (K : Res → Orc → Prop) : runK Try.prog 1000000 (.call 43 [.i .i64 d, .i .i64 a, .i .i64 rho] (mkH []))
    (Orc.cal [] (AV.b (isR rho)) [] (Orc.s (Orc.t (Orc.t (Orc.cal [] (AV.i IntKind.i64 (lst d a)) [] (Orc.t (Orc.t (Orc.t Orc.z)))))) (Orc.f (Orc.f (Orc.f (Orc.f (Orc.f Orc.z))))))) K =
    (Con Try.prog (64 : FuncId) [AV.i IntKind.i64 rho] [] (AV.b (isR rho)) [] ∧ (isR rho = true → isR rho = true ∧ isR rho = true ∧ Con Try.prog (45 : FuncId) [AV.i IntKind.i64 d, AV.i IntKind.i64 a] [] (AV.i IntKind.i64 (lst d a)) [] ∧ isR rho = true ∧ isR rho = true ∧ isR rho = true ∧ K (Res.rv (AV.b (decide (lst d a ≤ rho))) { tree := T.e, next := (0 : Nat), log := [] }) Orc.z) ∧ (isR rho = false → isR rho = false ∧ isR rho = false ∧ isR rho = false ∧ isR rho = false ∧ isR rho = false ∧ K (Res.rv (AV.b false) { tree := T.e, next := (0 : Nat), log := [] }) Orc.z)) := by kernel_rfl

theorem shrink_vc (t rho : Int) (K : Res → Orc → Prop) : runK Try.prog 1000000 (.call 41 [.i .i64 t, .i .i64 rho] (mkH []))
    (Orc.cal [] (AV.b (isT t)) [] (Orc.s (Orc.t (Orc.cal [] (AV.b (isR rho)) [] (Orc.t (Orc.f (Orc.s Orc.z Orc.z))))) (Orc.f (Orc.f (Orc.t (Orc.c Orc.z)))))) K =
    (Con Try.prog (63 : FuncId) [AV.i IntKind.i64 t] [] (AV.b (isT t)) [] ∧ True ∧ ((!!isT t) = true → (!!isT t) = true ∧ Con Try.prog (64 : FuncId) [AV.i IntKind.i64 rho] [] (AV.b (isR rho)) [] ∧ (!!isT t) = true ∧ True ∧ (!isT t) = false ∧ ((!isR rho) = true → K (Res.rv (AV.tup [AV.i IntKind.i64 (0 : Int), AV.i IntKind.i64 (2 : Int)]) { tree := T.e, next := (0 : Nat), log := [] }) Orc.z) ∧ ((!isR rho) = false → ((-9223372036854775808 : Int) ≤ (1000 : Int) - rho ∧ (1000 : Int) - rho ≤ (9223372036854775807 : Int)) ∧ ((-9223372036854775808 : Int) ≤ t * ((1000 : Int) - rho) ∧ t * ((1000 : Int) - rho) ≤ (9223372036854775807 : Int)) ∧ ((-9223372036854775808 : Int) ≤ (1000 : Int) + rho ∧ (1000 : Int) + rho ≤ (9223372036854775807 : Int)) ∧ ((1000 : Int) + rho ≠ (0 : Int) ∧ (-9223372036854775808 : Int) ≤ Int.tdiv (t * ((1000 : Int) - rho)) ((1000 : Int) + rho) ∧ Int.tdiv (t * ((1000 : Int) - rho)) ((1000 : Int) + rho) ≤ (9223372036854775807 : Int)) ∧ K (Res.rv (AV.tup [AV.i IntKind.i64 (Int.tdiv (t * ((1000 : Int) - rho)) ((1000 : Int) + rho)), AV.i IntKind.i64 (0 : Int)]) { tree := T.e, next := (0 : Nat), log := [] }) Orc.z)) ∧ ((!!isT t) = false → (!!isT t) = false ∧ (!!isT t) = false ∧ (!isT t) = true ∧ K (Res.rv (AV.tup [AV.i IntKind.i64 (0 : Int), AV.i IntKind.i64 (2 : Int)]) { tree := T.e, next := (0 : Nat), log := [] }) Orc.z)) := by kernel_rfl

theorem rShrink_vc (t rho : Int) (K : Res → Orc → Prop) : runK Try.prog 1000000 (.call 42 [.i .i64 t, .i .i64 rho] (mkH []))
    (Orc.cal [] (AV.b (isT t)) [] (Orc.s (Orc.t (Orc.f (Orc.s (Orc.t (Orc.f (Orc.s Orc.z Orc.z))) (Orc.f (Orc.t (Orc.c Orc.z)))))) (Orc.f (Orc.t (Orc.c (Orc.c (Orc.c (Orc.c Orc.z)))))))) K =
    (Con Try.prog (65 : FuncId) [AV.i IntKind.i64 t] [] (AV.b (isT t)) [] ∧ True ∧ ((!!isT t) = true → (!!isT t) = true ∧ (!isT t) = false ∧ ((!decide (rho < (0 : Int))) = true → (!decide (rho < (0 : Int))) = true ∧ decide (rho < (0 : Int)) = false ∧ (decide ((999 : Int) < rho) = true → K (Res.rv (AV.tup [AV.i IntKind.i64 (0 : Int), AV.i IntKind.i64 (2 : Int)]) { tree := T.e, next := (0 : Nat), log := [] }) Orc.z) ∧ (decide ((999 : Int) < rho) = false → ((-9223372036854775808 : Int) ≤ (1000 : Int) - rho ∧ (1000 : Int) - rho ≤ (9223372036854775807 : Int)) ∧ ((-9223372036854775808 : Int) ≤ t * ((1000 : Int) - rho) ∧ t * ((1000 : Int) - rho) ≤ (9223372036854775807 : Int)) ∧ ((-9223372036854775808 : Int) ≤ (1000 : Int) + rho ∧ (1000 : Int) + rho ≤ (9223372036854775807 : Int)) ∧ ((1000 : Int) + rho ≠ (0 : Int) ∧ (-9223372036854775808 : Int) ≤ Int.tdiv (t * ((1000 : Int) - rho)) ((1000 : Int) + rho) ∧ Int.tdiv (t * ((1000 : Int) - rho)) ((1000 : Int) + rho) ≤ (9223372036854775807 : Int)) ∧ K (Res.rv (AV.tup [AV.i IntKind.i64 (Int.tdiv (t * ((1000 : Int) - rho)) ((1000 : Int) + rho)), AV.i IntKind.i64 (0 : Int)]) { tree := T.e, next := (0 : Nat), log := [] }) Orc.z)) ∧ ((!decide (rho < (0 : Int))) = false → (!decide (rho < (0 : Int))) = false ∧ decide (rho < (0 : Int)) = true ∧ K (Res.rv (AV.tup [AV.i IntKind.i64 (0 : Int), AV.i IntKind.i64 (2 : Int)]) { tree := T.e, next := (0 : Nat), log := [] }) Orc.z)) ∧ ((!!isT t) = false → (!!isT t) = false ∧ (!isT t) = true ∧ K (Res.rv (AV.tup [AV.i IntKind.i64 (0 : Int), AV.i IntKind.i64 (2 : Int)]) { tree := T.e, next := (0 : Nat), log := [] }) Orc.z)) := by kernel_rfl

theorem rLeastLoop_vc (d a low high : Int) (K : Res → Orc → Prop) : runK Try.prog 1000000 (.code (loopAt Try.prog 46 0) 23 (mkT [(0, .i .i64 d), (1, .i .i64 a), (5, .i .i64 low), (6, .i .i64 high)]) (mkH []))
    (Orc.s (Orc.cal [] (AV.b (hon d a (Int.tdiv (low + high) (2 : Int)))) [] (Orc.s Orc.z Orc.z)) Orc.z) K =
    ((decide (low < high) = true → ((-9223372036854775808 : Int) ≤ low + high ∧ low + high ≤ (9223372036854775807 : Int)) ∧ ((2 : Int) ≠ (0 : Int) ∧ (-9223372036854775808 : Int) ≤ Int.tdiv (low + high) (2 : Int) ∧ Int.tdiv (low + high) (2 : Int) ≤ (9223372036854775807 : Int)) ∧ Con Try.prog (44 : FuncId) [AV.i IntKind.i64 d, AV.i IntKind.i64 a, AV.i IntKind.i64 (Int.tdiv (low + high) (2 : Int))] [] (AV.b (hon d a (Int.tdiv (low + high) (2 : Int)))) [] ∧ (hon d a (Int.tdiv (low + high) (2 : Int)) = true → K (Res.st XO.nrm (T.n (some (AV.i IntKind.i64 d)) (T.n (some (AV.i IntKind.i64 a)) (T.n none (T.n (some (AV.i IntKind.i64 (Int.tdiv (low + high) (2 : Int)))) (T.n (some (AV.i IntKind.i64 d)) T.e T.e) T.e) (T.n (some (AV.i IntKind.i64 low)) (T.n (some (AV.i IntKind.i64 (Int.tdiv (low + high) (2 : Int)))) T.e T.e) T.e)) (T.n (some (AV.i IntKind.i64 low)) (T.n (some (AV.i IntKind.i64 high)) (T.n (some (AV.i IntKind.i64 (Int.tdiv (low + high) (2 : Int)))) T.e T.e) T.e) (T.n (some (AV.i IntKind.i64 (low + high))) T.e T.e))) (T.n none (T.n none (T.n (some (AV.i IntKind.i64 low)) (T.n (some (AV.i IntKind.i64 a)) T.e T.e) T.e) (T.n (some (AV.i IntKind.i64 high)) T.e T.e)) (T.n (some (AV.i IntKind.i64 (Int.tdiv (low + high) (2 : Int)))) (T.n (some (AV.b (decide (low < high)))) (T.n (some (AV.b (hon d a (Int.tdiv (low + high) (2 : Int))))) T.e T.e) T.e) (T.n (some (AV.i IntKind.i64 (Int.tdiv (low + high) (2 : Int)))) T.e T.e)))) { tree := T.e, next := (0 : Nat), log := [] }) Orc.z) ∧ (hon d a (Int.tdiv (low + high) (2 : Int)) = false → ((-9223372036854775808 : Int) ≤ Int.tdiv (low + high) (2 : Int) + (1 : Int) ∧ Int.tdiv (low + high) (2 : Int) + (1 : Int) ≤ (9223372036854775807 : Int)) ∧ K (Res.st XO.nrm (T.n (some (AV.i IntKind.i64 d)) (T.n (some (AV.i IntKind.i64 a)) (T.n none (T.n (some (AV.i IntKind.i64 (Int.tdiv (low + high) (2 : Int)))) (T.n (some (AV.i IntKind.i64 d)) T.e T.e) T.e) (T.n (some (AV.i IntKind.i64 low)) T.e T.e)) (T.n (some (AV.i IntKind.i64 (Int.tdiv (low + high) (2 : Int) + (1 : Int)))) (T.n (some (AV.i IntKind.i64 high)) (T.n (some (AV.i IntKind.i64 (Int.tdiv (low + high) (2 : Int)))) T.e T.e) T.e) (T.n (some (AV.i IntKind.i64 (low + high))) (T.n (some (AV.i IntKind.i64 (Int.tdiv (low + high) (2 : Int) + (1 : Int)))) T.e T.e) T.e))) (T.n none (T.n none (T.n (some (AV.i IntKind.i64 low)) (T.n (some (AV.i IntKind.i64 a)) T.e T.e) T.e) (T.n (some (AV.i IntKind.i64 high)) (T.n (some (AV.i IntKind.i64 (Int.tdiv (low + high) (2 : Int)))) T.e T.e) T.e)) (T.n (some (AV.i IntKind.i64 high)) (T.n (some (AV.b (decide (low < high)))) (T.n (some (AV.b (hon d a (Int.tdiv (low + high) (2 : Int))))) T.e T.e) T.e) (T.n (some (AV.i IntKind.i64 (Int.tdiv (low + high) (2 : Int)))) T.e T.e)))) { tree := T.e, next := (0 : Nat), log := [] }) Orc.z)) ∧ (decide (low < high) = false → K (Res.st (XO.exit (0 : Nat)) (T.n (some (AV.i IntKind.i64 d)) (T.n (some (AV.i IntKind.i64 a)) T.e (T.n (some (AV.i IntKind.i64 low)) (T.n (some (AV.i IntKind.i64 high)) T.e T.e) T.e)) (T.n none (T.n none (T.n (some (AV.i IntKind.i64 low)) T.e T.e) T.e) (T.n (some (AV.i IntKind.i64 high)) (T.n (some (AV.b (decide (low < high)))) T.e T.e) T.e))) { tree := T.e, next := (0 : Nat), log := [] }) Orc.z)) := by kernel_rfl

theorem rLeast_vc (d a : Int) (K : Res → Orc → Prop) : runK Try.prog 1000000 (.call 46 [.i .i64 d, .i .i64 a] (mkH []))
    (Orc.lop [] [(0 : Nat), (1 : Nat), (5 : Nat), (6 : Nat)] (0 : Nat) (XO.exit (0 : Nat)) [((5 : Nat), AV.i IntKind.i64 (lst d a))] [] Orc.z) K =
    (LDoes Try.prog (loopAt Try.prog (46 : Nat) (0 : Nat)) (23 : Nat) (0 : Nat) (mkT [((0 : Nat), AV.i IntKind.i64 d), ((1 : Nat), AV.i IntKind.i64 a), ((5 : Nat), AV.i IntKind.i64 (0 : Int)), ((6 : Nat), AV.i IntKind.i64 (1000 : Int))]) [] (XO.exit (0 : Nat)) (mkT [((5 : Nat), AV.i IntKind.i64 (lst d a))]) [] ∧ K (Res.rv (AV.i IntKind.i64 (lst d a)) { tree := T.e, next := (0 : Nat), log := [] }) Orc.z) := by kernel_rfl

theorem gap_le {d a : Int} (h1 : isT d = true) (h2 : isT a = true) : gap d a ≤ 4503599627370496000 := by
  rw [isT_iff] at h1 h2; unfold gap; split <;> omega

theorem least_con (d a : Int) : Con Try.prog 45 [.i .i64 d, .i .i64 a] [] (.i .i64 (lst d a)) [] := by
  refine con_plain rfl ((least_vc _ _ _).mpr ?_)
  rw [gap_max]
  refine ⟨isTime_con _, trivial, fun h1 => ⟨h1, isTime_con _, h1, trivial, by simpa using h1, fun h2 => ⟨_, _, rfl, ?_⟩, fun h2 => ⟨fun h3 => ⟨_, _, rfl, ?_⟩, fun h3 => ⟨fun h4 => ⟨_, _, rfl, ?_⟩, fun h4 => ?_⟩⟩⟩, fun h1 => ⟨h1, h1, by simpa using h1, _, _, rfl, ?_⟩⟩
  · simp at h2; simp [lst, h2]
  · simp at h1 h2 h3; subst h3; simp [lst, h1]
  · simp at h1 h2 h3 h4; subst h4
    simp only [lst, h1, h2]; simp [h3]
  · simp at h1 h2 h3 h4
    have g0 := gap_nonneg d a
    have g1 := gap_le h1 h2
    have d1 := isT_iff.1 h1
    have d2 := isT_iff.1 h2
    have q0 : 0 ≤ (gap d a + d - 1) / d := Int.ediv_nonneg (by omega) (by omega)
    have q1 : (gap d a + d - 1) / d ≤ gap d a + d - 1 := Int.ediv_le_self _ (by omega)
    have e : (gap d a + d - 1).tdiv d = (gap d a + d - 1) / d := Int.tdiv_eq_ediv_of_nonneg (by omega)
    rw [e]
    refine ⟨by omega, by omega, by omega, by omega, by omega, by refine ⟨h4, ?_, ?_⟩ <;> omega, _, _, rfl, ?_⟩
    simp only [lst, h1, h2]; simp [h3, h4]
  · simp at h1; simp [lst, h1]

theorem rHonest_con (d a r : Int) : Con Try.prog 44 [.i .i64 d, .i .i64 a, .i .i64 r] [] (.b (hon d a r)) [] := by
  refine con_plain rfl ((rHonest_vc _ _ _ _).mpr ?_)
  rw [gap_max']
  refine ⟨time_con _, trivial, fun h1 => ⟨h1, time_con _, h1, trivial, by simpa using h1, fun h2 => ⟨h2, by simpa using h2, fun h3 => ⟨h3, by simpa using h3, fun h4 => ⟨_, _, rfl, ?_⟩, fun h4 => ?_⟩, fun h3 => ⟨h3, by simpa using h3, _, _, rfl, ?_⟩⟩, fun h2 => ⟨h2, by simpa using h2, _, _, rfl, ?_⟩⟩, fun h1 => ⟨h1, h1, by simpa using h1, _, _, rfl, ?_⟩⟩
  · simp at h4; have : isR r = false := by rw [isR_not]; omega
    simp [hon, this]
  · simp at h1 h2 h3 h4
    have hr : isR r = true := by rw [isR_iff]; omega
    have g0 := gap_nonneg d a
    have g1 := gap_le h1 h2
    have d1 := isT_iff.1 h1
    have d2 := isT_iff.1 h2
    have m0 : 0 ≤ r * d := Int.mul_nonneg (by omega) (by omega)
    have m1 : r * d ≤ 999 * d := Int.mul_le_mul_of_nonneg_right (by omega) (by omega)
    refine ⟨by omega, by omega, by omega, by omega, _, _, rfl, ?_⟩
    simp [hon, h1, h2, hr]
  · simp at h3; have : isR r = false := by rw [isR_not]; omega
    simp [hon, this]
  · simp at h2; simp [hon, h2]
  · simp at h1; simp [hon, h1]

theorem honest_con (d a r : Int) : Con Try.prog 43 [.i .i64 d, .i .i64 a, .i .i64 r] [] (.b (hon d a r)) [] := by
  refine con_plain rfl ((honest_vc _ _ _ _).mpr ?_)
  refine ⟨isRho_con _, fun h => ⟨h, h, least_con _ _, h, h, h, _, _, rfl, ?_⟩, fun h => ⟨h, h, h, h, h, _, _, rfl, ?_⟩⟩
  · rw [hon_lst, h]; simp
  · rw [hon_lst, h]; simp

noncomputable def shrN (t r : Int) : Int := if isT t && isR r then t * (1000 - r) / (1000 + r) else 0
noncomputable def shrE (t r : Int) : Int := if isT t && isR r then 0 else 2

theorem shr_bounds {t r : Int} (h1 : isT t = true) (h2 : isR r = true) : 0 ≤ t * (1000 - r) ∧ t * (1000 - r) ≤ 4503599627370496000 ∧ 0 ≤ t * (1000 - r) / (1000 + r) ∧ t * (1000 - r) / (1000 + r) ≤ 4503599627370496000 ∧ (t * (1000 - r)).tdiv (1000 + r) = t * (1000 - r) / (1000 + r) := by
  rw [isT_iff] at h1; rw [isR_iff] at h2
  have m0 : 0 ≤ t * (1000 - r) := Int.mul_nonneg (by omega) (by omega)
  have m1 : t * (1000 - r) ≤ t * 1000 := Int.mul_le_mul_of_nonneg_left (by omega) (by omega)
  have q0 : 0 ≤ t * (1000 - r) / (1000 + r) := Int.ediv_nonneg m0 (by omega)
  have q1 : t * (1000 - r) / (1000 + r) ≤ t * (1000 - r) := Int.ediv_le_self _ m0
  exact ⟨m0, by omega, q0, by omega, Int.tdiv_eq_ediv_of_nonneg m0⟩

theorem shrink_con (t r : Int) : Con Try.prog 41 [.i .i64 t, .i .i64 r] [] (.tup [.i .i64 (shrN t r), .i .i64 (shrE t r)]) [] := by
  refine con_plain rfl ((shrink_vc _ _ _).mpr ?_)
  refine ⟨isTime_con _, trivial, fun h1 => ⟨h1, isRho_con _, h1, trivial, by simpa using h1, fun h2 => ⟨_, _, rfl, ?_⟩, fun h2 => ?_⟩, fun h1 => ⟨h1, h1, by simpa using h1, _, _, rfl, ?_⟩⟩
  · simp at h2; simp [shrN, shrE, h2]
  · simp at h1 h2
    obtain ⟨b1, b2, b3, b4, b5⟩ := shr_bounds h1 h2
    have r1 := isR_iff.1 h2
    rw [b5]
    refine ⟨by omega, by omega, by omega, by refine ⟨?_, ?_, ?_⟩ <;> omega, _, _, rfl, ?_⟩
    simp [shrN, shrE, h1, h2]
  · simp at h1; simp [shrN, shrE, h1]

theorem rShrink_con (t r : Int) : Con Try.prog 42 [.i .i64 t, .i .i64 r] [] (.tup [.i .i64 (shrN t r), .i .i64 (shrE t r)]) [] := by
  refine con_plain rfl ((rShrink_vc _ _ _).mpr ?_)
  refine ⟨time_con _, trivial, fun h1 => ⟨h1, by simpa using h1, fun h2 => ⟨h2, by simpa using h2, fun h3 => ⟨_, _, rfl, ?_⟩, fun h3 => ?_⟩, fun h2 => ⟨h2, by simpa using h2, _, _, rfl, ?_⟩⟩, fun h1 => ⟨h1, by simpa using h1, _, _, rfl, ?_⟩⟩
  · simp at h3; have : isR r = false := by rw [isR_not]; omega
    simp [shrN, shrE, this]
  · simp at h1 h2 h3
    have hr : isR r = true := by rw [isR_iff]; omega
    obtain ⟨b1, b2, b3, b4, b5⟩ := shr_bounds h1 hr
    rw [b5]
    refine ⟨by omega, by omega, by omega, by refine ⟨?_, ?_, ?_⟩ <;> omega, _, _, rfl, ?_⟩
    simp [shrN, shrE, h1, hr]
  · simp at h2; have : isR r = false := by rw [isR_not]; omega
    simp [shrN, shrE, this]
  · simp at h1; simp [shrN, shrE, h1]

/-- The halving: what is looked for stays between. -/
theorem rLeastLoop (d a low high : Int) (h0 : 0 ≤ low) (h1 : low ≤ lst d a) (h2 : lst d a ≤ high) (h3 : high ≤ 1000) :
    LDoes Try.prog (loopAt Try.prog 46 0) 23 0 (mkT [(0, .i .i64 d), (1, .i .i64 a), (5, .i .i64 low), (6, .i .i64 high)]) [] (.exit 0) (mkT [(5, .i .i64 (lst d a))]) [] := by
  refine loop_ind (D := Int × Int) (l' := [(5, .i .i64 (lst d a))]) (fun p => ([(0, .i .i64 d), (1, .i .i64 a), (5, .i .i64 p.1), (6, .i .i64 p.2)], [])) (fun p => (p.2 - p.1).toNat)
    (fun p => 0 ≤ p.1 ∧ p.1 ≤ lst d a ∧ lst d a ≤ p.2 ∧ p.2 ≤ 1000) ?_ (low, high) ⟨h0, h1, h2, h3⟩
  rintro ⟨low, high⟩ ⟨h0, h1, h2, h3⟩
  simp only at h0 h1 h2 h3
  refine ⟨Nat.le_refl _, _, _, (rLeastLoop_vc d a low high _).mpr ⟨fun hlt => ?_, fun hge => ?_⟩⟩
  · simp at hlt
    have e : (low + high).tdiv 2 = (low + high) / 2 := Int.tdiv_eq_ediv_of_nonneg (by omega)
    rw [e]
    refine ⟨by omega, by refine ⟨by decide, ?_, ?_⟩ <;> omega, rHonest_con _ _ _, fun hh => ?_, fun hh => ⟨by omega, ?_⟩⟩
    · rw [hon_lst] at hh
      simp at hh
      exact .inl ⟨(low, (low + high) / 2), [], [], _, _, ⟨h0, h1, hh.2, by simp only; omega⟩, by simp only; omega, rfl, st_is [] (by kernel_rfl) rfl rfl rfl trivial rfl⟩
    · have hr : isR ((low + high) / 2) = true := by rw [isR_iff]; omega
      rw [hon_lst, hr] at hh
      simp at hh
      exact .inl ⟨((low + high) / 2 + 1, high), [], [], _, _, ⟨by simp only; omega, by simp only; omega, h2, h3⟩, by simp only; omega, rfl, st_is [] (by kernel_rfl) rfl rfl rfl trivial rfl⟩
  · simp at hge
    obtain rfl : low = lst d a := by omega
    exact .inr ⟨[], [], _, _, rfl, by simp, st_is [] (by kernel_rfl) rfl rfl rfl trivial rfl⟩

theorem rLeast_con (d a : Int) : Con Try.prog 46 [.i .i64 d, .i .i64 a] [] (.i .i64 (lst d a)) [] := by
  have hb := lst_bounds d a
  exact con_plain rfl ((rLeast_vc _ _ _).mpr ⟨rLeastLoop d a 0 1000 (by omega) hb.1 hb.2 (by omega), _, _, rfl, rfl⟩)

theorem awake_con : Con Try.prog 37 [] [] (.b true) [] := closed_con (fuel := 1000000) (by kernel_rfl)

theorem sums_vc (d a r : Int) (K : Res → Orc → Prop) : runK Try.prog 1000000 (.call 8 [.i .i64 d, .i .i64 a, .i .i64 r] (mkH []))
    (Orc.cal [] (AV.b true) [] (Orc.c (Orc.cal [] (AV.tup [AV.i IntKind.i64 (shrN d r), AV.i IntKind.i64 (shrE d r)]) [] (Orc.cal [] (AV.tup [AV.i IntKind.i64 (shrN d r), AV.i IntKind.i64 (shrE d r)]) [] (Orc.cal [] (AV.b (hon d a r)) [] (Orc.cal [] (AV.b (hon d a r)) [] (Orc.s (Orc.t (Orc.t (Orc.cal [] (AV.i IntKind.i64 (lst d a)) [] (Orc.t (Orc.t (Orc.t (Orc.cal [] (AV.i IntKind.i64 (lst d a)) [] (Orc.t (Orc.t (Orc.s (Orc.t (Orc.t (Orc.t (Orc.s (Orc.t (Orc.t (Orc.t Orc.z))) (Orc.f (Orc.f (Orc.f Orc.z))))))) (Orc.f (Orc.f (Orc.f (Orc.c (Orc.c (Orc.c (Orc.c Orc.z))))))))))))))))) (Orc.f (Orc.f (Orc.f (Orc.f (Orc.f (Orc.f (Orc.f (Orc.c (Orc.c (Orc.c (Orc.c (Orc.c (Orc.c (Orc.c (Orc.c Orc.z)))))))))))))))))))))) K =
    (Con Try.prog (37 : FuncId) [] [] (AV.b true) [] ∧ True ∧ Con Try.prog (41 : FuncId) [AV.i IntKind.i64 d, AV.i IntKind.i64 r] [] (AV.tup [AV.i IntKind.i64 (shrN d r), AV.i IntKind.i64 (shrE d r)]) [] ∧ Con Try.prog (42 : FuncId) [AV.i IntKind.i64 d, AV.i IntKind.i64 r] [] (AV.tup [AV.i IntKind.i64 (shrN d r), AV.i IntKind.i64 (shrE d r)]) [] ∧ Con Try.prog (43 : FuncId) [AV.i IntKind.i64 d, AV.i IntKind.i64 a, AV.i IntKind.i64 r] [] (AV.b (hon d a r)) [] ∧ Con Try.prog (44 : FuncId) [AV.i IntKind.i64 d, AV.i IntKind.i64 a, AV.i IntKind.i64 r] [] (AV.b (hon d a r)) [] ∧ True ∧ ((hon d a r == hon d a r) = true → (hon d a r == hon d a r) = true ∧ (hon d a r == hon d a r) = true ∧ Con Try.prog (45 : FuncId) [AV.i IntKind.i64 d, AV.i IntKind.i64 a] [] (AV.i IntKind.i64 (lst d a)) [] ∧ (hon d a r == hon d a r) = true ∧ (hon d a r == hon d a r) = true ∧ (hon d a r == hon d a r) = true ∧ Con Try.prog (46 : FuncId) [AV.i IntKind.i64 d, AV.i IntKind.i64 a] [] (AV.i IntKind.i64 (lst d a)) [] ∧ (hon d a r == hon d a r) = true ∧ (hon d a r == hon d a r) = true ∧ (decide (lst d a = lst d a) = true → decide (lst d a = lst d a) = true ∧ decide (lst d a = lst d a) = true ∧ decide (lst d a = lst d a) = true ∧ (decide (shrN d r = shrN d r) = true → decide (shrN d r = shrN d r) = true ∧ decide (shrN d r = shrN d r) = true ∧ decide (shrN d r = shrN d r) = true ∧ K (Res.rv (AV.b (decide (shrE d r = shrE d r))) { tree := T.e, next := (0 : Nat), log := [] }) Orc.z) ∧ (decide (shrN d r = shrN d r) = false → decide (shrN d r = shrN d r) = false ∧ decide (shrN d r = shrN d r) = false ∧ decide (shrN d r = shrN d r) = false ∧ K (Res.rv (AV.b false) { tree := T.e, next := (0 : Nat), log := [] }) Orc.z)) ∧ (decide (lst d a = lst d a) = false → decide (lst d a = lst d a) = false ∧ decide (lst d a = lst d a) = false ∧ decide (lst d a = lst d a) = false ∧ K (Res.rv (AV.b false) { tree := T.e, next := (0 : Nat), log := [] }) Orc.z)) ∧ ((hon d a r == hon d a r) = false → (hon d a r == hon d a r) = false ∧ (hon d a r == hon d a r) = false ∧ (hon d a r == hon d a r) = false ∧ (hon d a r == hon d a r) = false ∧ (hon d a r == hon d a r) = false ∧ (hon d a r == hon d a r) = false ∧ (hon d a r == hon d a r) = false ∧ K (Res.rv (AV.b false) { tree := T.e, next := (0 : Nat), log := [] }) Orc.z)) := by kernel_rfl

theorem sums_con (d a r : Int) : Con Try.prog 8 [.i .i64 d, .i .i64 a, .i .i64 r] [] (.b true) [] := by
  refine con_plain rfl ((sums_vc _ _ _ _).mpr ?_)
  refine ⟨awake_con, trivial, shrink_con _ _, rShrink_con _ _, honest_con _ _ _, rHonest_con _ _ _, trivial, fun h => ⟨h, h, least_con _ _, h, h, h, rLeast_con _ _, h, h, fun h => ⟨h, h, h, fun h => ⟨h, h, h, _, _, rfl, ?_⟩, fun h => ?_⟩, fun h => ?_⟩, fun h => ?_⟩
  · simp
  · simp at h
  · simp at h
  · simp at h
end Go.Proofs.Clk

namespace Go.Proofs.Clk
open Go Go.Sim Go.Proofs

theorem safe_vc (t r d0 a0 d1 a1 : Int) (K : Res → Orc → Prop) : runK Try.prog 1000000 (.call 10 [.i .i64 t, .i .i64 r, .agg [.i .i64 d0, .i .i64 a0, .i .i64 d1, .i .i64 a1]] (mkH []))
    (Orc.cal [] (AV.b true) [] (Orc.c (Orc.cal [] (AV.tup [AV.i IntKind.i64 (shrN t r), AV.i IntKind.i64 (shrE t r)]) [] (Orc.s (Orc.s (Orc.t (Orc.t (Orc.s (Orc.t (Orc.t (Orc.f (Orc.t (Orc.s (Orc.t (Orc.t (Orc.f (Orc.t (Orc.s (Orc.t (Orc.t (Orc.f (Orc.t Orc.z)))) (Orc.f (Orc.t (Orc.t (Orc.t Orc.z))))))))) (Orc.f (Orc.t (Orc.t (Orc.t (Orc.c (Orc.c (Orc.t (Orc.c (Orc.t Orc.z)))))))))))))) (Orc.f (Orc.t (Orc.t (Orc.t (Orc.c (Orc.c (Orc.t (Orc.c (Orc.t (Orc.c (Orc.c (Orc.t (Orc.c (Orc.t Orc.z))))))))))))))))) (Orc.f (Orc.f (Orc.f (Orc.f (Orc.f (Orc.f (Orc.f (Orc.f Orc.z))))))))) (Orc.s (Orc.t (Orc.f (Orc.s (Orc.c (Orc.t (Orc.t (Orc.t (Orc.c (Orc.t (Orc.t (Orc.t (Orc.t (Orc.cal [] (AV.b (hon d0 a0 r)) [] (Orc.t (Orc.f (Orc.s (Orc.c (Orc.t (Orc.t (Orc.t (Orc.c (Orc.t (Orc.t (Orc.t (Orc.t (Orc.cal [] (AV.b (hon d1 a1 r)) [] (Orc.t (Orc.f (Orc.s (Orc.c (Orc.t (Orc.t (Orc.t (Orc.c (Orc.t (Orc.t (Orc.t (Orc.f (Orc.s (Orc.c (Orc.t (Orc.t (Orc.t (Orc.t (Orc.f (Orc.s (Orc.s (Orc.t (Orc.t Orc.z)) (Orc.f (Orc.f Orc.z))) (Orc.c Orc.z)))))))) (Orc.f (Orc.f (Orc.f (Orc.f (Orc.t (Orc.c (Orc.s (Orc.t (Orc.t Orc.z)) (Orc.f (Orc.f Orc.z))))))))))))))))))) (Orc.f (Orc.f (Orc.f (Orc.f (Orc.f (Orc.f (Orc.t (Orc.c (Orc.c (Orc.c (Orc.c (Orc.c (Orc.c (Orc.c (Orc.s (Orc.t (Orc.t Orc.z)) (Orc.f (Orc.f Orc.z)))))))))))))))))))))))))))))) (Orc.f (Orc.f (Orc.f (Orc.f (Orc.f (Orc.f (Orc.f (Orc.f (Orc.t (Orc.c (Orc.c (Orc.c (Orc.c (Orc.c (Orc.c (Orc.c (Orc.c (Orc.c (Orc.c (Orc.c (Orc.c (Orc.c (Orc.c (Orc.c (Orc.s (Orc.t (Orc.t Orc.z)) (Orc.f (Orc.f Orc.z)))))))))))))))))))))))))))))))))))))))) (Orc.f (Orc.f (Orc.f (Orc.f (Orc.f (Orc.f (Orc.f (Orc.f (Orc.t (Orc.c (Orc.c (Orc.c (Orc.c (Orc.c (Orc.c (Orc.c (Orc.c (Orc.c (Orc.c (Orc.c (Orc.c (Orc.c (Orc.c (Orc.c (Orc.c (Orc.c (Orc.c (Orc.c (Orc.c (Orc.c (Orc.c (Orc.c (Orc.c (Orc.c (Orc.s (Orc.t (Orc.t Orc.z)) (Orc.f (Orc.f Orc.z)))))))))))))))))))))))))))))))))))))))) (Orc.f (Orc.t (Orc.c (Orc.c (Orc.c (Orc.c (Orc.c (Orc.c (Orc.c (Orc.c (Orc.c (Orc.c (Orc.c (Orc.c (Orc.c (Orc.c (Orc.c (Orc.c (Orc.c (Orc.c (Orc.c (Orc.c (Orc.c (Orc.c (Orc.c (Orc.c (Orc.c (Orc.c (Orc.c (Orc.c (Orc.c (Orc.c (Orc.c (Orc.c (Orc.c (Orc.c (Orc.c (Orc.s (Orc.t (Orc.t Orc.z)) (Orc.f (Orc.f Orc.z))))))))))))))))))))))))))))))))))))))))))))) K =
    (Con Try.prog (37 : FuncId) [] [] (AV.b true) [] ∧ True ∧ Con Try.prog (41 : FuncId) [AV.i IntKind.i64 t, AV.i IntKind.i64 r] [] (AV.tup [AV.i IntKind.i64 (shrN t r), AV.i IntKind.i64 (shrE t r)]) [] ∧ ((!decide (shrE t r = (0 : Int))) = true → (decide (shrE t r = (2 : Int)) = true → decide (shrE t r = (2 : Int)) = true ∧ decide (shrE t r = (2 : Int)) = true ∧ ((!decide (t < (0 : Int))) = true → (!decide (t < (0 : Int))) = true ∧ decide (shrE t r = (2 : Int)) = true ∧ decide (t < (0 : Int)) = false ∧ decide (shrE t r = (2 : Int)) = true ∧ ((!decide ((4503599627370496 : Int) < t)) = true → (!decide ((4503599627370496 : Int) < t)) = true ∧ decide (shrE t r = (2 : Int)) = true ∧ decide ((4503599627370496 : Int) < t) = false ∧ decide (shrE t r = (2 : Int)) = true ∧ ((!decide (r < (0 : Int))) = true → (!decide (r < (0 : Int))) = true ∧ decide (shrE t r = (2 : Int)) = true ∧ decide (r < (0 : Int)) = false ∧ decide (shrE t r = (2 : Int)) = true ∧ K (Res.rv (AV.b (decide ((999 : Int) < r))) { tree := T.n (some (AObj.cells (88 : Nat) (List.length [AV.i IntKind.i64 d0, AV.i IntKind.i64 a0, AV.i IntKind.i64 d1, AV.i IntKind.i64 a1]) [] (T.n (some (AV.i IntKind.i64 d0)) (T.n (some (AV.i IntKind.i64 a0)) (T.n (some (AV.i IntKind.i64 a1)) T.e T.e) T.e) (T.n (some (AV.i IntKind.i64 d1)) T.e T.e)))) T.e T.e, next := (1 : Nat), log := [(0 : Nat)] }) Orc.z) ∧ ((!decide (r < (0 : Int))) = false → (!decide (r < (0 : Int))) = false ∧ decide (shrE t r = (2 : Int)) = true ∧ decide (r < (0 : Int)) = true ∧ decide (shrE t r = (2 : Int)) = true ∧ K (Res.rv (AV.b true) { tree := T.n (some (AObj.cells (88 : Nat) (List.length [AV.i IntKind.i64 d0, AV.i IntKind.i64 a0, AV.i IntKind.i64 d1, AV.i IntKind.i64 a1]) [] (T.n (some (AV.i IntKind.i64 d0)) (T.n (some (AV.i IntKind.i64 a0)) (T.n (some (AV.i IntKind.i64 a1)) T.e T.e) T.e) (T.n (some (AV.i IntKind.i64 d1)) T.e T.e)))) T.e T.e, next := (1 : Nat), log := [(0 : Nat)] }) Orc.z)) ∧ ((!decide ((4503599627370496 : Int) < t)) = false → (!decide ((4503599627370496 : Int) < t)) = false ∧ decide (shrE t r = (2 : Int)) = true ∧ decide ((4503599627370496 : Int) < t) = true ∧ decide (shrE t r = (2 : Int)) = true ∧ decide (shrE t r = (2 : Int)) = true ∧ decide (shrE t r = (2 : Int)) = true ∧ K (Res.rv (AV.b true) { tree := T.n (some (AObj.cells (88 : Nat) (List.length [AV.i IntKind.i64 d0, AV.i IntKind.i64 a0, AV.i IntKind.i64 d1, AV.i IntKind.i64 a1]) [] (T.n (some (AV.i IntKind.i64 d0)) (T.n (some (AV.i IntKind.i64 a0)) (T.n (some (AV.i IntKind.i64 a1)) T.e T.e) T.e) (T.n (some (AV.i IntKind.i64 d1)) T.e T.e)))) T.e T.e, next := (1 : Nat), log := [(0 : Nat)] }) Orc.z)) ∧ ((!decide (t < (0 : Int))) = false → (!decide (t < (0 : Int))) = false ∧ decide (shrE t r = (2 : Int)) = true ∧ decide (t < (0 : Int)) = true ∧ decide (shrE t r = (2 : Int)) = true ∧ decide (shrE t r = (2 : Int)) = true ∧ decide (shrE t r = (2 : Int)) = true ∧ decide (shrE t r = (2 : Int)) = true ∧ decide (shrE t r = (2 : Int)) = true ∧ K (Res.rv (AV.b true) { tree := T.n (some (AObj.cells (88 : Nat) (List.length [AV.i IntKind.i64 d0, AV.i IntKind.i64 a0, AV.i IntKind.i64 d1, AV.i IntKind.i64 a1]) [] (T.n (some (AV.i IntKind.i64 d0)) (T.n (some (AV.i IntKind.i64 a0)) (T.n (some (AV.i IntKind.i64 a1)) T.e T.e) T.e) (T.n (some (AV.i IntKind.i64 d1)) T.e T.e)))) T.e T.e, next := (1 : Nat), log := [(0 : Nat)] }) Orc.z)) ∧ (decide (shrE t r = (2 : Int)) = false → decide (shrE t r = (2 : Int)) = false ∧ decide (shrE t r = (2 : Int)) = false ∧ decide (shrE t r = (2 : Int)) = false ∧ decide (shrE t r = (2 : Int)) = false ∧ decide (shrE t r = (2 : Int)) = false ∧ decide (shrE t r = (2 : Int)) = false ∧ decide (shrE t r = (2 : Int)) = false ∧ decide (shrE t r = (2 : Int)) = false ∧ K (Res.rv (AV.b false) { tree := T.n (some (AObj.cells (88 : Nat) (List.length [AV.i IntKind.i64 d0, AV.i IntKind.i64 a0, AV.i IntKind.i64 d1, AV.i IntKind.i64 a1]) [] (T.n (some (AV.i IntKind.i64 d0)) (T.n (some (AV.i IntKind.i64 a0)) (T.n (some (AV.i IntKind.i64 a1)) T.e T.e) T.e) (T.n (some (AV.i IntKind.i64 d1)) T.e T.e)))) T.e T.e, next := (1 : Nat), log := [(0 : Nat)] }) Orc.z)) ∧ ((!decide (shrE t r = (0 : Int))) = false → ((!decide (t < shrN t r)) = true → (!decide (t < shrN t r)) = true ∧ decide (t < shrN t r) = false ∧ ((!decide (shrN t r < (0 : Int))) = true → (!decide (shrN t r < (0 : Int))) = true ∧ True ∧ (!decide (shrN t r < (0 : Int))) = true ∧ (!decide (shrN t r < (0 : Int))) = true ∧ (!decide (shrN t r < (0 : Int))) = true ∧ True ∧ (!decide (shrN t r < (0 : Int))) = true ∧ (!decide (shrN t r < (0 : Int))) = true ∧ (!decide (shrN t r < (0 : Int))) = true ∧ Con Try.prog (43 : FuncId) [AV.i IntKind.i64 d0, AV.i IntKind.i64 a0, AV.i IntKind.i64 r] [] (AV.b (hon d0 a0 r)) [] ∧ (!decide (shrN t r < (0 : Int))) = true ∧ True ∧ decide (shrN t r < (0 : Int)) = false ∧ ((!!hon d0 a0 r) = true → (!!hon d0 a0 r) = true ∧ True ∧ (!!hon d0 a0 r) = true ∧ (!!hon d0 a0 r) = true ∧ (!!hon d0 a0 r) = true ∧ True ∧ (!!hon d0 a0 r) = true ∧ (!!hon d0 a0 r) = true ∧ (!!hon d0 a0 r) = true ∧ Con Try.prog (43 : FuncId) [AV.i IntKind.i64 d1, AV.i IntKind.i64 a1, AV.i IntKind.i64 r] [] (AV.b (hon d1 a1 r)) [] ∧ (!!hon d0 a0 r) = true ∧ True ∧ (!hon d0 a0 r) = false ∧ ((!!hon d1 a1 r) = true → (!!hon d1 a1 r) = true ∧ True ∧ (!!hon d1 a1 r) = true ∧ (!!hon d1 a1 r) = true ∧ (!!hon d1 a1 r) = true ∧ True ∧ (!!hon d1 a1 r) = true ∧ (!!hon d1 a1 r) = true ∧ (!hon d1 a1 r) = false ∧ ((!decide (d0 < d1)) = true → (!decide (d0 < d1)) = true ∧ True ∧ (!decide (d0 < d1)) = true ∧ (!decide (d0 < d1)) = true ∧ (!decide (d0 < d1)) = true ∧ decide (d0 < d1) = false ∧ (decide (shrN t r ≤ a0) = true → (decide (shrN t r ≤ t) = true → decide (shrN t r ≤ t) = true ∧ decide (shrN t r ≤ t) = true ∧ K (Res.rv (AV.b (decide ((0 : Int) ≤ shrN t r))) { tree := T.n (some (AObj.cells (88 : Nat) (List.length [AV.i IntKind.i64 d0, AV.i IntKind.i64 a0, AV.i IntKind.i64 d1, AV.i IntKind.i64 a1]) [] (T.n (some (AV.i IntKind.i64 d0)) (T.n (some (AV.i IntKind.i64 a0)) (T.n (some (AV.i IntKind.i64 a1)) T.e T.e) T.e) (T.n (some (AV.i IntKind.i64 d1)) T.e T.e)))) T.e T.e, next := (1 : Nat), log := [(0 : Nat)] }) Orc.z) ∧ (decide (shrN t r ≤ t) = false → decide (shrN t r ≤ t) = false ∧ decide (shrN t r ≤ t) = false ∧ K (Res.rv (AV.b false) { tree := T.n (some (AObj.cells (88 : Nat) (List.length [AV.i IntKind.i64 d0, AV.i IntKind.i64 a0, AV.i IntKind.i64 d1, AV.i IntKind.i64 a1]) [] (T.n (some (AV.i IntKind.i64 d0)) (T.n (some (AV.i IntKind.i64 a0)) (T.n (some (AV.i IntKind.i64 a1)) T.e T.e) T.e) (T.n (some (AV.i IntKind.i64 d1)) T.e T.e)))) T.e T.e, next := (1 : Nat), log := [(0 : Nat)] }) Orc.z)) ∧ (decide (shrN t r ≤ a0) = false → True ∧ K (Res.rv (AV.b (decide (a1 < t))) { tree := T.n (some (AObj.cells (88 : Nat) (List.length [AV.i IntKind.i64 d0, AV.i IntKind.i64 a0, AV.i IntKind.i64 d1, AV.i IntKind.i64 a1]) [] (T.n (some (AV.i IntKind.i64 d0)) (T.n (some (AV.i IntKind.i64 a0)) (T.n (some (AV.i IntKind.i64 a1)) T.e T.e) T.e) (T.n (some (AV.i IntKind.i64 d1)) T.e T.e)))) T.e T.e, next := (1 : Nat), log := [(0 : Nat)] }) Orc.z)) ∧ ((!decide (d0 < d1)) = false → (!decide (d0 < d1)) = false ∧ (!decide (d0 < d1)) = false ∧ (!decide (d0 < d1)) = false ∧ (!decide (d0 < d1)) = false ∧ decide (d0 < d1) = true ∧ (decide (shrN t r ≤ t) = true → decide (shrN t r ≤ t) = true ∧ decide (shrN t r ≤ t) = true ∧ K (Res.rv (AV.b (decide ((0 : Int) ≤ shrN t r))) { tree := T.n (some (AObj.cells (88 : Nat) (List.length [AV.i IntKind.i64 d0, AV.i IntKind.i64 a0, AV.i IntKind.i64 d1, AV.i IntKind.i64 a1]) [] (T.n (some (AV.i IntKind.i64 d0)) (T.n (some (AV.i IntKind.i64 a0)) (T.n (some (AV.i IntKind.i64 a1)) T.e T.e) T.e) (T.n (some (AV.i IntKind.i64 d1)) T.e T.e)))) T.e T.e, next := (1 : Nat), log := [(0 : Nat)] }) Orc.z) ∧ (decide (shrN t r ≤ t) = false → decide (shrN t r ≤ t) = false ∧ decide (shrN t r ≤ t) = false ∧ K (Res.rv (AV.b false) { tree := T.n (some (AObj.cells (88 : Nat) (List.length [AV.i IntKind.i64 d0, AV.i IntKind.i64 a0, AV.i IntKind.i64 d1, AV.i IntKind.i64 a1]) [] (T.n (some (AV.i IntKind.i64 d0)) (T.n (some (AV.i IntKind.i64 a0)) (T.n (some (AV.i IntKind.i64 a1)) T.e T.e) T.e) (T.n (some (AV.i IntKind.i64 d1)) T.e T.e)))) T.e T.e, next := (1 : Nat), log := [(0 : Nat)] }) Orc.z))) ∧ ((!!hon d1 a1 r) = false → (!!hon d1 a1 r) = false ∧ (!!hon d1 a1 r) = false ∧ (!!hon d1 a1 r) = false ∧ (!!hon d1 a1 r) = false ∧ (!!hon d1 a1 r) = false ∧ (!!hon d1 a1 r) = false ∧ (!hon d1 a1 r) = true ∧ (decide (shrN t r ≤ t) = true → decide (shrN t r ≤ t) = true ∧ decide (shrN t r ≤ t) = true ∧ K (Res.rv (AV.b (decide ((0 : Int) ≤ shrN t r))) { tree := T.n (some (AObj.cells (88 : Nat) (List.length [AV.i IntKind.i64 d0, AV.i IntKind.i64 a0, AV.i IntKind.i64 d1, AV.i IntKind.i64 a1]) [] (T.n (some (AV.i IntKind.i64 d0)) (T.n (some (AV.i IntKind.i64 a0)) (T.n (some (AV.i IntKind.i64 a1)) T.e T.e) T.e) (T.n (some (AV.i IntKind.i64 d1)) T.e T.e)))) T.e T.e, next := (1 : Nat), log := [(0 : Nat)] }) Orc.z) ∧ (decide (shrN t r ≤ t) = false → decide (shrN t r ≤ t) = false ∧ decide (shrN t r ≤ t) = false ∧ K (Res.rv (AV.b false) { tree := T.n (some (AObj.cells (88 : Nat) (List.length [AV.i IntKind.i64 d0, AV.i IntKind.i64 a0, AV.i IntKind.i64 d1, AV.i IntKind.i64 a1]) [] (T.n (some (AV.i IntKind.i64 d0)) (T.n (some (AV.i IntKind.i64 a0)) (T.n (some (AV.i IntKind.i64 a1)) T.e T.e) T.e) (T.n (some (AV.i IntKind.i64 d1)) T.e T.e)))) T.e T.e, next := (1 : Nat), log := [(0 : Nat)] }) Orc.z))) ∧ ((!!hon d0 a0 r) = false → (!!hon d0 a0 r) = false ∧ (!!hon d0 a0 r) = false ∧ (!!hon d0 a0 r) = false ∧ (!!hon d0 a0 r) = false ∧ (!!hon d0 a0 r) = false ∧ (!!hon d0 a0 r) = false ∧ (!!hon d0 a0 r) = false ∧ (!!hon d0 a0 r) = false ∧ (!hon d0 a0 r) = true ∧ (decide (shrN t r ≤ t) = true → decide (shrN t r ≤ t) = true ∧ decide (shrN t r ≤ t) = true ∧ K (Res.rv (AV.b (decide ((0 : Int) ≤ shrN t r))) { tree := T.n (some (AObj.cells (88 : Nat) (List.length [AV.i IntKind.i64 d0, AV.i IntKind.i64 a0, AV.i IntKind.i64 d1, AV.i IntKind.i64 a1]) [] (T.n (some (AV.i IntKind.i64 d0)) (T.n (some (AV.i IntKind.i64 a0)) (T.n (some (AV.i IntKind.i64 a1)) T.e T.e) T.e) (T.n (some (AV.i IntKind.i64 d1)) T.e T.e)))) T.e T.e, next := (1 : Nat), log := [(0 : Nat)] }) Orc.z) ∧ (decide (shrN t r ≤ t) = false → decide (shrN t r ≤ t) = false ∧ decide (shrN t r ≤ t) = false ∧ K (Res.rv (AV.b false) { tree := T.n (some (AObj.cells (88 : Nat) (List.length [AV.i IntKind.i64 d0, AV.i IntKind.i64 a0, AV.i IntKind.i64 d1, AV.i IntKind.i64 a1]) [] (T.n (some (AV.i IntKind.i64 d0)) (T.n (some (AV.i IntKind.i64 a0)) (T.n (some (AV.i IntKind.i64 a1)) T.e T.e) T.e) (T.n (some (AV.i IntKind.i64 d1)) T.e T.e)))) T.e T.e, next := (1 : Nat), log := [(0 : Nat)] }) Orc.z))) ∧ ((!decide (shrN t r < (0 : Int))) = false → (!decide (shrN t r < (0 : Int))) = false ∧ (!decide (shrN t r < (0 : Int))) = false ∧ (!decide (shrN t r < (0 : Int))) = false ∧ (!decide (shrN t r < (0 : Int))) = false ∧ (!decide (shrN t r < (0 : Int))) = false ∧ (!decide (shrN t r < (0 : Int))) = false ∧ (!decide (shrN t r < (0 : Int))) = false ∧ (!decide (shrN t r < (0 : Int))) = false ∧ decide (shrN t r < (0 : Int)) = true ∧ (decide (shrN t r ≤ t) = true → decide (shrN t r ≤ t) = true ∧ decide (shrN t r ≤ t) = true ∧ K (Res.rv (AV.b (decide ((0 : Int) ≤ shrN t r))) { tree := T.n (some (AObj.cells (88 : Nat) (List.length [AV.i IntKind.i64 d0, AV.i IntKind.i64 a0, AV.i IntKind.i64 d1, AV.i IntKind.i64 a1]) [] (T.n (some (AV.i IntKind.i64 d0)) (T.n (some (AV.i IntKind.i64 a0)) (T.n (some (AV.i IntKind.i64 a1)) T.e T.e) T.e) (T.n (some (AV.i IntKind.i64 d1)) T.e T.e)))) T.e T.e, next := (1 : Nat), log := [(0 : Nat)] }) Orc.z) ∧ (decide (shrN t r ≤ t) = false → decide (shrN t r ≤ t) = false ∧ decide (shrN t r ≤ t) = false ∧ K (Res.rv (AV.b false) { tree := T.n (some (AObj.cells (88 : Nat) (List.length [AV.i IntKind.i64 d0, AV.i IntKind.i64 a0, AV.i IntKind.i64 d1, AV.i IntKind.i64 a1]) [] (T.n (some (AV.i IntKind.i64 d0)) (T.n (some (AV.i IntKind.i64 a0)) (T.n (some (AV.i IntKind.i64 a1)) T.e T.e) T.e) (T.n (some (AV.i IntKind.i64 d1)) T.e T.e)))) T.e T.e, next := (1 : Nat), log := [(0 : Nat)] }) Orc.z))) ∧ ((!decide (t < shrN t r)) = false → (!decide (t < shrN t r)) = false ∧ decide (t < shrN t r) = true ∧ (decide (shrN t r ≤ t) = true → decide (shrN t r ≤ t) = true ∧ decide (shrN t r ≤ t) = true ∧ K (Res.rv (AV.b (decide ((0 : Int) ≤ shrN t r))) { tree := T.n (some (AObj.cells (88 : Nat) (List.length [AV.i IntKind.i64 d0, AV.i IntKind.i64 a0, AV.i IntKind.i64 d1, AV.i IntKind.i64 a1]) [] (T.n (some (AV.i IntKind.i64 d0)) (T.n (some (AV.i IntKind.i64 a0)) (T.n (some (AV.i IntKind.i64 a1)) T.e T.e) T.e) (T.n (some (AV.i IntKind.i64 d1)) T.e T.e)))) T.e T.e, next := (1 : Nat), log := [(0 : Nat)] }) Orc.z) ∧ (decide (shrN t r ≤ t) = false → decide (shrN t r ≤ t) = false ∧ decide (shrN t r ≤ t) = false ∧ K (Res.rv (AV.b false) { tree := T.n (some (AObj.cells (88 : Nat) (List.length [AV.i IntKind.i64 d0, AV.i IntKind.i64 a0, AV.i IntKind.i64 d1, AV.i IntKind.i64 a1]) [] (T.n (some (AV.i IntKind.i64 d0)) (T.n (some (AV.i IntKind.i64 a0)) (T.n (some (AV.i IntKind.i64 a1)) T.e T.e) T.e) (T.n (some (AV.i IntKind.i64 d1)) T.e T.e)))) T.e T.e, next := (1 : Nat), log := [(0 : Nat)] }) Orc.z)))) := by kernel_rfl

theorem safe_math {t r n d0 a0 d1 a1 : Int} (hr : 0 ≤ r ∧ r ≤ 999) (hn : n * (1000 + r) ≤ t * (1000 - r)) (h0 : (d0 - a0) * 1000 ≤ r * d0) (h1 : (a1 - d1) * 1000 ≤ r * d1) (hd : d1 ≤ d0) (ha : a0 < n) : a1 < t := by
  have e1 : 1000 * a1 ≤ (1000 + r) * d1 := by rw [Int.add_mul]; omega
  have e0 : (1000 - r) * d0 ≤ 1000 * a0 := by rw [Int.sub_mul]; omega
  have e2 : (1000 + r) * d1 ≤ (1000 + r) * d0 := Int.mul_le_mul_of_nonneg_left hd (by omega)
  have e3 : (1000 - r) * (1000 * a1) ≤ (1000 - r) * ((1000 + r) * d0) := Int.mul_le_mul_of_nonneg_left (by omega) (by omega)
  have e4 : (1000 + r) * ((1000 - r) * d0) ≤ (1000 + r) * (1000 * a0) := Int.mul_le_mul_of_nonneg_left e0 (by omega)
  have e5 : (1000 - r) * ((1000 + r) * d0) = (1000 + r) * ((1000 - r) * d0) := by rw [← Int.mul_assoc, ← Int.mul_assoc, Int.mul_comm (1000 - r)]
  have e6 : (1000 + r) * a0 < (1000 + r) * n := Int.mul_lt_mul_of_pos_left ha (by omega)
  have e7 : (1000 - r) * (1000 * a1) = 1000 * ((1000 - r) * a1) := by rw [← Int.mul_assoc, Int.mul_comm (1000 - r), Int.mul_assoc]
  have e8 : (1000 + r) * (1000 * a0) = 1000 * ((1000 + r) * a0) := by rw [← Int.mul_assoc, Int.mul_comm (1000 + r), Int.mul_assoc]
  have e9 : (1000 - r) * a1 < (1000 - r) * t := by
    rw [Int.mul_comm n, Int.mul_comm t] at hn
    omega
  exact Int.lt_of_mul_lt_mul_left e9 (by omega)

theorem safe_fact (t r d0 a0 d1 a1 : Int) : (shrE t r = 0 ∧ 0 ≤ shrN t r ∧ shrN t r ≤ t ∧ (hon d0 a0 r = true → hon d1 a1 r = true → d1 ≤ d0 → a0 < shrN t r → a1 < t)) ∨ (shrE t r = 2 ∧ ¬ (0 ≤ t ∧ t ≤ 4503599627370496 ∧ 0 ≤ r ∧ r ≤ 999)) := by
  unfold shrE shrN
  by_cases h : (isT t && isR r) = true
  · simp only [h, if_true, true_and]
    simp only [Bool.and_eq_true, isT_iff, isR_iff] at h
    obtain ⟨ht, hr⟩ := h
    refine .inl ⟨?_, ?_, ?_⟩
    · exact Int.ediv_nonneg (Int.mul_nonneg ht.1 (by omega)) (by omega)
    · have h1 := Int.ediv_mul_le (t * (1000 - r)) (b := 1000 + r) (by omega)
      have h2 : t * (1000 - r) ≤ t * (1000 + r) := Int.mul_le_mul_of_nonneg_left (by omega) ht.1
      exact Int.le_of_mul_le_mul_right (Int.le_trans h1 h2) (by omega)
    · intro h0 h1 hd ha
      simp only [hon, gap, Bool.and_eq_true, decide_eq_true_eq, isT_iff, isR_iff] at h0 h1
      refine safe_math hr (Int.ediv_mul_le _ (by omega)) ?_ ?_ hd ha
      · have q2 := Int.mul_nonneg hr.1 h0.1.1; have q := of_decide_eq_true h0.2.2.2; split at q <;> omega
      · have q2 := Int.mul_nonneg hr.1 h1.1.1; have q := of_decide_eq_true h1.2.2.2; split at q <;> omega
  · simp only [h]
    simp only [Bool.and_eq_true, isT_iff, isR_iff] at h
    refine .inr ⟨by simp, ?_⟩
    omega

theorem safe_con (t r d0 a0 d1 a1 : Int) : Con Try.prog 10 [.i .i64 t, .i .i64 r, .agg [.i .i64 d0, .i .i64 a0, .i .i64 d1, .i .i64 a1]] [] (.b true) [] := by
  refine con_plain rfl ((safe_vc _ _ _ _ _ _ _).mpr ?_)
  have hf := safe_fact t r d0 a0 d1 a1
  have c1 := awake_con
  have c2 := shrink_con t r
  have c3 := honest_con d0 a0 r
  have c4 := honest_con d1 a1 r
  refine ⟨c1, trivial, c2, ?_⟩
  generalize shrN t r = n at *
  generalize shrE t r = e at *
  generalize hon d0 a0 r = b0 at *
  generalize hon d1 a1 r = b1 at *
  repeat' first
    | exact trivial
    | assumption
    | refine And.intro ?_ ?_
    | intro _
    | refine Exists.intro _ (Exists.intro _ (And.intro rfl ?_))
  all_goals clear c1 c2 c3 c4
  all_goals simp only [AV.b.injEq, Bool.not_eq_true', Bool.not_eq_false', decide_eq_true_eq, decide_eq_false_iff_not, Bool.not_not] at *
  all_goals first
    | omega
    | (subst_vars; simp at *; omega)
    | skip
end Go.Proofs.Clk
