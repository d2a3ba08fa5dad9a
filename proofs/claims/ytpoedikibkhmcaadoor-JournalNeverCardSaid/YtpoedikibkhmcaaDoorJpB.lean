/- Runs over unknown values, told by the kernel: part JpB. -/
import Derived.Test.YtpoedikibkhmcaaDoorJpA
set_option linter.unusedSimpArgs false
set_option linter.unusedVariables false
set_option maxRecDepth 20000
namespace Go.Proofs.Jn
open Go Go.Sim Go.Proofs Go.Proofs.Cd Go.Proofs.St Go.Proofs.Cl Go.Proofs.YtpoedikibkhmcaaDoor
theorem jown_vc (L : Nat) (f : Nat → Nat → CV) (K : Res → Orc → Prop) : runK Tryd.prog 1000000 (.call 25 [.sv 1 L f] (mkH [])) (Orc.s Orc.z Orc.z) K = (((1 = 1 ∧ 0 + L ≤ L) ∧ True
  ∧ True ∧ 0 + L ≤ 140737488355328 ∧ (3 * (0 + L) + 1536) * 1 ≤ 562949953421312) ∧ K (Res.rv (AV.sv 1 L f) { tree := T.n none (T.n none T.e T.e) T.e, next := 2, log := [1, 1, 0, 0] })
  Orc.z) := by kernel_rfl
theorem jown_con (L : Nat) (f : Nat → Nat → CV) (hL : L ≤ 140737488351232) : Con Tryd.prog 25 [.sv 1 L f] [] (.sv 1 L f) [] :=
  con_of_run [] [] ((jown_vc L f _).mpr ⟨⟨⟨rfl, by omega⟩, trivial, trivial, by omega, by omega⟩, _, _, rfl, ret_k (by kernel_rfl)⟩)
structure RS where
  s : SS
  j : JS
  n : Nat
  m : Nat → Nat
  b : Nat → Nat → Nat
def m2 (L : Nat) (i : Nat) : Nat := if i = 0 then L else 0
end Go.Proofs.Jn
