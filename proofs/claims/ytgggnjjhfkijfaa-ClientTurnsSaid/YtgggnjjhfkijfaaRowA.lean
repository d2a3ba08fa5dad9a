/- Runs over unknown values, told by the kernel: part RowA. -/
import Derived.Test.YtgggnjjhfkijfaaGC
import Derived.Test.YtgggnjjhfkijfaaRows
set_option linter.unusedSimpArgs false
set_option linter.unusedVariables false
namespace Go.Proofs.Ck
open Go Go.Sim Go.Proofs Go.Proofs.Lk Go.Proofs.Ytgggnjjhfkijfaa
theorem u3 : Try.prog.underlying 3 = some (.int .i64) := by kernel_rfl
theorem shpInts {f : Nat → CV} (h : Shp Try.prog 2 31 f) : ∃ (n : Nat) (g : Nat → Int), CLe (f 0) (.sv 1 n fun i _ => .i .i64 (g i)) ∧ n * 8 ≤ reachBytes := by
  have us : Try.prog.underlying 31 = some (.slice 3) := by kernel_rfl
  have b : Try.prog.bytesOf 3 = 8 := by kernel_rfl
  have c : Try.prog.cellsOf 3 = 1 := by kernel_rfl
  obtain ⟨L, g, hg, _, hb, hi⟩ := Shp.slice 1 rfl h us
  obtain ⟨W, hW⟩ := Classical.axiomOfChoice (r := fun (i : Nat) (q : Int) => i < L → g i 0 = .i .i64 q) (fun i => by
    by_cases q : i < L
    · obtain ⟨x, hx, _⟩ := Shp.int 0 rfl (hi i q) u3
      exact ⟨x, fun _ => by simpa using hx⟩
    · exact ⟨0, fun h => absurd h q⟩)
  rw [c] at hg
  rw [b] at hb
  refine ⟨L, W, ?_, hb⟩
  rw [hg]
  refine CLe.sv fun i j a b => ?_
  obtain rfl : j = 0 := by omega
  exact .of (hW i a)
end Go.Proofs.Ck
