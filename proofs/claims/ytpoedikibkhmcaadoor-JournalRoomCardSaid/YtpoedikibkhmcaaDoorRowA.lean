/- Runs over unknown values, told by the kernel: part RowA. -/
import Derived.Test.YtpoedikibkhmcaaDoorJqA
import Derived.Test.YtpoedikibkhmcaaDoorTie
import Derived.Test.YtpoedikibkhmcaaDoorCards
import Derived.SizedLaws
import Derived.ProofKit
import Derived.LaidMore
import Derived.OpenShut
import Derived.Stop.Joined
set_option linter.unusedSimpArgs false
set_option linter.unusedVariables false
namespace Go.Proofs.YtpoedikibkhmcaaDoor
open Go Go.ChangeShapes Go.WideShapes Go.ChangeAt Go.RowKit Go.Sim
noncomputable def litV : DataW Unit → List Value
  | .lit (.int k n) => [.int k n]
  | _ => []
noncomputable def lv1 : DataW Unit → List Value
  | .agg l => l.flatMap litV
  | d => litV d
noncomputable def lv2 : DataW Unit → List Value
  | .agg l => l.flatMap lv1
  | d => litV d
noncomputable def refill (cs : List Value) : Obj → Obj
  | .cells _ e fr => .cells cs.toArray e fr
  | o => o
noncomputable def layAt (h : Array Obj) (i : Nat) (cs : List Value) : Array Obj := match h[i]? with
  | some b => h.setIfInBounds i (refill cs b)
  | none => h
noncomputable def laidW (os : Os) : World := { World.holding Tryd.prog os ⟨#[], #[], []⟩ with heap := layAt (layAt (World.holding Tryd.prog os ⟨#[], #[], []⟩).heap 0 (lv1 Rows.laid_unicode_utf8_first)) 1 (lv2 Rows.laid_unicode_utf8_acceptRanges) }
noncomputable def laidX : List (String × DataW Unit) := [("unicode/utf8.acceptRanges", Rows.laid_unicode_utf8_acceptRanges), ("unicode/utf8.first", Rows.laid_unicode_utf8_first)]
theorem laid_met (os : Os) (args : Array Value) : laidMetH Tryd.prog laidX ((laidW os).forCall (fun _ _ => 0) ⟨#[], args, []⟩).memory :=
  laidMetH_of_parts3 (fuel := 8) (laidMet_of_run' 8 (by kernel_rfl) (by kernel_rfl)) (by kernel_rfl) (by kernel_rfl)
theorem laid_shaped (os : Os) (args : Array Value) : ((laidW os).forCall (fun _ _ => 0) ⟨#[], args, []⟩).Shaped Tryd.prog :=
  World.shaped_of_RefB (by kernel_rfl) (by kernel_rfl)
end Go.Proofs.YtpoedikibkhmcaaDoor
namespace Go.Proofs.Jn
open Go Go.Sim Go.Proofs Go.Proofs.Cd Go.Proofs.YtpoedikibkhmcaaDoor
theorem u3 : Tryd.prog.underlying 3 = some (.int .i64) := by kernel_rfl
theorem u5 : Tryd.prog.underlying 5 = some (.int .u8) := by kernel_rfl
theorem shpIntsJ {f : Nat → CV} (h : Shp Tryd.prog 2 64 f) : ∃ (n : Nat) (g : Nat → Int), CLe (f 0) (.sv 1 n fun i _ => .i .i64 (g i)) ∧ n * 8 ≤ reachBytes := by
  have us : Tryd.prog.underlying 64 = some (.slice 3) := by kernel_rfl
  have b : Tryd.prog.bytesOf 3 = 8 := by kernel_rfl
  have c : Tryd.prog.cellsOf 3 = 1 := by kernel_rfl
  obtain ⟨n, g, hg, _, hb, hi⟩ := Shp.slice 1 rfl h us
  rw [c] at hg
  rw [b] at hb
  obtain ⟨W, hW⟩ := Classical.axiomOfChoice (r := fun (i : Nat) (q : Int) => i < n → g i 0 = .i .i64 q) (fun i => by
    by_cases q : i < n
    · obtain ⟨x, hx, _⟩ := Shp.int 0 rfl (hi i q) u3
      exact ⟨x, fun _ => hx⟩
    · exact ⟨0, fun h => absurd h q⟩)
  refine ⟨n, W, ?_, hb⟩
  rw [hg]
  refine CLe.sv fun i j a b => ?_
  obtain rfl : j = 0 := by omega
  exact .of (hW i a)
theorem shpBytesJ {d : Nat} {f : Nat → CV} (h : Shp Tryd.prog (d + 2) 38 f) : ∃ (n : Nat) (b : Nat → Nat), CLe (f 0) (.sv 1 n (byF b)) ∧ (∀ t, b t < 256) ∧ n ≤ reachBytes := by
  have us : Tryd.prog.underlying 38 = some (.slice 5) := by kernel_rfl
  have b : Tryd.prog.bytesOf 5 = 1 := by kernel_rfl
  have c : Tryd.prog.cellsOf 5 = 1 := by kernel_rfl
  obtain ⟨n, g, hg, _, hb, hi⟩ := Shp.slice (d + 1) rfl h us
  rw [c] at hg
  rw [b] at hb
  obtain ⟨W, hW⟩ := Classical.axiomOfChoice (r := fun (i : Nat) (q : Nat) => q < 256 ∧ (i < n → g i 0 = .i .u8 (Int.ofNat q))) (fun i => by
    by_cases q : i < n
    · obtain ⟨x, hx, w⟩ := Shp.int d rfl (hi i q) u5
      have h : (decide (IntKind.u8.min ≤ x) && decide (x ≤ IntKind.u8.max)) = true := w
      have hm : IntKind.u8.max = 255 := by decide
      have hn : IntKind.u8.min = 0 := by decide
      simp only [Bool.and_eq_true, decide_eq_true_eq, hm, hn] at h
      refine ⟨x.toNat, by omega, fun _ => ?_⟩
      rw [hx, show Int.ofNat x.toNat = x from Int.toNat_of_nonneg h.1]
    · exact ⟨0, by decide, fun h => absurd h q⟩)
  refine ⟨n, W, ?_, fun t => (hW t).1, by omega⟩
  rw [hg]
  refine CLe.sv fun i j a b => ?_
  obtain rfl : j = 0 := by omega
  exact .of ((hW i).2 a)
end Go.Proofs.Jn
