/- Runs over unknown values, told by the kernel: part StA. -/
import Derived.Test.YtpoedikibkhmcaaDoorSymI
import Derived.Test.YtpoedikibkhmcaaDoorRows
set_option linter.unusedSimpArgs false
set_option linter.unusedVariables false
/- What a Store's block holds, told by functions. -/
namespace Go.Proofs.St
open Go Go.Sim Go.Proofs.YtpoedikibkhmcaaDoor
noncomputable def oneF (v : CV) : Nat → Nat → CV := fun _ _ => v
noncomputable def tailF (cnt wr : Int) (off armed : Bool) (left : Int) : Nat → Nat → CV := fun _ j => match j with
  | 0 => .i .i64 cnt
  | 1 => .i .i64 wr
  | 2 => .b off
  | 3 => .b armed
  | _ => .i .i64 left
noncomputable def durF (dur : Nat → Nat → Int) (torn : Nat → Bool) : Nat → Nat → CV := fun i j => match Nat.blt j 64 with
  | true => .i .u8 (dur i j)
  | false => .b (torn i)
noncomputable def latF (lb : Nat → Bool) (lw : Nat → Nat → CV) : Nat → Nat → CV := fun i _ => .opv (lb i) 66 (lw i)
noncomputable def stO (n : Int) (dur : Nat → Nat → Int) (torn : Nat → Bool) (pb : Bool) (pw : Nat → CV) (lb : Nat → Bool) (lw : Nat → Nat → CV) (cnt wr : Int) (off armed : Bool) (left : Int) : AObj :=
  .segs 77 33799 [⟨0, 1, 1, oneF (.i .i64 n)⟩, ⟨1, 65, 512, durF dur torn⟩, ⟨33281, 1, 1, oneF (.opv pb 66 pw)⟩, ⟨33282, 1, 512, latF lb lw⟩, ⟨33794, 5, 1, tailF cnt wr off armed left⟩]
end Go.Proofs.St
set_option maxRecDepth 20000
namespace Go.Proofs.St
open Go Go.Sim Go.Proofs Go.Proofs.YtpoedikibkhmcaaDoor
theorem fault_vc (n : Int) (dur : Nat → Nat → Int) (torn : Nat → Bool) (pb : Bool) (pw : Nat → CV) (lb : Nat → Bool) (lw : Nat → Nat → CV) (cnt wr : Int) (off armed : Bool) (left : Int) (K : Res → Orc → Prop) : runK Tryd.prog 1000000 (.call 81 [.p 0 0] (mkH [some (stO n dur torn pb pw lb lw cnt wr off armed left)])) (Orc.c (Orc.s Orc.z Orc.z)) K = (True ∧ True ∧ True ∧ (off = true → K (Res.rv (AV.i .i64 13) ⟨T.n (some (AObj.segs 77 33799 [⟨0, 1, 1, fun x x_1 => CV.i .i64 n⟩, ⟨1, 65, 512, fun i j => match Nat.blt j 64 with | true => CV.i .u8 (dur i j) | false => CV.b (torn i)⟩, ⟨33281, 1, 1, fun x x_1 => CV.opv pb 66 pw⟩, ⟨33282, 1, 512, fun i x => CV.opv (lb i) 66 (lw i)⟩, ⟨33794, 5, 1, fun x j => match j with | 0 => CV.i .i64 cnt | 1 => CV.i .i64 wr | 2 => CV.b off | 3 => CV.b armed | x => CV.i .i64 left⟩])) T.e T.e, 1, []⟩) Orc.z) ∧ (off = false → K (Res.rv
 (AV.i .i64 0) ⟨T.n (some (AObj.segs 77 33799 [⟨0, 1, 1, fun x x_1 => CV.i .i64 n⟩, ⟨1, 65, 512, fun i j => match Nat.blt j 64 with | true => CV.i .u8 (dur i j) | false => CV.b (torn i)⟩, ⟨33281, 1, 1, fun x x_1 => CV.opv pb 66 pw⟩, ⟨33282, 1, 512, fun i x => CV.opv (lb i) 66 (lw i)⟩, ⟨33794, 5, 1, fun x j => match j with | 0 => CV.i .i64 cnt | 1 => CV.i .i64 wr | 2 => CV.b off | 3 => CV.b armed | x => CV.i .i64 left⟩])) T.e T.e, 1, []⟩) Orc.z)) := by kernel_rfl
theorem has_vc (n : Int) (dur : Nat → Nat → Int) (torn : Nat → Bool) (pb : Bool) (pw : Nat → CV) (lb : Nat → Bool) (lw : Nat → Nat → CV) (cnt wr : Int) (off armed : Bool) (left i : Int) (K : Res → Orc → Prop) : runK Tryd.prog 1000000 (.call 82 [.p 0 0, .i .i64 i] (mkH [some (stO n dur torn pb pw lb lw cnt wr off armed left)])) (Orc.s (Orc.t (Orc.t (Orc.t (Orc.t (Orc.t (Orc.t Orc.z)))))) (Orc.f (Orc.f (Orc.f (Orc.f (Orc.f (Orc.f Orc.z))))))) K = ((decide (0 ≤ i) = true → decide (0 ≤ i) = true ∧ decide (0 ≤ i) = true ∧ decide (0 ≤ i) = true ∧ True ∧ decide (0 ≤ i) = true ∧ True ∧ decide (0 ≤ i) = true ∧ decide (0 ≤ i) = true ∧ K (Res.rv (AV.b (decide (i < n))) ⟨T.n (some (AObj.segs 77 33799 [⟨0, 1, 1, fun x x_1 => CV.i .i64 n⟩, ⟨1, 65, 512, fun i j => match Nat.blt j 64 with | true => CV.i .u8 (dur i j) | false => CV.b (torn i)⟩, ⟨33281, 1, 1, fun x x_1 => CV.opv pb 66 pw⟩, ⟨33282, 1, 512, fun i x => CV.opv (lb i) 66 (lw i)⟩, ⟨33794, 5, 1, fun x j => match j with | 0 => CV.i .i64 cnt | 1 => CV.i .i64 wr | 2 => CV.b off | 3 => CV.b armed | x => CV.i .i64 left⟩])) T.e T.e, 1, []⟩)
 Orc.z) ∧ (decide (0 ≤ i) = false → decide (0 ≤ i) = false ∧ decide (0 ≤ i) = false ∧ decide (0 ≤ i) = false ∧ decide (0 ≤ i) = false ∧ decide (0 ≤ i) = false ∧ decide (0 ≤ i) = false ∧ K (Res.rv (AV.b false) ⟨T.n (some (AObj.segs 77 33799 [⟨0, 1, 1, fun x x_1 => CV.i .i64 n⟩, ⟨1, 65, 512, fun i j => match Nat.blt j 64 with | true => CV.i .u8 (dur i j) | false => CV.b (torn i)⟩, ⟨33281, 1, 1, fun x x_1 => CV.opv pb 66 pw⟩, ⟨33282, 1, 512, fun i x => CV.opv (lb i) 66 (lw i)⟩, ⟨33794, 5, 1, fun x j => match j with | 0 => CV.i .i64 cnt | 1 => CV.i .i64 wr | 2 => CV.b off | 3 => CV.b armed | x => CV.i .i64 left⟩])) T.e T.e, 1, []⟩) Orc.z)) := by kernel_rfl
theorem fault_con (n : Int) (dur : Nat → Nat → Int) (torn : Nat → Bool) (pb : Bool) (pw : Nat → CV) (lb : Nat → Bool) (lw : Nat → Nat → CV) (cnt wr : Int) (off armed : Bool) (left : Int) :
    Con Tryd.prog 81 [.p 0 0] [some (stO n dur torn pb pw lb lw cnt wr off armed left)] (.i .i64 (bif off then 13 else 0)) [.keep] := by
  refine con_of_run [] [] ((fault_vc n dur torn pb pw lb lw cnt wr off armed left _).mpr ⟨trivial, trivial, trivial, fun h => ?_, fun h => ?_⟩)
  · subst h; exact ⟨_, _, rfl, ret_k (by kernel_rfl)⟩
  · subst h; exact ⟨_, _, rfl, ret_k (by kernel_rfl)⟩
theorem has_con (n : Int) (dur : Nat → Nat → Int) (torn : Nat → Bool) (pb : Bool) (pw : Nat → CV) (lb : Nat → Bool) (lw : Nat → Nat → CV) (cnt wr : Int) (off armed : Bool) (left i : Int) :
    Con Tryd.prog 82 [.p 0 0, .i .i64 i] [some (stO n dur torn pb pw lb lw cnt wr off armed left)] (.b (decide (0 ≤ i ∧ i < n))) [.keep] := by
  refine con_of_run [] [] ((has_vc n dur torn pb pw lb lw cnt wr off armed left i _).mpr ⟨fun h => ?_, fun h => ?_⟩)
  · have h' : 0 ≤ i := by simpa using h
    have e : decide (0 ≤ i ∧ i < n) = decide (i < n) := by simp [h']
    rw [e]
    exact ⟨h, h, h, trivial, h, trivial, h, h, _, _, rfl, ret_k (by kernel_rfl)⟩
  · have h' : ¬ 0 ≤ i := by simpa using h
    have e : decide (0 ≤ i ∧ i < n) = false := by simp [h']
    rw [e]
    exact ⟨h, h, h, h, h, h, _, _, rfl, ret_k (by kernel_rfl)⟩
theorem add_vc (n : Int) (dur : Nat → Nat → Int) (torn : Nat → Bool) (pb : Bool) (pw : Nat → CV) (lb : Nat → Bool) (lw : Nat → Nat → CV) (cnt wr : Int) (off armed : Bool) (left i : Int) (bs : Nat → Int) (K : Res → Orc → Prop) : runK Tryd.prog 1000000 (.call 89 [.p 0 33281, .i .i64 i, .agg (cvL (fun k => .i .u8 (bs k)) 0 64)] (mkH [some (stO n dur torn pb pw lb lw cnt wr off armed left)])) (Orc.s (Orc.s (Orc.s Orc.z Orc.z) Orc.z) Orc.z) K = (True ∧ True ∧ True ∧ True ∧ True ∧ True ∧ (0 ≤ i ∧ i < 512) ∧ Int.toNat i < 512 ∧ True ∧ True ∧ ((-9223372036854775808) ≤ cnt + 1 ∧ cnt + (1 : Int) ≤ (9223372036854775807 : Int)) ∧ True ∧ True ∧ K (Res.rv (AV.tup []) ⟨T.n (some (AObj.segs 77 33799 [⟨0, 1, 1, fun x x_1 => CV.i .i64 n⟩, ⟨1, 65, 512, fun i j => match Nat.blt j 64 with | true => CV.i .u8 (dur i j) | false => CV.b (torn i)⟩, ⟨33281, 1, 1, fun i_1 j => List.getD [CV.opv true 66 fun j => List.getD [CV.i .i64 i, CV.i .u8 (bs 0), CV.i .u8 (bs 1), CV.i .u8 (bs 2), CV.i .u8 (bs 3), CV.i .u8 (bs 4), CV.i .u8 (bs 5), CV.i .u8 (bs 6), CV.i .u8 (bs 7), CV.i .u8 (bs 8), CV.i .u8 (bs 9), CV.i .u8 (bs 10), CV.i .u8 (bs 11), CV.i .u8 (bs 12), CV.i .u8 (bs 13), CV.i .u8 (bs 14), CV.i .u8 (bs 15), CV.i .u8 (bs 16), CV.i .u8 (bs 17), CV.i .u8 (bs 18), CV.i .u8 (bs 19), CV.i .u8 (bs 20), CV.i .u8 (bs 21), CV.i .u8 (bs 22), CV.i .u8 (bs 23), CV.i .u8 (bs 24), CV.i .u8 (bs 25), CV.i .u8 (bs 26), CV.i .u8 (bs 27), CV.i .u8 (bs 28), CV.i .u8 (bs 29), CV.i .u8 (bs 30), CV.i .u8 (bs 31), CV.i .u8 (bs 32), CV.i .u8 (bs 33), CV.i .u8 (bs 34), CV.i .u8 (bs 35), CV.i .u8 (bs 36), CV.i .u8 (bs 37), CV.i .u8 (bs 38), CV.i .u8 (bs 39), CV.i .u8 (bs 40), CV.i .u8 (bs 41), CV.i .u8 (bs 42), CV.i .u8 (bs 43), CV.i .u8 (bs 44), CV.i .u8 (bs 45), CV.i .u8 (bs 46), CV.i .u8 (bs 47), CV.i .u8 (bs 48), CV.i .u8 (bs 49), CV.i .u8 (bs 50), CV.i .u8 (bs 51), CV.i .u8 (bs 52), CV.i .u8 (bs 53), CV.i .u8 (bs 54), CV.i .u8 (bs 55), CV.i .u8 (bs 56), CV.i .u8 (bs 57), CV.i .u8 (bs 58), CV.i .u8 (bs 59), CV.i .u8 (bs 60), CV.i .u8 (bs 61), CV.i .u8 (bs 62), CV.i .u8 (bs 63), CV.opv pb 66 pw] j CV.p0] (33281 - 33281 + i_1 * 1 + j) CV.p0⟩, ⟨33282, 1, 512, setRow (fun i x => CV.opv (lb i) 66 (lw i)) (Int.toNat i) 0 [CV.opv true 66 fun j => List.getD [CV.i .i64 i, CV.i .u8 (bs 0), CV.i .u8 (bs 1), CV.i .u8 (bs 2), CV.i .u8 (bs 3), CV.i .u8 (bs 4), CV.i .u8 (bs 5), CV.i .u8 (bs 6), CV.i .u8 (bs 7), CV.i .u8 (bs 8), CV.i .u8 (bs 9), CV.i .u8 (bs 10), CV.i .u8 (bs 11), CV.i .u8 (bs 12), CV.i .u8 (bs 13), CV.i .u8 (bs 14), CV.i .u8 (bs 15), CV.i .u8 (bs 16), CV.i .u8 (bs 17), CV.i .u8 (bs 18), CV.i .u8 (bs 19), CV.i .u8 (bs 20), CV.i .u8 (bs 21), CV.i .u8 (bs 22), CV.i .u8 (bs 23), CV.i .u8 (bs 24), CV.i .u8 (bs 25), CV.i .u8 (bs 26), CV.i .u8 (bs 27), CV.i .u8 (bs 28), CV.i .u8 (bs 29), CV.i .u8 (bs 30), CV.i .u8 (bs 31), CV.i .u8 (bs 32), CV.i .u8 (bs 33), CV.i .u8 (bs 34), CV.i .u8 (bs 35), CV.i .u8 (bs 36), CV.i .u8 (bs 37), CV.i .u8 (bs 38), CV.i .u8 (bs 39), CV.i .u8 (bs 40), CV.i .u8 (bs 41), CV.i .u8 (bs 42), CV.i .u8 (bs 43), CV.i .u8 (bs 44), CV.i .u8 (bs 45), CV.i .u8 (bs 46), CV.i .u8 (bs 47), CV.i .u8 (bs 48), CV.i .u8 (bs 49), CV.i .u8 (bs 50), CV.i .u8 (bs 51), CV.i .u8 (bs 52), CV.i .u8 (bs 53), CV.i .u8 (bs 54), CV.i .u8 (bs 55), CV.i .u8 (bs 56), CV.i .u8 (bs 57), CV.i .u8 (bs 58), CV.i .u8 (bs 59), CV.i .u8 (bs 60), CV.i .u8 (bs 61), CV.i .u8 (bs 62), CV.i .u8 (bs 63), CV.opv pb 66 pw] j CV.p0]⟩, ⟨33794, 5, 1, setRow (fun x j => match j with | 0 => CV.i .i64 cnt | 1 => CV.i .i64 wr | 2 => CV.b off | 3 => CV.b armed | x => CV.i .i64 left) 0 0 [CV.i .i64 (cnt + 1)]⟩])) (T.n none T.e T.e) (T.n none T.e T.e), 3, [0, 0, 0, 2, 2, 1, 1]⟩)
 Orc.z) := by kernel_rfl
noncomputable def wL (i : Int) (bs : Nat → Int) (pb : Bool) (pw : Nat → CV) : List CV := .i .i64 i :: (Nat.rec (motive := fun _ => Nat → List CV) (fun _ => [.opv pb 66 pw]) (fun _ ih o => .i .u8 (bs o) :: ih (o + 1)) 64 0)
noncomputable def wF (i : Int) (bs : Nat → Int) (pb : Bool) (pw : Nat → CV) : Nat → CV := fun j => (wL i bs pb pw).getD j .p0
noncomputable def upB (lb : Nat → Bool) (i : Nat) : Nat → Bool := fun k => bif Nat.beq k i then true else lb k
noncomputable def upW (lw : Nat → Nat → CV) (i : Nat) (f : Nat → CV) : Nat → Nat → CV := fun k j => zipCV (Nat.beq k i) (f j) (lw k j)
noncomputable def addO (n : Int) (dur : Nat → Nat → Int) (torn : Nat → Bool) (pb : Bool) (pw : Nat → CV) (lb : Nat → Bool) (lw : Nat → Nat → CV) (cnt wr : Int) (off armed : Bool) (left i : Int) (bs : Nat → Int) : AObj :=
  .segs 77 33799 [⟨0, 1, 1, oneF (.i .i64 n)⟩, ⟨1, 65, 512, durF dur torn⟩, ⟨33281, 1, 1, fun a b => [CV.opv true 66 (wF i bs pb pw)].getD (33281 - 33281 + a * 1 + b) .p0⟩,
    ⟨33282, 1, 512, setRow (latF lb lw) i.toNat 0 [.opv true 66 (wF i bs pb pw)]⟩, ⟨33794, 5, 1, setRow (tailF cnt wr off armed left) 0 0 [.i .i64 (cnt + 1)]⟩]
theorem add_con (n : Int) (dur : Nat → Nat → Int) (torn : Nat → Bool) (pb : Bool) (pw : Nat → CV) (lb : Nat → Bool) (lw : Nat → Nat → CV) (cnt wr : Int) (off armed : Bool) (left i : Int) (bs : Nat → Int)
    (hi : 0 ≤ i ∧ i < 512) (hc : 0 ≤ cnt ∧ cnt < 4611686018427387904) :
    Con Tryd.prog 89 [.p 0 33281, .i .i64 i, .agg (cvL (fun k => .i .u8 (bs k)) 0 64)] [some (stO n dur torn pb pw lb lw cnt wr off armed left)] (.tup [])
      [.set (stO n dur torn true (wF i bs pb pw) (upB lb i.toNat) (upW lw i.toNat (wF i bs pb pw)) (cnt + 1) wr off armed left)] := by
  refine (con_of_run (us := [.set (addO n dur torn pb pw lb lw cnt wr off armed left i bs)]) [] [] ((add_vc n dur torn pb pw lb lw cnt wr off armed left i bs _).mpr ⟨trivial, trivial, trivial, trivial, trivial, trivial, hi, by omega, trivial, trivial, ⟨by omega, by omega⟩, trivial, trivial,
    _, _, rfl, ret_k (by kernel_rfl)⟩)).oeq (OEqL.refl _) ?_
  show OEqL [some _] [some _]
  refine ⟨OEq.segs ⟨⟨rfl, rfl, rfl, fun _ _ _ _ => rfl⟩, ⟨rfl, rfl, rfl, fun _ _ _ _ => rfl⟩, ⟨rfl, rfl, rfl, fun a b ha hb => ?_⟩, ⟨rfl, rfl, rfl, fun a b ha hb => ?_⟩, ⟨rfl, rfl, rfl, fun a b ha hb => ?_⟩, trivial⟩, trivial⟩
  · have ha : a = 0 := by have : a < 1 := ha; omega
    have hb : b = 0 := by have : b < 1 := hb; omega
    subst ha; subst hb; rfl
  · have hb : b = 0 := by have : b < 1 := hb; omega
    subst hb; rfl
  · have ha : a = 0 := by have : a < 1 := ha; omega
    have hb : b < 5 := hb
    subst ha
    have : b = 0 ∨ b = 1 ∨ b = 2 ∨ b = 3 ∨ b = 4 := by omega
    rcases this with rfl | rfl | rfl | rfl | rfl <;> rfl
theorem off_vc (n : Int) (dur : Nat → Nat → Int) (torn : Nat → Bool) (pb : Bool) (pw : Nat → CV) (lb : Nat → Bool) (lw : Nat → Nat → CV) (cnt wr : Int) (off armed : Bool) (left :
 Int) (K : Res → Orc → Prop) : runK Tryd.prog 1000000 (.call 32 [.p 0 0] (mkH [some (stO n dur torn pb pw lb lw cnt wr off armed left)])) (oc 4 (Orc.c
 Orc.z)) K = (True ∧ True ∧ True ∧ K (Res.rv (AV.b off) ⟨T.n (some (AObj.segs 77 33799 [⟨0, 1, 1, fun x x_1 => CV.i .i64 n⟩, ⟨1, 65, 512, fun i j => match Nat.blt j 64 with | true => CV.i .u8 (dur i j) | false => CV.b (torn i)⟩, ⟨33281, 1, 1, fun x x_1 => CV.opv pb 66 pw⟩, ⟨33282, 1, 512, fun i x => CV.opv (lb i) 66 (lw i)⟩, ⟨33794, 5, 1, fun x j => match j with | 0 => CV.i .i64 cnt | 1 => CV.i .i64 wr | 2 => CV.b off | 3 => CV.b armed | x => CV.i .i64 left⟩])) T.e T.e, 1, []⟩)
 Orc.z) := by kernel_rfl
theorem writes_vc (n : Int) (dur : Nat → Nat → Int) (torn : Nat → Bool) (pb : Bool) (pw : Nat → CV) (lb : Nat → Bool) (lw : Nat → Nat → CV) (cnt wr : Int) (off armed : Bool) (left
 : Int) (K : Res → Orc → Prop) : runK Tryd.prog 1000000 (.call 31 [.p 0 0] (mkH [some (stO n dur torn pb pw lb lw cnt wr off armed left)])) (Orc.c Orc.z) K = (True ∧ True ∧ True ∧ K
 (Res.rv (AV.i .i64 wr) ⟨T.n (some (AObj.segs 77 33799 [⟨0, 1, 1, fun x x_1 => CV.i .i64 n⟩, ⟨1, 65, 512, fun i j => match Nat.blt j 64 with | true => CV.i .u8 (dur i j) | false => CV.b (torn i)⟩, ⟨33281, 1, 1, fun x x_1 => CV.opv pb 66 pw⟩, ⟨33282, 1, 512, fun i x => CV.opv (lb i) 66 (lw i)⟩, ⟨33794, 5, 1, fun x j => match j with | 0 => CV.i .i64 cnt | 1 => CV.i .i64 wr | 2 => CV.b off | 3 => CV.b armed | x => CV.i .i64 left⟩])) T.e T.e, 1, []⟩)
 Orc.z) := by kernel_rfl
theorem len_vc (n : Int) (dur : Nat → Nat → Int) (torn : Nat → Bool) (pb : Bool) (pw : Nat → CV) (lb : Nat → Bool) (lw : Nat → Nat → CV) (cnt wr : Int) (off armed : Bool) (left :
 Int) (K : Res → Orc → Prop) : runK Tryd.prog 1000000 (.call 38 [.p 0 0] (mkH [some (stO n dur torn pb pw lb lw cnt wr off armed left)])) (Orc.c Orc.z) K = (True ∧ True ∧ True ∧ K
 (Res.rv (AV.i .i64 n) ⟨T.n (some (AObj.segs 77 33799 [⟨0, 1, 1, fun x x_1 => CV.i .i64 n⟩, ⟨1, 65, 512, fun i j => match Nat.blt j 64 with | true => CV.i .u8 (dur i j) | false => CV.b (torn i)⟩, ⟨33281, 1, 1, fun x x_1 => CV.opv pb 66 pw⟩, ⟨33282, 1, 512, fun i x => CV.opv (lb i) 66 (lw i)⟩, ⟨33794, 5, 1, fun x j => match j with | 0 => CV.i .i64 cnt | 1 => CV.i .i64 wr | 2 => CV.b off | 3 => CV.b armed | x => CV.i .i64 left⟩])) T.e T.e, 1, []⟩)
 Orc.z) := by kernel_rfl
theorem fail_vc (n : Int) (dur : Nat → Nat → Int) (torn : Nat → Bool) (pb : Bool) (pw : Nat → CV) (lb : Nat → Bool) (lw : Nat → Nat → CV) (cnt wr : Int) (off armed : Bool) (left : Int) (K : Res → Orc → Prop) : runK Tryd.prog 1000000 (.call 19 [.p 0 0] (mkH [some (stO n dur torn pb pw lb lw cnt wr off armed left)]))
  (Orc.c Orc.z) K =
  (True ∧
 True ∧
  True ∧
   True ∧
    True ∧
     K
      (Res.rv (AV.tup [])
       {
        tree :=
         T.n
          (some
           (AObj.segs 77 33799
            [⟨0, 1, 1, fun x x_1 => CV.i .i64 n⟩,
             ⟨1, 65, 512, fun i j =>
              match Nat.blt j 64 with
              | true => CV.i .u8 (dur i j)
              | false => CV.b (torn i)⟩,
             ⟨33281, 1, 1, fun x x_1 => CV.opv pb 66 pw⟩, ⟨33282, 1, 512, fun i x => CV.opv (lb i) 66 (lw i)⟩,
             ⟨33794, 5, 1, setRow
               (fun i' j' =>
                match Nat.ble 2 j' with
                | true =>
                 match [CV.b true][j' - 2 % 5]? with
                 | some c =>
                  zipCV (Nat.beq i' 0) c
                   (Seg.f
                    ⟨33794, 5, 1, fun x j =>
                      match j with
                      | 0 => CV.i .i64 cnt
                      | 1 => CV.i .i64 wr
                      | 2 => CV.b off
                      | 3 => CV.b armed
                      | x => CV.i .i64 left⟩
                    i' j')
                 | none =>
                  Seg.f
                   ⟨33794, 5, 1, fun x j =>
                     match j with
                     | 0 => CV.i .i64 cnt
                     | 1 => CV.i .i64 wr
                     | 2 => CV.b off
                     | 3 => CV.b armed
                     | x => CV.i .i64 left⟩
                   i' j'
                | false =>
                 Seg.f
                  ⟨33794, 5, 1, fun x j =>
                    match j with
                    | 0 => CV.i .i64 cnt
                    | 1 => CV.i .i64 wr
                    | 2 => CV.b off
                    | 3 => CV.b armed
                    | x => CV.i .i64 left⟩
                  i' j')
               0 3 [CV.b false]⟩]))
          T.e T.e,
        next := 1, log := [0, 0] })
      Orc.z) := by kernel_rfl
theorem arm_vc (n : Int) (dur : Nat → Nat → Int) (torn : Nat → Bool) (pb : Bool) (pw : Nat → CV) (lb : Nat → Bool) (lw : Nat → Nat → CV) (cnt wr : Int) (off armed : Bool) (left : Int) (k : Int) (K : Res → Orc → Prop) : runK Tryd.prog 1000000 (.call 17 [.p 0 0, .i .i64 k] (mkH [some (stO n dur torn pb pw lb lw cnt wr off armed left)]))
  (Orc.c Orc.z) K =
  (True ∧
 True ∧
  True ∧
   True ∧
    True ∧
     K
      (Res.rv (AV.tup [])
       {
        tree :=
         T.n
          (some
           (AObj.segs 77 33799
            [⟨0, 1, 1, fun x x_1 => CV.i .i64 n⟩,
             ⟨1, 65, 512, fun i j =>
              match Nat.blt j 64 with
              | true => CV.i .u8 (dur i j)
              | false => CV.b (torn i)⟩,
             ⟨33281, 1, 1, fun x x_1 => CV.opv pb 66 pw⟩, ⟨33282, 1, 512, fun i x => CV.opv (lb i) 66 (lw i)⟩,
             ⟨33794, 5, 1, setRow
               (fun i' j' =>
                match Nat.ble 3 j' with
                | true =>
                 match [CV.b (decide ((0 : Int) ≤ k))][j' - 3 % 5]? with
                 | some c =>
                  zipCV (Nat.beq i' 0) c
                   (Seg.f
                    ⟨33794, 5, 1, fun x j =>
                      match j with
                      | 0 => CV.i .i64 cnt
                      | 1 => CV.i .i64 wr
                      | 2 => CV.b off
                      | 3 => CV.b armed
                      | x => CV.i .i64 left⟩
                    i' j')
                 | none =>
                  Seg.f
                   ⟨33794, 5, 1, fun x j =>
                     match j with
                     | 0 => CV.i .i64 cnt
                     | 1 => CV.i .i64 wr
                     | 2 => CV.b off
                     | 3 => CV.b armed
                     | x => CV.i .i64 left⟩
                   i' j'
                | false =>
                 Seg.f
                  ⟨33794, 5, 1, fun x j =>
                    match j with
                    | 0 => CV.i .i64 cnt
                    | 1 => CV.i .i64 wr
                    | 2 => CV.b off
                    | 3 => CV.b armed
                    | x => CV.i .i64 left⟩
                  i' j')
               0 4 [CV.i .i64 (if (0 : Int) > k then (0 : Int) else k)]⟩]))
          T.e T.e,
        next := 1, log := [0, 0] })
      Orc.z) := by kernel_rfl
noncomputable def tO (n : Int) (dur : Nat → Nat → Int) (torn : Nat → Bool) (pb : Bool) (pw : Nat → CV) (lb : Nat → Bool) (lw : Nat → Nat → CV) (g : Nat → Nat → CV) : AObj :=
  .segs 77 33799 [⟨0, 1, 1, oneF (.i .i64 n)⟩, ⟨1, 65, 512, durF dur torn⟩, ⟨33281, 1, 1, oneF (.opv pb 66 pw)⟩, ⟨33282, 1, 512, latF lb lw⟩, ⟨33794, 5, 1, g⟩]
theorem tail_oeq {n : Int} {dur : Nat → Nat → Int} {torn : Nat → Bool} {pb : Bool} {pw : Nat → CV} {lb : Nat → Bool} {lw : Nat → Nat → CV} {g : Nat → Nat → CV} {cnt wr : Int} {off armed : Bool} {left : Int}
    (h : g 0 0 = .i .i64 cnt ∧ g 0 1 = .i .i64 wr ∧ g 0 2 = .b off ∧ g 0 3 = .b armed ∧ g 0 4 = .i .i64 left) : OEqL [some (tO n dur torn pb pw lb lw g)] [some (stO n dur torn pb pw lb lw cnt wr off armed left)] := by
  refine ⟨OEq.segs ⟨⟨rfl, rfl, rfl, fun _ _ _ _ => rfl⟩, ⟨rfl, rfl, rfl, fun _ _ _ _ => rfl⟩, ⟨rfl, rfl, rfl, fun _ _ _ _ => rfl⟩, ⟨rfl, rfl, rfl, fun _ _ _ _ => rfl⟩, ⟨rfl, rfl, rfl, fun a b ha hb => ?_⟩, trivial⟩, trivial⟩
  have ha : a = 0 := by have : a < 1 := ha; omega
  have hb : b < 5 := hb
  subst ha
  have : b = 0 ∨ b = 1 ∨ b = 2 ∨ b = 3 ∨ b = 4 := by omega
  rcases this with rfl | rfl | rfl | rfl | rfl
  · exact h.1
  · exact h.2.1
  · exact h.2.2.1
  · exact h.2.2.2.1
  · exact h.2.2.2.2
section
variable (n : Int) (dur : Nat → Nat → Int) (torn : Nat → Bool) (pb : Bool) (pw : Nat → CV) (lb : Nat → Bool) (lw : Nat → Nat → CV) (cnt wr : Int) (off armed : Bool) (left : Int)
theorem off_con : Con Tryd.prog 32 [.p 0 0] [some (stO n dur torn pb pw lb lw cnt wr off armed left)] (.b off) [.keep] :=
  con_of_run [] [] ((off_vc n dur torn pb pw lb lw cnt wr off armed left _).mpr ⟨trivial, trivial, trivial, _, _, rfl, ret_k (by kernel_rfl)⟩)
theorem writes_con : Con Tryd.prog 31 [.p 0 0] [some (stO n dur torn pb pw lb lw cnt wr off armed left)] (.i .i64 wr) [.keep] :=
  con_of_run [] [] ((writes_vc n dur torn pb pw lb lw cnt wr off armed left _).mpr ⟨trivial, trivial, trivial, _, _, rfl, ret_k (by kernel_rfl)⟩)
theorem len_con : Con Tryd.prog 38 [.p 0 0] [some (stO n dur torn pb pw lb lw cnt wr off armed left)] (.i .i64 n) [.keep] :=
  con_of_run [] [] ((len_vc n dur torn pb pw lb lw cnt wr off armed left _).mpr ⟨trivial, trivial, trivial, _, _, rfl, ret_k (by kernel_rfl)⟩)
theorem fail_con : Con Tryd.prog 19 [.p 0 0] [some (stO n dur torn pb pw lb lw cnt wr off armed left)] (.tup []) [.set (stO n dur torn pb pw lb lw cnt wr true false left)] :=
  Con.runE (us := [.set (tO n dur torn pb pw lb lw (setRow (setRow (tailF cnt wr off armed left) 0 2 [.b true]) 0 3 [.b false]))]) [] []
    ((fail_vc n dur torn pb pw lb lw cnt wr off armed left _).mpr ⟨trivial, trivial, trivial, trivial, trivial, _, _, rfl, ret_k (by kernel_rfl)⟩)
    (tail_oeq ⟨rfl, rfl, rfl, rfl, rfl⟩)
theorem arm_con (k : Int) : Con Tryd.prog 17 [.p 0 0, .i .i64 k] [some (stO n dur torn pb pw lb lw cnt wr off armed left)] (.tup []) [.set (stO n dur torn pb pw lb lw cnt wr off (decide (0 ≤ k)) (if 0 > k then 0 else k))] :=
  Con.runE (us := [.set (tO n dur torn pb pw lb lw (setRow (setRow (tailF cnt wr off armed left) 0 3 [.b (decide (0 ≤ k))]) 0 4 [.i .i64 (if 0 > k then 0 else k)]))]) [] []
    ((arm_vc n dur torn pb pw lb lw cnt wr off armed left k _).mpr ⟨trivial, trivial, trivial, trivial, trivial, _, _, rfl, ret_k (by kernel_rfl)⟩)
    (tail_oeq ⟨rfl, rfl, rfl, rfl, rfl⟩)
end
section
variable (n : Int) (dur : Nat → Nat → Int) (torn : Nat → Bool) (pb : Bool) (pw : Nat → CV) (lb : Nat → Bool) (lw : Nat → Nat → CV) (cnt wr : Int) (left : Int)
end
abbrev PW := List (Nat × (Nat → Int))
noncomputable def wN (i : Int) (bs : Nat → Int) (pb : Bool) (pw : Nat → CV) : Nat → CV := fun j => match j with
  | 0 => .i .i64 i
  | j + 1 => match Nat.blt j 64 with
    | true => .i .u8 (bs j)
    | false => .opv pb 66 pw
noncomputable def pB : PW → Bool
  | [] => false
  | _ :: _ => true
noncomputable def pW (P : PW) : Nat → CV := List.rec (motive := fun _ => Nat → CV) (fun _ => .p0) (fun w P ih => wN (Int.ofNat w.1) w.2 (pB P) ih) P
noncomputable def lB : PW → Nat → Bool
  | [], _ => false
  | w :: P, k => bif Nat.beq k w.1 then true else lB P k
noncomputable def lbs : PW → Nat → Nat → Int
  | [], _ => fun _ => 0
  | w :: P, k => bif Nat.beq k w.1 then w.2 else lbs P k
noncomputable def lrest : PW → Nat → PW
  | [], _ => []
  | w :: P, k => bif Nat.beq k w.1 then P else lrest P k
noncomputable def lW (P : PW) (k : Nat) : Nat → CV := wN (Int.ofNat k) (lbs P k) (pB (lrest P k)) (pW (lrest P k))
theorem wL_wN (i : Int) (bs : Nat → Int) (pb : Bool) (pw : Nat → CV) : ∀ j, j < 66 → wF i bs pb pw j = wN i bs pb pw j := by
  intro j hj
  have : ∀ j : Fin 66, wF i bs pb pw j = wN i bs pb pw j := by
    intro j
    match j with
    | ⟨0, _⟩ => rfl
    | ⟨j + 1, h⟩ =>
      show (wL i bs pb pw).getD (j + 1) .p0 = _
      have key : ∀ (m o k : Nat), k ≤ m → (Nat.rec (motive := fun _ => Nat → List CV) (fun _ => [CV.opv pb 66 pw]) (fun _ ih o => CV.i .u8 (bs o) :: ih (o + 1)) m o).getD k .p0 = (match Nat.blt k m with | true => CV.i .u8 (bs (o + k)) | false => CV.opv pb 66 pw) := by
        intro m
        induction m with
        | zero => intro o k hk; obtain rfl : k = 0 := by omega
                  rfl
        | succ m ih =>
          intro o k hk
          cases k with
          | zero => rfl
          | succ k =>
            have h1 := ih (o + 1) k (by omega)
            have e : Nat.blt (k + 1) (m + 1) = Nat.blt k m := by
              rw [Bool.eq_iff_iff, Nat.blt_eq, Nat.blt_eq]; omega
            rw [e]
            show (Nat.rec (motive := fun _ => Nat → List CV) (fun _ => [CV.opv pb 66 pw]) (fun _ ih o => CV.i .u8 (bs o) :: ih (o + 1)) m (o + 1)).getD k .p0 = _
            rw [h1, show o + 1 + k = o + (k + 1) by omega]
      have h1 := key 64 0 j (by omega)
      rw [Nat.zero_add] at h1
      exact h1
  exact this ⟨j, hj⟩
theorem zipCV_CW (c : Bool) : ∀ (a b : CV), CW (zipCV c a b) (bif c then a else b) := by
  intro a
  induction a with
  | sv sz n f ih =>
    intro b
    cases b <;> try exact .refl _
    rename_i sz' n' f'
    simp only [zipCV]
    split
    · rename_i e
      have e' := Nat.eq_of_beq_eq_true e
      subst e'
      cases c with
      | true => exact .sv fun i j _ _ => ih i j _
      | false => exact .sv fun i j _ _ => ih i j _
    · exact .refl _
  | i k n =>
    intro b
    cases b <;> try exact .refl _
    rename_i k' n'
    simp only [zipCV]
    split
    · rename_i e
      simp at e; subst e
      cases c <;> exact .refl _
    · exact .refl _
  | opv b0 sz f ih =>
    intro b
    cases b with
    | opv b1 sz' f' =>
      simp only [zipCV]
      split
      · rename_i e
        have e' := Nat.eq_of_beq_eq_true e
        subst e'
        cases c with
        | true => exact .opv fun _ j _ => ih j _
        | false => exact .opv fun _ j _ => ih j _
      · exact .refl _
    | p0 =>
      cases c with
      | true => exact .refl _
      | false => intro ro v h; cases h; exact .p0
    | _ => exact .refl _
  | b x => intro b; cases b <;> cases c <;> exact .refl _
  | s x => intro b; cases b <;> cases c <;> exact .refl _
  | p0 => intro b; cases b <;> cases c <;> exact .refl _
  | m0 => intro b; cases b <;> cases c <;> exact .refl _
  | f0 => intro b; cases b <;> cases c <;> exact .refl _
  | if0 => intro b; cases b <;> cases c <;> exact .refl _
  | ifc t x ih => intro b; cases b <;> cases c <;> exact .refl _
structure SS where
  n : Nat
  dur : Nat → Nat → Int
  torn : Nat → Bool
  P : PW
  wr : Nat
  off : Bool
  armed : Bool
  left : Nat
noncomputable def SS.o (s : SS) : AObj := stO (Int.ofNat s.n) s.dur s.torn (pB s.P) (pW s.P) (lB s.P) (lW s.P) (Int.ofNat s.P.length) (Int.ofNat s.wr) s.off s.armed (Int.ofNat s.left)
theorem SS.OV {s : SS} {pb : Bool} {pw : Nat → CV} {lb : Nat → Bool} {lw : Nat → Nat → CV} {n cnt wr left : Int} {dur : Nat → Nat → Int} {torn : Nat → Bool} {off armed : Bool}
    (h1 : CW (.opv pb 66 pw) (.opv (pB s.P) 66 (pW s.P))) (h2 : ∀ k, k < 512 → CW (.opv (lb k) 66 (lw k)) (.opv (lB s.P k) 66 (lW s.P k)))
    (hn : n = Int.ofNat s.n) (hd : ∀ i j, i < 512 → j < 64 → dur i j = s.dur i j) (ht : ∀ i, i < 512 → torn i = s.torn i) (hc : cnt = Int.ofNat s.P.length) (hw : wr = Int.ofNat s.wr) (ho : off = s.off) (ha : armed = s.armed) (hl : left = Int.ofNat s.left) :
    Sim.OV (some (stO n dur torn pb pw lb lw cnt wr off armed left)) (some s.o) := by
  subst hn hc hw ho ha hl
  refine .segsW ⟨.refl _, ⟨rfl, rfl, rfl, fun i j hi hj => ?_⟩, ⟨rfl, rfl, rfl, fun _ _ _ _ => h1⟩, ⟨rfl, rfl, rfl, fun i _ hi _ => h2 i hi⟩, .refl _, trivial⟩
  have hi : i < 512 := hi
  refine .of ?_
  show durF dur torn i j = durF s.dur s.torn i j
  unfold durF
  cases hb : Nat.blt j 64 with
  | true =>
    rw [Nat.blt_eq] at hb
    simp only; rw [hd i j hi hb]
  | false => simp only; rw [ht i hi]
noncomputable def SS.put (s : SS) (q : Nat) (bs : Nat → Int) : SS := { s with P := (q, bs) :: s.P }
theorem add2_con (s : SS) (q : Nat) (bs : Nat → Int) (hq : q < 512) (hc : s.P.length < 4611686018427387904) :
    Con Tryd.prog 89 [.p 0 33281, .i .i64 (Int.ofNat q), .agg (cvL (fun k => .i .u8 (bs k)) 0 64)] [some s.o] (.tup []) [.set (s.put q bs).o] := by
  refine (add_con (Int.ofNat s.n) s.dur s.torn (pB s.P) (pW s.P) (lB s.P) (lW s.P) (Int.ofNat s.P.length) (Int.ofNat s.wr) s.off s.armed (Int.ofNat s.left) (Int.ofNat q) bs ⟨by simp, by simp; omega⟩ ⟨by simp, by simp; omega⟩).post (.refl _) ⟨SS.OV ?_ ?_ rfl (fun _ _ _ _ => rfl) (fun _ _ => rfl) ?_ rfl rfl rfl rfl, trivial⟩
  · exact .opv fun _ j hj => .of (wL_wN _ _ _ _ j hj)
  · intro k hk
    show CW (.opv (bif Nat.beq k q then true else lB s.P k) 66 fun j => zipCV (Nat.beq k q) (wF (Int.ofNat q) bs (pB s.P) (pW s.P) j) (lW s.P k j))
      (.opv (bif Nat.beq k q then true else lB s.P k) 66 (wN (Int.ofNat k) (bif Nat.beq k q then bs else lbs s.P k) (pB (bif Nat.beq k q then s.P else lrest s.P k)) (pW (bif Nat.beq k q then s.P else lrest s.P k))))
    refine .opv fun _ j hj => (zipCV_CW _ _ _).trans (.of ?_)
    cases hb : Nat.beq k q with
    | true =>
      have e := Nat.eq_of_beq_eq_true hb
      subst e
      exact wL_wN _ _ _ _ j hj
    | false => rfl
  · rfl
noncomputable def SS.pay (s : SS) : SS := match s.armed with
  | false => s
  | true => match Nat.beq s.left 0 with
    | true => { s with off := true, armed := false }
    | false => { s with left := s.left - 1 }
noncomputable def SS.payE (s : SS) : Int := match s.armed with
  | false => 0
  | true => match Nat.beq s.left 0 with
    | true => 13
    | false => 0
noncomputable def SS.faultE (s : SS) : Int := bif s.off then 13 else 0
theorem fault2_con (s : SS) : Con Tryd.prog 81 [.p 0 0] [some s.o] (.i .i64 s.faultE) [.keep] := fault_con _ _ _ _ _ _ _ _ _ _ _ _
theorem has2_con (s : SS) (i : Int) : Con Tryd.prog 82 [.p 0 0, .i .i64 i] [some s.o] (.b (decide (0 ≤ i ∧ i < Int.ofNat s.n))) [.keep] := has_con _ _ _ _ _ _ _ _ _ _ _ _ i
noncomputable def SS.arm (s : SS) (k : Int) : SS := { s with armed := decide (0 ≤ k), left := k.toNat }
noncomputable def SS.fail (s : SS) : SS := { s with off := true, armed := false }
theorem arm2_con (s : SS) (k : Int) : Con Tryd.prog 17 [.p 0 0, .i .i64 k] [some s.o] (.tup []) [.set (s.arm k).o] := by
  have h := arm_con (Int.ofNat s.n) s.dur s.torn (pB s.P) (pW s.P) (lB s.P) (lW s.P) (Int.ofNat s.P.length) (Int.ofNat s.wr) s.off s.armed (Int.ofNat s.left) k
  have e : (if 0 > k then 0 else k) = Int.ofNat k.toNat := by split <;> simp <;> omega
  rw [e] at h
  exact h
theorem fail2_con (s : SS) : Con Tryd.prog 19 [.p 0 0] [some s.o] (.tup []) [.set s.fail.o] := fail_con _ _ _ _ _ _ _ _ _ _ _ _
theorem off2_con (s : SS) : Con Tryd.prog 32 [.p 0 0] [some s.o] (.b s.off) [.keep] := off_con _ _ _ _ _ _ _ _ _ _ _ _
theorem writes2_con (s : SS) : Con Tryd.prog 31 [.p 0 0] [some s.o] (.i .i64 (Int.ofNat s.wr)) [.keep] := writes_con _ _ _ _ _ _ _ _ _ _ _ _
theorem len2_con (s : SS) : Con Tryd.prog 38 [.p 0 0] [some s.o] (.i .i64 (Int.ofNat s.n)) [.keep] := len_con _ _ _ _ _ _ _ _ _ _ _ _
theorem writeA_vc (s : SS) (q N : Nat) (e5 : TypeId) (bs : Nat → Int) (K : Res → Orc → Prop) : runK Tryd.prog 1000000 (.call 77 [.p 0 0, .i .i64 (Int.ofNat q), .lr 1 1 0 64 false] (mkH [some s.o, some (.rows e5 1 N fun k _ => .i .u8 (bs k))]))
  (Orc.cal [0] (AV.i .i64 (SS.faultE s)) [Upd.keep] (Orc.s Orc.z (Orc.cal [0] (AV.b (decide ((0 : Int) ≤ Int.ofNat q ∧ Int.ofNat q < Int.ofNat (SS.n s)))) [Upd.keep] (Orc.s (Orc.t (Orc.t (Orc.f (Orc.c (Orc.cal [0] (AV.tup []) [Upd.set (SS.o (SS.put s q bs))] (Orc.inl (Orc.s Orc.z (Orc.s (Orc.inl (Orc.c Orc.z)) Orc.z)))))))) (Orc.f (Orc.f (Orc.t (Orc.c Orc.z)))))))) K =
  (Con Tryd.prog 81 [AV.p 0 0] [some (SS.o s)] (AV.i .i64 (SS.faultE s)) [Upd.keep] ∧
 ((!decide (SS.faultE s = (0 : Int))) = true → K (Res.rv (AV.i .i64 (SS.faultE s)) ⟨T.n (some (AObj.segs 77 33799 [⟨0, 1, 1, oneF (CV.i .i64 (Int.ofNat (SS.n s)))⟩, ⟨1, 65, 512, durF (SS.dur s) (SS.torn s)⟩, ⟨33281, 1, 1, oneF (CV.opv (pB (SS.P s)) 66 (pW (SS.P s)))⟩, ⟨33282, 1, 512, latF (lB (SS.P s)) (lW (SS.P s))⟩, ⟨33794, 5, 1, tailF (Int.ofNat (List.length (SS.P s))) (Int.ofNat (SS.wr s)) (SS.off s) (SS.armed s) (Int.ofNat (SS.left s))⟩])) (T.n (some (AObj.rows e5 1 N fun k x => CV.i .u8 (bs k))) T.e T.e) T.e, 2, []⟩) Orc.z) ∧
  ((!decide (SS.faultE s = (0 : Int))) = false →
   Con Tryd.prog 82 [AV.p 0 0, AV.i .i64 (Int.ofNat q)] [some (SS.o s)] (AV.b (decide ((0 : Int) ≤ Int.ofNat q ∧ Int.ofNat q < Int.ofNat (SS.n s)))) [Upd.keep] ∧
    True ∧
     ((!!decide ((0 : Int) ≤ Int.ofNat q ∧ Int.ofNat q < Int.ofNat (SS.n s))) = true →
       (!!decide ((0 : Int) ≤ Int.ofNat q ∧ Int.ofNat q < Int.ofNat (SS.n s))) = true ∧
        (!!decide ((0 : Int) ≤ Int.ofNat q ∧ Int.ofNat q < Int.ofNat (SS.n s))) = true ∧
         (!decide ((0 : Int) ≤ Int.ofNat q ∧ Int.ofNat q < Int.ofNat (SS.n s))) = false ∧
          True ∧
           (64 ≤ 64 ∧ 0 < 64) ∧
            64 ≤ N ∧
             Con Tryd.prog 89 [AV.p 0 33281, AV.i .i64 (Int.ofNat q), AV.agg (cvL (fun k => CV.i .u8 (bs k)) 0 64)] [some (SS.o s)] (AV.tup []) [Upd.set (SS.o (SS.put s q bs))] ∧
              True ∧
               True ∧
                ((-9223372036854775808 : Int) ≤ Int.ofNat (SS.wr (SS.put s q bs)) + (1 : Int) ∧ Int.ofNat (SS.wr (SS.put s q bs)) + (1 : Int) ≤ (9223372036854775807 : Int)) ∧
                 True ∧
                  True ∧
                   True ∧
                    True ∧
                     True ∧
                      ((!SS.armed (SS.put s q bs)) = true →
                        K
                         (Res.rv (AV.i .i64 (0 : Int))
                          {
                           tree :=
                            T.n
                             (some
                              (AObj.segs 77 33799
                               [⟨0, 1, 1, oneF (CV.i .i64 (Int.ofNat (SS.n (SS.put s q bs))))⟩, ⟨1, 65, 512, durF (SS.dur (SS.put s q bs)) (SS.torn (SS.put s q bs))⟩, ⟨33281, 1, 1, oneF (CV.opv (pB (SS.P (SS.put s q bs))) 66 (pW (SS.P (SS.put s q bs))))⟩, ⟨33282, 1, 512, latF (lB (SS.P (SS.put s q bs))) (lW (SS.P (SS.put s q bs)))⟩,
                                ⟨33794, 5, 1, setRow
                                   (fun x j =>
                                    match j with
                                    | 0 => CV.i .i64 (Int.ofNat (List.length ((q, bs) :: SS.P s)))
                                    | 1 => CV.i .i64 (Int.ofNat (SS.wr (SS.put s q bs)))
                                    | 2 => CV.b (SS.off (SS.put s q bs))
                                    | 3 => CV.b (SS.armed (SS.put s q bs))
                                    | x => CV.i .i64 (Int.ofNat (SS.left (SS.put s q bs))))
                                   0 1 [CV.i .i64 (Int.ofNat (SS.wr (SS.put s q bs)) + (1 : Int))]⟩]))
                             (T.n (some (AObj.rows e5 1 N fun k x => CV.i .u8 (bs k))) T.e T.e) T.e,
                           next := 2, log := [0, 0] })
                         Orc.z) ∧
                       ((!SS.armed (SS.put s q bs)) = false →
                        True ∧
                         True ∧
                          (decide (Int.ofNat (SS.left (SS.put s q bs)) = (0 : Int)) = true →
                            True ∧
                             True ∧
                              True ∧
                               True ∧
                                True ∧
                                 K
                                  (Res.rv (AV.i .i64 (13 : Int))
                                   {
                                    tree :=
                                     T.n
                                      (some
                                       (AObj.segs 77 33799
                                        [⟨0, 1, 1, oneF (CV.i .i64 (Int.ofNat (SS.n (SS.put s q bs))))⟩, ⟨1, 65, 512, durF (SS.dur (SS.put s q bs)) (SS.torn (SS.put s q bs))⟩, ⟨33281, 1, 1, oneF (CV.opv (pB (SS.P (SS.put s q bs))) 66 (pW (SS.P (SS.put s q bs))))⟩, ⟨33282, 1, 512, latF (lB (SS.P (SS.put s q bs))) (lW (SS.P (SS.put s q bs)))⟩,
                                         ⟨33794, 5, 1, setRow
                                          (fun i' j' =>
                                           match Nat.ble 2 j' with
                                           | true =>
                                            match [CV.b true][j' - 2 % 5]? with
                                            | some c =>
                                             zipCV (Nat.beq i' 0) c
                                              (Seg.f
                                               ⟨33794, 5, 1, setRow
                                                  (fun x j =>
                                                   match j with
                                                   | 0 => CV.i .i64 (Int.ofNat (List.length ((q, bs) :: SS.P s)))
                                                   | 1 => CV.i .i64 (Int.ofNat (SS.wr (SS.put s q bs)))
                                                   | 2 => CV.b (SS.off (SS.put s q bs))
                                                   | 3 => CV.b (SS.armed (SS.put s q bs))
                                                   | x => CV.i .i64 (Int.ofNat (SS.left (SS.put s q bs))))
                                                  0 1 [CV.i .i64 (Int.ofNat (SS.wr (SS.put s q bs)) + (1 : Int))]⟩
                                               i' j')
                                            | none =>
                                             Seg.f
                                              ⟨33794, 5, 1, setRow
                                                 (fun x j =>
                                                  match j with
                                                  | 0 => CV.i .i64 (Int.ofNat (List.length ((q, bs) :: SS.P s)))
                                                  | 1 => CV.i .i64 (Int.ofNat (SS.wr (SS.put s q bs)))
                                                  | 2 => CV.b (SS.off (SS.put s q bs))
                                                  | 3 => CV.b (SS.armed (SS.put s q bs))
                                                  | x => CV.i .i64 (Int.ofNat (SS.left (SS.put s q bs))))
                                                 0 1 [CV.i .i64 (Int.ofNat (SS.wr (SS.put s q bs)) + (1 : Int))]⟩
                                              i' j'
                                           | false =>
                                            Seg.f
                                             ⟨33794, 5, 1, setRow
                                                (fun x j =>
                                                 match j with
                                                 | 0 => CV.i .i64 (Int.ofNat (List.length ((q, bs) :: SS.P s)))
                                                 | 1 => CV.i .i64 (Int.ofNat (SS.wr (SS.put s q bs)))
                                                 | 2 => CV.b (SS.off (SS.put s q bs))
                                                 | 3 => CV.b (SS.armed (SS.put s q bs))
                                                 | x => CV.i .i64 (Int.ofNat (SS.left (SS.put s q bs))))
                                                0 1 [CV.i .i64 (Int.ofNat (SS.wr (SS.put s q bs)) + (1 : Int))]⟩
                                             i' j')
                                          0 3 [CV.b false]⟩]))
                                      (T.n (some (AObj.rows e5 1 N fun k x => CV.i .u8 (bs k))) T.e T.e) T.e,
                                    next := 2, log := [0, 0, 0, 0] })
                                  Orc.z) ∧
                           (decide (Int.ofNat (SS.left (SS.put s q bs)) = (0 : Int)) = false →
                            True ∧
                             True ∧
                              ((-9223372036854775808 : Int) ≤ Int.ofNat (SS.left (SS.put s q bs)) - (1 : Int) ∧ Int.ofNat (SS.left (SS.put s q bs)) - (1 : Int) ≤ (9223372036854775807 : Int)) ∧
                               True ∧
                                True ∧
                                 K
                                  (Res.rv (AV.i .i64 (0 : Int))
                                   {
                                    tree :=
                                     T.n
                                      (some
                                       (AObj.segs 77 33799
                                        [⟨0, 1, 1, oneF (CV.i .i64 (Int.ofNat (SS.n (SS.put s q bs))))⟩, ⟨1, 65, 512, durF (SS.dur (SS.put s q bs)) (SS.torn (SS.put s q bs))⟩, ⟨33281, 1, 1, oneF (CV.opv (pB (SS.P (SS.put s q bs))) 66 (pW (SS.P (SS.put s q bs))))⟩, ⟨33282, 1, 512, latF (lB (SS.P (SS.put s q bs))) (lW (SS.P (SS.put s q bs)))⟩,
                                         ⟨33794, 5, 1, setRow
                                          (fun i' j' =>
                                           match Nat.ble 1 j' with
                                           | true =>
                                            match [CV.i .i64 (Int.ofNat (SS.wr (SS.put s q bs)) + (1 : Int))][j' - 1 % 5]? with
                                            | some c => zipCV (Nat.beq i' 0) c (Seg.f ⟨33794, 5, 1, tailF (Int.ofNat (List.length (SS.P (SS.put s q bs)))) (Int.ofNat (SS.wr (SS.put s q bs))) (SS.off (SS.put s q bs)) (SS.armed (SS.put s q bs)) (Int.ofNat (SS.left (SS.put s q bs)))⟩ i' j')
                                            | none => Seg.f ⟨33794, 5, 1, tailF (Int.ofNat (List.length (SS.P (SS.put s q bs)))) (Int.ofNat (SS.wr (SS.put s q bs))) (SS.off (SS.put s q bs)) (SS.armed (SS.put s q bs)) (Int.ofNat (SS.left (SS.put s q bs)))⟩ i' j'
                                           | false => Seg.f ⟨33794, 5, 1, tailF (Int.ofNat (List.length (SS.P (SS.put s q bs)))) (Int.ofNat (SS.wr (SS.put s q bs))) (SS.off (SS.put s q bs)) (SS.armed (SS.put s q bs)) (Int.ofNat (SS.left (SS.put s q bs)))⟩ i' j')
                                          0 4 [CV.i .i64 (Int.ofNat (SS.left (SS.put s q bs)) - (1 : Int))]⟩]))
                                      (T.n (some (AObj.rows e5 1 N fun k x => CV.i .u8 (bs k))) T.e T.e) T.e,
                                    next := 2, log := [0, 0, 0] })
                                  Orc.z))) ∧
      ((!!decide ((0 : Int) ≤ Int.ofNat q ∧ Int.ofNat q < Int.ofNat (SS.n s))) = false → (!!decide ((0 : Int) ≤ Int.ofNat q ∧ Int.ofNat q < Int.ofNat (SS.n s))) = false ∧ (!!decide ((0 : Int) ≤ Int.ofNat q ∧ Int.ofNat q < Int.ofNat (SS.n s))) = false ∧ (!decide ((0 : Int) ≤ Int.ofNat q ∧ Int.ofNat q < Int.ofNat (SS.n s))) = true ∧ K (Res.rv (AV.i .i64 (2 : Int)) ⟨T.n (some (AObj.segs 77 33799 [⟨0, 1, 1, oneF (CV.i .i64 (Int.ofNat (SS.n s)))⟩, ⟨1, 65, 512, durF (SS.dur s) (SS.torn s)⟩, ⟨33281, 1, 1, oneF (CV.opv (pB (SS.P s)) 66 (pW (SS.P s)))⟩, ⟨33282, 1, 512, latF (lB (SS.P s)) (lW (SS.P s))⟩, ⟨33794, 5, 1, tailF (Int.ofNat (List.length (SS.P s))) (Int.ofNat (SS.wr s)) (SS.off s) (SS.armed s) (Int.ofNat (SS.left s))⟩])) (T.n (some (AObj.rows e5 1 N fun k x => CV.i .u8 (bs k))) T.e T.e) T.e, 2, []⟩) Orc.z))) := by kernel_rfl
noncomputable def SS.wrote (s : SS) (q : Nat) (bs : Nat → Int) : SS := { s with P := (q, bs) :: s.P, wr := s.wr + 1 }
structure SS.Ok (s : SS) : Prop where
  n : s.n ≤ 512
  P : s.P.length < 4611686018427387904
  wr : s.wr < 4611686018427387904
  left : s.left < 9223372036854775808
  at_ : ∀ w ∈ s.P, w.1 < s.n
noncomputable def SS.wrE (s : SS) (i : Int) (L : Nat) : Int := match s.off with
  | true => 13
  | false => match decide (0 ≤ i ∧ i < Int.ofNat s.n ∧ L = 64) with
    | true => (s.wrote i.toNat fun _ => 0).payE
    | false => 2
noncomputable def SS.wrS (s : SS) (i : Int) (L : Nat) (bs : Nat → Int) : SS := match s.off with
  | true => s
  | false => match decide (0 ≤ i ∧ i < Int.ofNat s.n ∧ L = 64) with
    | true => (s.wrote i.toNat bs).pay
    | false => s
theorem list_vc (bs : Nat → Int) (K : Res → Orc → Prop) : runK Tryd.prog 1000000 (.call 66 [.agg (cvL (fun k => .i .u8 (bs k)) 0 64)] (mkH [])) (Orc.c Orc.z) K = (K (Res.rv (AV.l 0 0 64 64 1 true) ⟨T.n (some (AObj.cells 68 64 [] (T.n (some (AV.i .u8 (bs 0))) (T.n (some (AV.i .u8 (bs 1))) (T.n (some (AV.i .u8 (bs 3))) (T.n (some (AV.i .u8 (bs 7))) (T.n (some (AV.i .u8 (bs 15))) (T.n (some (AV.i .u8 (bs 31))) (T.n (some (AV.i .u8 (bs 63))) T.e T.e) T.e) (T.n (some (AV.i .u8 (bs 47))) T.e T.e)) (T.n (some (AV.i .u8 (bs 23))) (T.n (some (AV.i .u8 (bs 39))) T.e T.e) (T.n (some (AV.i .u8 (bs 55))) T.e T.e))) (T.n (some (AV.i .u8 (bs 11))) (T.n (some (AV.i .u8 (bs 19))) (T.n (some (AV.i .u8 (bs 35))) T.e T.e) (T.n (some (AV.i .u8 (bs 51))) T.e T.e)) (T.n (some (AV.i .u8 (bs 27))) (T.n (some (AV.i .u8 (bs 43))) T.e T.e) (T.n (some (AV.i .u8 (bs 59))) T.e T.e)))) (T.n (some (AV.i .u8 (bs 5)))
  (T.n (some (AV.i .u8 (bs 9))) (T.n (some (AV.i .u8 (bs 17))) (T.n (some (AV.i .u8 (bs 33))) T.e T.e) (T.n (some (AV.i .u8 (bs 49))) T.e T.e)) (T.n (some (AV.i .u8 (bs 25))) (T.n (some (AV.i .u8 (bs 41))) T.e T.e) (T.n (some (AV.i .u8 (bs 57))) T.e T.e))) (T.n (some (AV.i .u8 (bs 13))) (T.n (some (AV.i .u8 (bs 21))) (T.n (some (AV.i .u8 (bs 37))) T.e T.e) (T.n (some (AV.i .u8 (bs 53))) T.e T.e)) (T.n (some (AV.i .u8 (bs 29))) (T.n (some (AV.i .u8 (bs 45))) T.e T.e) (T.n (some (AV.i .u8 (bs 61))) T.e T.e))))) (T.n (some (AV.i .u8 (bs 2))) (T.n (some (AV.i .u8 (bs 4))) (T.n (some (AV.i .u8 (bs 8))) (T.n (some (AV.i .u8 (bs 16))) (T.n (some (AV.i .u8 (bs 32))) T.e T.e) (T.n (some (AV.i .u8 (bs 48))) T.e T.e)) (T.n (some (AV.i .u8 (bs 24))) (T.n (some (AV.i .u8 (bs 40))) T.e T.e) (T.n (some (AV.i .u8 (bs 56))) T.e T.e))) (T.n (some (AV.i .u8 (bs 12))) (T.n (some (AV.i .u8 (bs 20))) (T.n
  (some (AV.i .u8 (bs 36))) T.e T.e) (T.n (some (AV.i .u8 (bs 52))) T.e T.e)) (T.n (some (AV.i .u8 (bs 28))) (T.n (some (AV.i .u8 (bs 44))) T.e T.e) (T.n (some (AV.i .u8 (bs 60))) T.e T.e)))) (T.n (some (AV.i .u8 (bs 6))) (T.n (some (AV.i .u8 (bs 10))) (T.n (some (AV.i .u8 (bs 18))) (T.n (some (AV.i .u8 (bs 34))) T.e T.e) (T.n (some (AV.i .u8 (bs 50))) T.e T.e)) (T.n (some (AV.i .u8 (bs 26))) (T.n (some (AV.i .u8 (bs 42))) T.e T.e) (T.n (some (AV.i .u8 (bs 58))) T.e T.e))) (T.n (some (AV.i .u8 (bs 14))) (T.n (some (AV.i .u8 (bs 22))) (T.n (some (AV.i .u8 (bs 38))) T.e T.e) (T.n (some (AV.i .u8 (bs 54))) T.e T.e)) (T.n (some (AV.i .u8 (bs 30))) (T.n (some (AV.i .u8 (bs 46))) T.e T.e) (T.n (some (AV.i .u8 (bs 62))) T.e T.e)))))))) T.e T.e, 1, [0]⟩) Orc.z) := by kernel_rfl
theorem list_con (bs : Nat → Int) : Con Tryd.prog 66 [.agg (cvL (fun k => .i .u8 (bs k)) 0 64)] [] (.lr 0 1 0 64 true) [.set (.rows 68 1 64 fun k _ => .i .u8 (bs k))] :=
  (con_of_run (v := .l 0 0 64 64 1 true) (us := [.set (cellsO 68 (cvL (fun k => .i .u8 (bs k)) 0 64))]) [] [0] ((list_vc bs _).mpr ⟨_, _, rfl, ret_k (by kernel_rfl)⟩)).post VW.l_lrE ⟨.x .cvRows, trivial⟩
theorem read2_vc (s : SS) (i : Int) (K : Res → Orc → Prop) : runK Tryd.prog 1000000 (.call 68 [.p 0 0, .i .i64 i] (mkH [some s.o])) (Orc.cal [0] (AV.i .i64 (SS.faultE s)) [Upd.keep] (Orc.s Orc.z (Orc.cal [0] (AV.b (decide (0 ≤ i ∧ i < Int.ofNat (SS.n s)))) [Upd.keep] (Orc.s Orc.z (Orc.s (Orc.s (Orc.cal [] (AV.lr 0 1 0 64 true) [Upd.set (AObj.rows 68 1 64 fun k x => CV.i .u8 (lbs (SS.P s) (Int.toNat i) k))] Orc.z) (Orc.s (Orc.s Orc.z (Orc.s (Orc.cal [] (AV.lr 0 1 0 64 true) [Upd.set (AObj.rows 68 1 64 fun k x => CV.i .u8 (SS.dur s (Int.toNat i) k))] Orc.z) Orc.z)) Orc.z)) Orc.z))))) K = (Con Tryd.prog 81 [AV.p 0 0] [some (SS.o s)] (AV.i .i64 (SS.faultE s)) [Upd.keep] ∧ ((!decide (SS.faultE s = 0)) = true → K (Res.rv (AV.tup [AV.l0, AV.i .i64 (SS.faultE s)]) ⟨T.n (some (AObj.segs 77 33799 [⟨0, 1, 1, oneF (CV.i .i64 (Int.ofNat (SS.n s)))⟩, ⟨1, 65, 512, durF (SS.dur s) (SS.torn s)⟩, ⟨33281,
  1, 1, oneF (CV.opv (pB (SS.P s)) 66 (pW (SS.P s)))⟩, ⟨33282, 1, 512, latF (lB (SS.P s)) (lW (SS.P s))⟩, ⟨33794, 5, 1, tailF (Int.ofNat (List.length (SS.P s))) (Int.ofNat (SS.wr s)) (SS.off s) (SS.armed s) (Int.ofNat (SS.left s))⟩])) T.e T.e, 1, []⟩) Orc.z) ∧ ((!decide (SS.faultE s = 0)) = false → Con Tryd.prog 82 [AV.p 0 0, AV.i .i64 i] [some (SS.o s)] (AV.b (decide (0 ≤ i ∧ i < Int.ofNat (SS.n s)))) [Upd.keep] ∧ True ∧ ((!decide (0 ≤ i ∧ i < Int.ofNat (SS.n s))) = true → K (Res.rv (AV.tup [AV.l0, AV.i .i64 2]) ⟨T.n (some (AObj.segs 77 33799 [⟨0, 1, 1, oneF (CV.i .i64 (Int.ofNat (SS.n s)))⟩, ⟨1, 65, 512, durF (SS.dur s) (SS.torn s)⟩, ⟨33281, 1, 1, oneF (CV.opv (pB (SS.P s)) 66 (pW (SS.P s)))⟩, ⟨33282, 1, 512, latF (lB (SS.P s)) (lW (SS.P s))⟩, ⟨33794, 5, 1, tailF (Int.ofNat (List.length (SS.P s))) (Int.ofNat (SS.wr s)) (SS.off s) (SS.armed s) (Int.ofNat (SS.left s))⟩])) T.e T.e, 1, []⟩)
  Orc.z) ∧ ((!decide (0 ≤ i ∧ i < Int.ofNat (SS.n s))) = false → True ∧ True ∧ (0 ≤ i ∧ i < 512) ∧ Int.toNat i < 512 ∧ True ∧ ((!!lB (SS.P s) (Int.toNat i)) = true → lB (SS.P s) (Int.toNat i) = true ∧ True ∧ True ∧ Con Tryd.prog 66 [AV.agg (cvL (fun k => CV.i .u8 (lbs (SS.P s) (Int.toNat i) k)) 0 64)] [] (AV.lr 0 1 0 64 true) [Upd.set (AObj.rows 68 1 64 fun k x => CV.i .u8 (lbs (SS.P s) (Int.toNat i) k))] ∧ K (Res.rv (AV.tup [AV.lr 1 1 0 64 true, AV.i .i64 0]) ⟨T.n (some (AObj.segs 77 33799 [⟨0, 1, 1, oneF (CV.i .i64 (Int.ofNat (SS.n s)))⟩, ⟨1, 65, 512, durF (SS.dur s) (SS.torn s)⟩, ⟨33281, 1, 1, oneF (CV.opv (pB (SS.P s)) 66 (pW (SS.P s)))⟩, ⟨33282, 1, 512, latF (lB (SS.P s)) (lW (SS.P s))⟩, ⟨33794, 5, 1, tailF (Int.ofNat (List.length (SS.P s))) (Int.ofNat (SS.wr s)) (SS.off s) (SS.armed s) (Int.ofNat (SS.left s))⟩])) (T.n (some (AObj.rows 68 1 64 fun k x => CV.i .u8 (lbs (SS.P s)
  (Int.toNat i) k))) T.e T.e) T.e, 2, [1]⟩) Orc.z) ∧ ((!!lB (SS.P s) (Int.toNat i)) = false → True ∧ (0 ≤ i ∧ i < 512) ∧ True ∧ Int.toNat i < 512 ∧ (SS.torn s (Int.toNat i) = true → K (Res.rv (AV.tup [AV.l0, AV.i .i64 14]) ⟨T.n (some (AObj.segs 77 33799 [⟨0, 1, 1, oneF (CV.i .i64 (Int.ofNat (SS.n s)))⟩, ⟨1, 65, 512, durF (SS.dur s) (SS.torn s)⟩, ⟨33281, 1, 1, oneF (CV.opv (pB (SS.P s)) 66 (pW (SS.P s)))⟩, ⟨33282, 1, 512, latF (lB (SS.P s)) (lW (SS.P s))⟩, ⟨33794, 5, 1, tailF (Int.ofNat (List.length (SS.P s))) (Int.ofNat (SS.wr s)) (SS.off s) (SS.armed s) (Int.ofNat (SS.left s))⟩])) T.e T.e, 1, []⟩) Orc.z) ∧ (SS.torn s (Int.toNat i) = false → True ∧ (0 ≤ i ∧ i < 512) ∧ True ∧ Int.toNat i < 512 ∧ Con Tryd.prog 66 [AV.agg (cvL (fun k => CV.i .u8 (SS.dur s (Int.toNat i) k)) 0 64)] [] (AV.lr 0 1 0 64 true) [Upd.set (AObj.rows 68 1 64 fun k x => CV.i .u8 (SS.dur s (Int.toNat i) k))] ∧ K (Res.rv
  (AV.tup [AV.lr 1 1 0 64 true, AV.i .i64 0]) ⟨T.n (some (AObj.segs 77 33799 [⟨0, 1, 1, oneF (CV.i .i64 (Int.ofNat (SS.n s)))⟩, ⟨1, 65, 512, durF (SS.dur s) (SS.torn s)⟩, ⟨33281, 1, 1, oneF (CV.opv (pB (SS.P s)) 66 (pW (SS.P s)))⟩, ⟨33282, 1, 512, latF (lB (SS.P s)) (lW (SS.P s))⟩, ⟨33794, 5, 1, tailF (Int.ofNat (List.length (SS.P s))) (Int.ofNat (SS.wr s)) (SS.off s) (SS.armed s) (Int.ofNat (SS.left s))⟩])) (T.n (some (AObj.rows 68 1 64 fun k x => CV.i .u8 (SS.dur s (Int.toNat i) k))) T.e T.e) T.e, 2, [1]⟩) Orc.z))))) := by kernel_rfl
noncomputable def SS.rdE (s : SS) (i : Int) : Int := match s.off with
  | true => 13
  | false => match decide (0 ≤ i ∧ i < Int.ofNat s.n) with
    | false => 2
    | true => match lB s.P i.toNat with
      | true => 0
      | false => match s.torn i.toNat with
        | true => 14
        | false => 0
noncomputable def SS.rdB (s : SS) (i : Int) : Nat → Int := match lB s.P i.toNat with
  | true => lbs s.P i.toNat
  | false => s.dur i.toNat
noncomputable def SS.rdN (s : SS) (i : Int) : Nat := match Int.decEq (s.rdE i) 0 with
  | isTrue _ => 64
  | isFalse _ => 0
theorem SS.rdN_0 {s : SS} {i : Int} (h : s.rdE i ≠ 0) : s.rdN i = 0 := by
  unfold SS.rdN
  split
  · rename_i h' _; exact absurd h' h
  · rfl
theorem SS.rdN_64 {s : SS} {i : Int} (h : s.rdE i = 0) : s.rdN i = 64 := by
  unfold SS.rdN
  split
  · rfl
  · rename_i h' _; exact absurd h h'
theorem read_con (s : SS) (i : Int) (hn : s.n ≤ 512) : Con Tryd.prog 68 [.p 0 0, .i .i64 i] [some s.o] (.tup [.lr 1 1 0 (s.rdN i) true, .i .i64 (s.rdE i)]) [.keep, .set (.rows 68 1 (s.rdN i) fun k _ => .i .u8 (s.rdB i k))] := by
  have bad : ∀ e : Int, e ≠ 0 → s.rdE i = e → Con Tryd.prog 68 [.p 0 0, .i .i64 i] [some s.o] (.tup [.l0, .i .i64 e]) [.keep] →
      Con Tryd.prog 68 [.p 0 0, .i .i64 i] [some s.o] (.tup [.lr 1 1 0 (s.rdN i) true, .i .i64 (s.rdE i)]) [.keep, .set (.rows 68 1 (s.rdN i) fun k _ => .i .u8 (s.rdB i k))] := by
    intro e he hE h
    rw [SS.rdN_0 (by rw [hE]; exact he), hE]
    exact (h.padV (Nat.le_refl 1) (.rows 68 1 0 fun k _ => .i .u8 (s.rdB i k)) rfl).post (.tup ⟨VW.l0_lr, .refl _, trivial⟩) (OVL.refl _)
  cases ho : s.off with
  | true =>
    refine bad 13 (by decide) (by unfold SS.rdE; rw [ho]) (con_of_run [] [] ((read2_vc s i _).mpr ⟨fault2_con _, fun h => ?_, fun h => ?_⟩))
    · have e0 : s.faultE = 13 := by unfold SS.faultE; rw [ho]; rfl
      rw [e0]
      exact ⟨_, _, rfl, ret_k (by kernel_rfl)⟩
    · simp [SS.faultE, ho] at h
  | false =>
    have e0 : s.faultE = 0 := by unfold SS.faultE; rw [ho]; rfl
    cases hi : decide (0 ≤ i ∧ i < Int.ofNat s.n) with
    | false =>
      refine bad 2 (by decide) (by unfold SS.rdE; rw [ho]; simp only [hi]) (con_of_run [] [] ((read2_vc s i _).mpr ⟨fault2_con _, fun h => by rw [e0] at h; simp at h, fun _ => ⟨has2_con _ _, trivial, fun _ => ?_, fun h => by rw [hi] at h; simp at h⟩⟩))
      exact ⟨_, _, rfl, ret_k (by kernel_rfl)⟩
    | true =>
      have hi' : 0 ≤ i ∧ i < Int.ofNat s.n := of_decide_eq_true hi
      have h5 : 0 ≤ i ∧ i < 512 := ⟨hi'.1, by have := hi'.2; simp at this; omega⟩
      have h6 : i.toNat < 512 := by omega
      cases hb : lB s.P i.toNat with
      | true =>
        have hE : s.rdE i = 0 := by unfold SS.rdE; rw [ho]; simp only [hi, hb]
        have hB : s.rdB i = lbs s.P i.toNat := by unfold SS.rdB; rw [hb]
        rw [SS.rdN_64 hE, hE, hB]
        refine con_of_run [] [1] ((read2_vc s i _).mpr ⟨fault2_con _, fun h => by rw [e0] at h; simp at h, fun _ => ⟨has2_con _ _, trivial, fun h => by rw [hi] at h; simp at h, fun _ => ⟨trivial, trivial, h5, h6, trivial, fun _ => ⟨hb, trivial, trivial, list_con _, ?_⟩, fun h => by rw [hb] at h; simp at h⟩⟩⟩)
        exact ⟨_, _, rfl, ret_k (by kernel_rfl)⟩
      | false =>
        cases ht : s.torn i.toNat with
        | true =>
          refine bad 14 (by decide) (by unfold SS.rdE; rw [ho]; simp only [hi, hb, ht]) (con_of_run [] [] ((read2_vc s i _).mpr ⟨fault2_con _, fun h => by rw [e0] at h; simp at h, fun _ => ⟨has2_con _ _, trivial, fun h => by rw [hi] at h; simp at h, fun _ => ⟨trivial, trivial, h5, h6, trivial, fun h => by rw [hb] at h; simp at h, fun _ => ⟨trivial, h5, trivial, h6, fun _ => ?_, fun h => by rw [ht] at h; simp at h⟩⟩⟩⟩))
          exact ⟨_, _, rfl, ret_k (by kernel_rfl)⟩
        | false =>
          have hE : s.rdE i = 0 := by unfold SS.rdE; rw [ho]; simp only [hi, hb, ht]
          have hB : s.rdB i = s.dur i.toNat := by unfold SS.rdB; rw [hb]
          rw [SS.rdN_64 hE, hE, hB]
          refine con_of_run [] [1] ((read2_vc s i _).mpr ⟨fault2_con _, fun h => by rw [e0] at h; simp at h, fun _ => ⟨has2_con _ _, trivial, fun h => by rw [hi] at h; simp at h, fun _ => ⟨trivial, trivial, h5, h6, trivial, fun h => by rw [hb] at h; simp at h, fun _ => ⟨trivial, h5, trivial, h6, fun h => by rw [ht] at h; simp at h, fun _ => ⟨trivial, h5, trivial, h6, list_con _, ?_⟩⟩⟩⟩⟩)
          exact ⟨_, _, rfl, ret_k (by kernel_rfl)⟩
theorem ordL_vc (L : Nat) (i : Int) (q : Nat) (bs : Nat → Int) (Q : PW) (ff : Nat → Nat → CV) (K : Res → Orc → Prop) : runK Tryd.prog 1000000 (.code (loopAt Tryd.prog 63 0) 33 (mkT [(3, .lr 0 1 0 L false), (4, .opv true 66 (pW ((q, bs) :: Q))), (5, .i .i64 i)]) (mkH [some (.rows 72 1 L ff)])) (Orc.s Orc.z Orc.z) K = ((decide (0 ≤ i) = true → (0 ≤ i ∧ i < ↑L) ∧ Int.toNat i < L ∧ true = true ∧ True ∧ True ∧ ((-9223372036854775808) ≤ i - 1 ∧ i - (1 : Int) ≤ (9223372036854775807 : Int)) ∧ K (Res.st XO.nrm (T.n none (T.n none (T.n (some (AV.lr 0 1 0 L false)) (T.n none (T.n none (T.n (some (AV.opv (pB Q) 66 (List.rec (motive := fun x => Nat → CV) (fun x => CV.p0) (fun w P ih => wN (Int.ofNat (Prod.fst w)) (Prod.snd w) (pB P) ih) Q))) T.e T.e) T.e) (T.n (some (AV.i .i64 (i - 1))) T.e T.e)) (T.n none T.e (T.n (some (AV.pr 0 1 (Int.toNat i) 0)) T.e T.e))) (T.n (some (AV.i .i64 (i - 1))) (T.n
  none T.e (T.n (some (AV.i .i64 i)) T.e T.e)) (T.n none (T.n (some (AV.b (decide (0 ≤ i)))) T.e T.e) (T.n (some (AV.pv 66 (pW ((q, bs) :: Q)))) T.e T.e)))) (T.n none (T.n (some (AV.opv (pB Q) 66 (List.rec (motive := fun x => Nat → CV) (fun x => CV.p0) (fun w P ih => wN (Int.ofNat (Prod.fst w)) (Prod.snd w) (pB P) ih) Q))) (T.n none T.e (T.n (some (AV.lr 0 1 0 L false)) T.e T.e)) (T.n none (T.n (some (AV.i .i64 i)) T.e T.e) (T.n (some (AV.opv true 66 (pW ((q, bs) :: Q)))) T.e T.e))) (T.n none (T.n none T.e (T.n (some (AV.opv true 66 (pW ((q, bs) :: Q)))) T.e T.e)) (T.n none (T.n (some (AV.i .i64 i)) T.e T.e) (T.n (some (AV.pv 1 fun j => pW ((q, bs) :: Q) (65 + j))) T.e T.e))))) ⟨T.n (some (AObj.rows 72 1 L (setRow ff (Int.toNat i) 0 [CV.opv true 66 (pW ((q, bs) :: Q))]))) T.e T.e, 1, [0]⟩) Orc.z) ∧ (decide (0 ≤ i) = false → K (Res.st (XO.exit 0) (T.n none (T.n none (T.n (some (AV.lr 0 1 0
  L false)) T.e T.e) (T.n (some (AV.i .i64 i)) T.e (T.n none (T.n (some (AV.b (decide (0 ≤ i)))) T.e T.e) T.e))) (T.n none (T.n (some (AV.opv true 66 (pW ((q, bs) :: Q)))) T.e (T.n none (T.n (some (AV.i .i64 i)) T.e T.e) T.e)) T.e)) ⟨T.n (some (AObj.rows 72 1 L ff)) T.e T.e, 1, []⟩) Orc.z)) := by kernel_rfl
theorem ordX_vc (L : Nat) (ff : Nat → Nat → CV) (K : Res → Orc → Prop) : runK Tryd.prog 1000000 (.code (loopAt Tryd.prog 63 0) 33 (mkT [(3, .lr 0 1 0 L false), (4, .opv false 66 (pW [])), (5, .i .i64 (-1))]) (mkH [some (.rows 72 1 L ff)])) (Orc.c Orc.z) K = (K (Res.st (XO.exit 0) (T.n none (T.n none (T.n (some (AV.lr 0 1 0 L false)) T.e T.e) (T.n (some (AV.i .i64 (-1))) T.e (T.n none (T.n (some (AV.b false)) T.e T.e) T.e))) (T.n none (T.n (some (AV.opv false 66 (pW []))) T.e (T.n none (T.n (some (AV.i .i64 (-1))) T.e T.e) T.e)) T.e)) ⟨T.n (some (AObj.rows 72 1 L ff)) T.e T.e, 1, []⟩) Orc.z) := by kernel_rfl
noncomputable def ordF (P : PW) : Nat → Nat → CV := fun k _ => .opv true 66 (pW (P.drop (P.length - 1 - k)))
theorem ord_lp (P : PW) (hP : P.length < 4611686018427387904) (f0 : Nat → Nat → CV) : LDoes Tryd.prog (loopAt Tryd.prog 63 0) 33 1 (mkT [(3, .lr 0 1 0 P.length false), (4, .opv (pB P) 66 (pW P)), (5, .i .i64 (Int.ofNat P.length - 1))]) [some (.rows 72 1 P.length f0)]
    (.exit 0) (mkT [(3, .lr 0 1 0 P.length false)]) [some (.rows 72 1 P.length (ordF P))] := by
  refine loop_indV (D := Nat × (Nat → Nat → CV)) (l' := [(3, .lr 0 1 0 P.length false)]) (fun d => ([(3, .lr 0 1 0 P.length false), (4, .opv (pB (P.drop d.1)) 66 (pW (P.drop d.1))), (5, .i .i64 (Int.ofNat (P.drop d.1).length - 1))], [some (.rows 72 1 P.length d.2)])) (fun d => P.length - d.1)
    (fun d => d.1 ≤ P.length ∧ ∀ k, P.length - d.1 ≤ k → k < P.length → CW (d.2 k 0) (ordF P k 0)) ?_ (0, f0) ⟨Nat.zero_le _, fun k h1 h2 => by omega⟩
  rintro ⟨m, f⟩ ⟨hm, hf⟩
  simp only at hm hf
  refine ⟨Nat.le_refl 1, ?_⟩
  simp only
  cases hd : P.drop m with
  | nil =>
    have hl : P.length ≤ m := by simpa using hd
    refine ⟨_, _, (ordX_vc P.length f _).mpr (.inr ⟨[0], [], _, _, _, [some (.rows 72 1 P.length f)], rfl, by simp, st_is (l := [(3, .lr 0 1 0 P.length false)]) [0] (by kernel_rfl) rfl rfl rfl ⟨by kernel_rfl, by kernel_rfl, trivial⟩ rfl, .refl _, ?_⟩)⟩
    refine ⟨.rowsW fun k j hk hj => ?_, trivial⟩
    obtain rfl : j = 0 := by omega
    exact hf k (by omega) hk
  | cons w Q =>
    obtain ⟨q, bs⟩ := w
    have hml : m < P.length := by
      apply Classical.byContradiction
      intro hn
      rw [List.drop_eq_nil_of_le (by omega)] at hd; simp at hd
    have hQl : Q.length = P.length - m - 1 := by
      have := congrArg List.length hd
      simp at this; omega
    have hQ : P.drop (m + 1) = Q := by
      rw [← List.drop_drop, hd]; rfl
    have hi : (Int.ofNat ((q, bs) :: Q).length : Int) - 1 = Int.ofNat Q.length := by simp
    rw [hi]
    refine ⟨_, _, (ordL_vc P.length (Int.ofNat Q.length) q bs Q f _).mpr ⟨fun hpos => ?_, fun hneg => by simp at hneg⟩⟩
    refine ⟨by simp; omega, by simp; omega, rfl, trivial, trivial, by simp; omega, .inl ⟨(m + 1, fun k j => setRow f Q.length 0 [.opv true 66 (pW ((q, bs) :: Q))] k j), [0], [], _, _, [(3, .lr 0 1 0 P.length false), (4, .opv (pB Q) 66 (pW Q)), (5, .i .i64 (Int.ofNat Q.length - 1))], [some (.rows 72 1 P.length (setRow f Q.length 0 [.opv true 66 (pW ((q, bs) :: Q))]))], ⟨hml, ?_⟩, by simp only; omega, rfl,
      st_k [0] (by kernel_rfl), ?_, OVL.refl _⟩⟩
    · intro k h1 h2
      simp only at h1 ⊢
      show CW (zipCV (Nat.beq k Q.length) (.opv true 66 (pW ((q, bs) :: Q))) (f k 0)) _
      refine (zipCV_CW _ _ _).trans ?_
      cases hb : Nat.beq k Q.length with
      | true =>
        have e := Nat.eq_of_beq_eq_true hb
        subst e
        refine .of ?_
        show CV.opv true 66 (pW ((q, bs) :: Q)) = .opv true 66 (pW (P.drop (P.length - 1 - Q.length)))
        rw [show P.length - 1 - Q.length = m by omega, hd]
      | false =>
        have e : k ≠ Q.length := by rintro rfl; simp at hb
        exact hf k (by omega) h2
    · simp only [hQ]
      exact .refl _
theorem inOrder_vc (s : SS) (hl : s.P.length < 4611686018427387904) (K : Res → Orc → Prop) : runK Tryd.prog 1000000 (.call 63 [.p 0 33281] (mkH [some s.o])) (Orc.s (Orc.lop [1] [3, 4, 5] 1 (XO.exit 0) [(3, AV.lr 0 1 0 (List.length (SS.P s)) false)] [some (AObj.rows 72 1 (List.length (SS.P s)) (ordF (SS.P s)))] Orc.z) Orc.z) K = (True ∧ True ∧ (0 ≤ Int.ofNat (List.length (SS.P s)) ∧ Int.ofNat (List.length (SS.P s)) ≤ Int.ofNat (List.length (SS.P s)) ∧ Int.ofNat (List.length (SS.P s)) ≤ 1073741824) ∧ True ∧ True ∧ True ∧ True ∧ ((-9223372036854775808) ≤ Int.ofNat (List.length (SS.P s)) - 1 ∧ Int.ofNat (List.length (SS.P s)) - (1 : Int) ≤ (9223372036854775807 : Int)) ∧ LDoes Tryd.prog (loopAt Tryd.prog 63 0) 33 1 (mkT [(3, AV.lr 0 1 0 (List.length (SS.P s)) false), (4, AV.opv (pB (SS.P s)) 66 (pW (SS.P s))), (5, AV.i .i64 (Int.ofNat (List.length (SS.P s)) - 1))]) [some (AObj.rows 72 1
  (List.length (SS.P s)) fun x j => List.getD [CV.p0] j CV.p0)] (XO.exit 0) (mkT [(3, AV.lr 0 1 0 (List.length (SS.P s)) false)]) [some (AObj.rows 72 1 (List.length (SS.P s)) (ordF (SS.P s)))] ∧ K (Res.rv (AV.lr 1 1 0 (List.length (SS.P s)) false) ⟨T.n (some (AObj.segs 77 33799 [⟨0, 1, 1, oneF (CV.i .i64 (Int.ofNat (SS.n s)))⟩, ⟨1, 65, 512, durF (SS.dur s) (SS.torn s)⟩, ⟨33281, 1, 1, oneF (CV.opv (pB (SS.P s)) 66 (pW (SS.P s)))⟩, ⟨33282, 1, 512, latF (lB (SS.P s)) (lW (SS.P s))⟩, ⟨33794, 5, 1, tailF (Int.ofNat (List.length (SS.P s))) (Int.ofNat (SS.wr s)) (SS.off s) (SS.armed s) (Int.ofNat (SS.left s))⟩])) (T.n (some (AObj.rows 72 1 (List.length (SS.P s)) (ordF (SS.P s)))) T.e T.e) T.e, 2, [1, 1]⟩) Orc.z) := by kernel_rfl
noncomputable def wsF (aa : Nat → Nat) (bb : Nat → Nat → Int) (pp : Nat → Bool) (ww : Nat → Nat → CV) : Nat → Nat → CV := fun k _ => .opv true 66 (wN (Int.ofNat (aa k)) (bb k) (pp k) (ww k))
theorem inOrder_con (s : SS) (hl : s.P.length ≤ 1073741824) : Con Tryd.prog 63 [.p 0 33281] [some s.o] (.sv 1 s.P.length (ordF s.P)) [.keep] := by
  refine con_of_run [1] [] ((inOrder_vc s (by omega) _).mpr ⟨trivial, trivial, ⟨by simp, Int.le_refl _, by simp; omega⟩, trivial, trivial, trivial, trivial, ⟨by simp; omega, by simp; omega⟩, ord_lp s.P (by omega) _, _, _, rfl, ret_fz [1] ((1 = 1 ∧ 0 + s.P.length ≤ s.P.length) ∧ True) (by kernel_rfl) (by kernel_rfl) ⟨⟨rfl, by omega⟩, trivial⟩ (by kernel_rfl) rfl (by kernel_rfl) (by kernel_rfl) rfl ⟨by kernel_rfl, by kernel_rfl, trivial⟩⟩)
theorem setL_vc (s : SS) (L k : Nat) (aa : Nat → Nat) (bb : Nat → Nat → Int) (pp : Nat → Bool) (ww : Nat → Nat → CV) (K : Res → Orc → Prop) : runK Tryd.prog 1000000 (.code (loopAt Tryd.prog 64 0) 30 (mkT [(0, .p 0 0), (6, .sv 1 L (wsF aa bb pp ww)), (7, .i .i64 (Int.ofNat L)), (8, .i .i64 (Int.ofNat k))]) (mkH [some s.o])) (Orc.s (Orc.s Orc.z Orc.z) Orc.z) K = ((decide (Int.ofNat k < Int.ofNat L) = true → (0 ≤ Int.ofNat k ∧ Int.ofNat k < ↑L) ∧ True ∧ true = true ∧ True ∧ True ∧ true = true ∧ True ∧ True ∧ True ∧ (0 ≤ Int.ofNat (aa k) ∧ Int.ofNat (aa k) < 512) ∧ aa k < 512 ∧ ((-9223372036854775808) ≤ Int.ofNat k + 1 ∧ Int.ofNat k + (1 : Int) ≤ (9223372036854775807 : Int)) ∧ K (Res.st XO.nrm (T.n (some (AV.p 0 0)) (T.n none (T.n none (T.n (some (AV.i .i64 (Int.ofNat L))) (T.n (some (AV.pv 66 fun j => wN (Int.ofNat (aa k)) (bb (Int.toNat (Int.ofNat k))) (pp k) (ww (Int.toNat (Int.ofNat k)))
 (0 + j))) T.e T.e) (T.n (some (AV.p 0 1)) T.e T.e)) (T.n (some (AV.opv true 66 (wN (Int.ofNat (aa (Int.toNat (Int.ofNat k)))) (bb (Int.toNat (Int.ofNat k))) (pp (Int.toNat (Int.ofNat k))) (ww (Int.toNat (Int.ofNat k)))))) (T.n (some (AV.pv 65 fun j => wN (Int.ofNat (aa k)) (bb (Int.toNat (Int.ofNat k))) (pp k) (ww (Int.toNat (Int.ofNat k))) (1 + j))) T.e T.e) T.e)) (T.n (some (AV.opv true 66 (wN (Int.ofNat (aa (Int.toNat (Int.ofNat k)))) (bb (Int.toNat (Int.ofNat k))) (pp (Int.toNat (Int.ofNat k))) (ww (Int.toNat (Int.ofNat k)))))) (T.n (some (AV.b (decide (Int.ofNat k < Int.ofNat L)))) (T.n (some (AV.opv true 66 (wN (Int.ofNat (aa (Int.toNat (Int.ofNat k)))) (bb (Int.toNat (Int.ofNat k))) (pp (Int.toNat (Int.ofNat k))) (ww (Int.toNat (Int.ofNat k)))))) T.e T.e) (T.n (some (AV.i .i64 (Int.ofNat k + 1))) T.e T.e)) (T.n (some (AV.opv true 66 (wN (Int.ofNat (aa (Int.toNat (Int.ofNat k))))
 (bb (Int.toNat (Int.ofNat k))) (pp (Int.toNat (Int.ofNat k))) (ww (Int.toNat (Int.ofNat k)))))) (T.n (some (AV.agg [AV.i .u8 (bb k 0), AV.i .u8 (bb k 1), AV.i .u8 (bb k 2), AV.i .u8 (bb k 3), AV.i .u8 (bb k 4), AV.i .u8 (bb k 5), AV.i .u8 (bb k 6), AV.i .u8 (bb k 7), AV.i .u8 (bb k 8), AV.i .u8 (bb k 9), AV.i .u8 (bb k 10), AV.i .u8 (bb k 11), AV.i .u8 (bb k 12), AV.i .u8 (bb k 13), AV.i .u8 (bb k 14), AV.i .u8 (bb k 15), AV.i .u8 (bb k 16), AV.i .u8 (bb k 17), AV.i .u8 (bb k 18), AV.i .u8 (bb k 19), AV.i .u8 (bb k 20), AV.i .u8 (bb k 21), AV.i .u8 (bb k 22), AV.i .u8 (bb k 23), AV.i .u8 (bb k 24), AV.i .u8 (bb k 25), AV.i .u8 (bb k 26), AV.i .u8 (bb k 27), AV.i .u8 (bb k 28), AV.i .u8 (bb k 29), AV.i .u8 (bb k 30), AV.i .u8 (bb k 31), AV.i .u8 (bb k 32), AV.i .u8 (bb k 33), AV.i .u8 (bb k 34), AV.i .u8 (bb k 35), AV.i .u8 (bb k 36), AV.i .u8 (bb k 37), AV.i .u8 (bb k 38), AV.i .u8 (bb
 k 39), AV.i .u8 (bb k 40), AV.i .u8 (bb k 41), AV.i .u8 (bb k 42), AV.i .u8 (bb k 43), AV.i .u8 (bb k 44), AV.i .u8 (bb k 45), AV.i .u8 (bb k 46), AV.i .u8 (bb k 47), AV.i .u8 (bb k 48), AV.i .u8 (bb k 49), AV.i .u8 (bb k 50), AV.i .u8 (bb k 51), AV.i .u8 (bb k 52), AV.i .u8 (bb k 53), AV.i .u8 (bb k 54), AV.i .u8 (bb k 55), AV.i .u8 (bb k 56), AV.i .u8 (bb k 57), AV.i .u8 (bb k 58), AV.i .u8 (bb k 59), AV.i .u8 (bb k 60), AV.i .u8 (bb k 61), AV.i .u8 (bb k 62), AV.i .u8 (bb k 63), AV.b false])) T.e T.e) T.e))) (T.n none (T.n none (T.n (some (AV.i .i64 (Int.ofNat k + 1))) (T.n (some (AV.i .i64 (Int.ofNat (aa k)))) T.e T.e) (T.n (some (AV.ps 0 1 65 512 (aa k))) T.e T.e)) (T.n (some (AV.p 0 0)) (T.n (some (AV.agg [AV.i .u8 (bb k 0), AV.i .u8 (bb k 1), AV.i .u8 (bb k 2), AV.i .u8 (bb k 3), AV.i .u8 (bb k 4), AV.i .u8 (bb k 5), AV.i .u8 (bb k 6), AV.i .u8 (bb k 7), AV.i .u8 (bb k 8), AV.i
 .u8 (bb k 9), AV.i .u8 (bb k 10), AV.i .u8 (bb k 11), AV.i .u8 (bb k 12), AV.i .u8 (bb k 13), AV.i .u8 (bb k 14), AV.i .u8 (bb k 15), AV.i .u8 (bb k 16), AV.i .u8 (bb k 17), AV.i .u8 (bb k 18), AV.i .u8 (bb k 19), AV.i .u8 (bb k 20), AV.i .u8 (bb k 21), AV.i .u8 (bb k 22), AV.i .u8 (bb k 23), AV.i .u8 (bb k 24), AV.i .u8 (bb k 25), AV.i .u8 (bb k 26), AV.i .u8 (bb k 27), AV.i .u8 (bb k 28), AV.i .u8 (bb k 29), AV.i .u8 (bb k 30), AV.i .u8 (bb k 31), AV.i .u8 (bb k 32), AV.i .u8 (bb k 33), AV.i .u8 (bb k 34), AV.i .u8 (bb k 35), AV.i .u8 (bb k 36), AV.i .u8 (bb k 37), AV.i .u8 (bb k 38), AV.i .u8 (bb k 39), AV.i .u8 (bb k 40), AV.i .u8 (bb k 41), AV.i .u8 (bb k 42), AV.i .u8 (bb k 43), AV.i .u8 (bb k 44), AV.i .u8 (bb k 45), AV.i .u8 (bb k 46), AV.i .u8 (bb k 47), AV.i .u8 (bb k 48), AV.i .u8 (bb k 49), AV.i .u8 (bb k 50), AV.i .u8 (bb k 51), AV.i .u8 (bb k 52), AV.i .u8 (bb k 53), AV.i
 .u8 (bb k 54), AV.i .u8 (bb k 55), AV.i .u8 (bb k 56), AV.i .u8 (bb k 57), AV.i .u8 (bb k 58), AV.i .u8 (bb k 59), AV.i .u8 (bb k 60), AV.i .u8 (bb k 61), AV.i .u8 (bb k 62), AV.i .u8 (bb k 63)])) T.e T.e) T.e)) (T.n (some (AV.sv 1 L (wsF aa bb pp ww))) (T.n (some (AV.pv 1 (wsF aa bb pp ww k))) (T.n (some (AV.pv 66 (wN (Int.ofNat (aa (Int.toNat (Int.ofNat k)))) (bb (Int.toNat (Int.ofNat k))) (pp (Int.toNat (Int.ofNat k))) (ww (Int.toNat (Int.ofNat k)))))) T.e T.e) T.e) (T.n (some (AV.pv 66 (wN (Int.ofNat (aa (Int.toNat (Int.ofNat k)))) (bb (Int.toNat (Int.ofNat k))) (pp (Int.toNat (Int.ofNat k))) (ww (Int.toNat (Int.ofNat k)))))) (T.n (some (AV.p 0 0)) T.e T.e) T.e)))) ⟨T.n (some (AObj.segs 77 33799 [⟨0, 1, 1, oneF (CV.i .i64 (Int.ofNat (SS.n s)))⟩, ⟨1, 65, 512, setRow (fun i j => match Nat.blt j 64 with | true => CV.i .u8 (SS.dur s i j) | false => CV.b (SS.torn s i)) (aa k) 0 [CV.i .u8 (bb k 0), CV.i .u8 (bb k 1), CV.i .u8 (bb k 2), CV.i .u8 (bb k 3), CV.i .u8 (bb k 4), CV.i .u8 (bb k 5), CV.i .u8 (bb k 6), CV.i .u8 (bb k 7), CV.i .u8 (bb k 8), CV.i .u8 (bb k 9), CV.i .u8 (bb k 10), CV.i .u8 (bb k 11), CV.i .u8 (bb k 12), CV.i .u8 (bb k 13), CV.i .u8 (bb k 14), CV.i .u8 (bb k 15), CV.i .u8 (bb k 16), CV.i .u8 (bb k 17), CV.i .u8 (bb k 18), CV.i .u8 (bb k 19), CV.i .u8 (bb k 20), CV.i .u8 (bb k 21), CV.i .u8 (bb k 22), CV.i .u8 (bb k 23), CV.i .u8 (bb k 24), CV.i .u8 (bb k 25), CV.i .u8 (bb k 26), CV.i .u8 (bb k 27), CV.i .u8 (bb k 28), CV.i .u8 (bb k 29), CV.i .u8 (bb k 30), CV.i .u8 (bb k 31), CV.i .u8 (bb k 32), CV.i .u8 (bb k 33), CV.i .u8 (bb k 34), CV.i .u8 (bb k 35), CV.i .u8 (bb k 36), CV.i .u8 (bb k 37), CV.i .u8 (bb k 38), CV.i .u8 (bb k 39), CV.i .u8 (bb k 40), CV.i .u8 (bb k 41), CV.i .u8 (bb k 42), CV.i .u8 (bb k 43), CV.i .u8 (bb k 44), CV.i .u8 (bb k 45), CV.i .u8 (bb k 46), CV.i .u8 (bb k 47), CV.i .u8 (bb k 48), CV.i .u8 (bb k 49), CV.i .u8 (bb k 50), CV.i .u8 (bb k 51), CV.i .u8 (bb k 52), CV.i .u8 (bb k 53), CV.i .u8 (bb k 54), CV.i .u8 (bb k 55), CV.i .u8 (bb k 56), CV.i .u8 (bb k 57), CV.i .u8 (bb k 58), CV.i .u8 (bb k 59), CV.i .u8 (bb k 60), CV.i .u8 (bb k 61), CV.i .u8 (bb k 62), CV.i .u8 (bb k 63), CV.b false]⟩, ⟨33281, 1, 1, oneF (CV.opv (pB (SS.P s)) 66 (pW (SS.P s)))⟩, ⟨33282, 1, 512, latF (lB (SS.P s)) (lW (SS.P s))⟩, ⟨33794, 5, 1, tailF (Int.ofNat (List.length (SS.P s))) (Int.ofNat (SS.wr s)) (SS.off s) (SS.armed s) (Int.ofNat (SS.left s))⟩])) T.e T.e, 1, [0]⟩)
 Orc.z) ∧ (decide (Int.ofNat k < Int.ofNat L) = false → K (Res.st (XO.exit 0) (T.n (some (AV.p 0 0)) (T.n none (T.n none (T.n (some (AV.i .i64 (Int.ofNat L))) T.e T.e) T.e) (T.n none (T.n (some (AV.b (decide (Int.ofNat k < Int.ofNat L)))) T.e T.e) T.e)) (T.n none (T.n none (T.n (some (AV.i .i64 (Int.ofNat k))) T.e T.e) T.e) (T.n (some (AV.sv 1 L (wsF aa bb pp ww))) T.e T.e))) ⟨T.n (some (AObj.segs 77 33799 [⟨0, 1, 1, oneF (CV.i .i64 (Int.ofNat (SS.n s)))⟩, ⟨1, 65, 512, durF (SS.dur s) (SS.torn s)⟩, ⟨33281, 1, 1, oneF (CV.opv (pB (SS.P s)) 66 (pW (SS.P s)))⟩, ⟨33282, 1, 512, latF (lB (SS.P s)) (lW (SS.P s))⟩, ⟨33794, 5, 1, tailF (Int.ofNat (List.length (SS.P s))) (Int.ofNat (SS.wr s)) (SS.off s) (SS.armed s) (Int.ofNat (SS.left s))⟩])) T.e T.e, 1, []⟩) Orc.z)) := by kernel_rfl
noncomputable def cellsP (bs : Nat → Int) (tb : Bool) : List CV := Nat.rec (motive := fun _ => Nat → List CV) (fun _ => [.b tb]) (fun _ ih o => .i .u8 (bs o) :: ih (o + 1)) 64 0
theorem cellsP_at (bs : Nat → Int) (tb : Bool) (j : Nat) (hj : j < 65) : (cellsP bs tb)[j]? = some (match Nat.blt j 64 with | true => .i .u8 (bs j) | false => .b tb) := by
  have key : ∀ (m o k : Nat), k ≤ m → (Nat.rec (motive := fun _ => Nat → List CV) (fun _ => [CV.b tb]) (fun _ ih o => CV.i .u8 (bs o) :: ih (o + 1)) m o)[k]? = some (match Nat.blt k m with | true => CV.i .u8 (bs (o + k)) | false => CV.b tb) := by
    intro m
    induction m with
    | zero => intro o k hk; obtain rfl : k = 0 := by omega
              rfl
    | succ m ih =>
      intro o k hk
      cases k with
      | zero => rfl
      | succ k =>
        have h1 := ih (o + 1) k (by omega)
        have e : Nat.blt (k + 1) (m + 1) = Nat.blt k m := by
          rw [Bool.eq_iff_iff, Nat.blt_eq, Nat.blt_eq]; omega
        rw [e]
        show (Nat.rec (motive := fun _ => Nat → List CV) (fun _ => [CV.b tb]) (fun _ ih o => CV.i .u8 (bs o) :: ih (o + 1)) m (o + 1))[k]? = _
        rw [h1, show o + 1 + k = o + (k + 1) by omega]
  have h1 := key 64 0 j (by omega)
  rw [Nat.zero_add] at h1
  exact h1
noncomputable def setD (dur : Nat → Nat → Int) (q : Nat) (bs : Nat → Int) : Nat → Nat → Int := fun i => bif Nat.beq i q then bs else dur i
noncomputable def setT (torn : Nat → Bool) (q : Nat) (tb : Bool) : Nat → Bool := fun i => bif Nat.beq i q then tb else torn i
theorem setP (dur : Nat → Nat → Int) (torn : Nat → Bool) (q : Nat) (bs : Nat → Int) (tb : Bool) (i j : Nat) (hj : j < 65) : CW (setRow (durF dur torn) q 0 (cellsP bs tb) i j) (durF (setD dur q bs) (setT torn q tb) i j) := by
  have e : setRow (durF dur torn) q 0 (cellsP bs tb) i j = zipCV (Nat.beq i q) (match Nat.blt j 64 with | true => .i .u8 (bs j) | false => .b tb) (durF dur torn i j) := by
    unfold setRow
    rw [show Nat.ble 0 j = true by simp]
    simp only [Nat.sub_zero]
    rw [cellsP_at bs tb j hj]
  rw [e]
  refine (zipCV_CW _ _ _).trans (.of ?_)
  unfold durF setD setT
  cases Nat.beq i q <;> cases Nat.blt j 64 <;> rfl
noncomputable def SS.lay (s : SS) (q : Nat) (bs : Nat → Int) (tb : Bool) : SS := { s with dur := setD s.dur q bs, torn := setT s.torn q tb }
noncomputable def SS.laid (s : SS) (aa : Nat → Nat) (bb : Nat → Nat → Int) : Nat → SS
  | 0 => s
  | k + 1 => (s.laid aa bb k).lay (aa k) (bb k) false
noncomputable def layO (s : SS) (q : Nat) (bs : Nat → Int) (tb : Bool) : AObj :=
  .segs 77 33799 [⟨0, 1, 1, oneF (.i .i64 (Int.ofNat s.n))⟩, ⟨1, 65, 512, setRow (durF s.dur s.torn) q 0 (cellsP bs tb)⟩, ⟨33281, 1, 1, oneF (.opv (pB s.P) 66 (pW s.P))⟩, ⟨33282, 1, 512, latF (lB s.P) (lW s.P)⟩, ⟨33794, 5, 1, tailF (Int.ofNat s.P.length) (Int.ofNat s.wr) s.off s.armed (Int.ofNat s.left)⟩]
theorem lay_ov (s : SS) (q : Nat) (bs : Nat → Int) (tb : Bool) : OV (some (layO s q bs tb)) (some (s.lay q bs tb).o) :=
  .segsW ⟨.refl _, ⟨rfl, rfl, rfl, fun i j _ hj => setP _ _ _ _ _ i j hj⟩, .refl _, .refl _, .refl _, trivial⟩
theorem settle_lp (s : SS) (L : Nat) (aa : Nat → Nat) (bb : Nat → Nat → Int) (pp : Nat → Bool) (ww : Nat → Nat → CV) (hL : L < 4611686018427387904) (ha : ∀ k, k < L → aa k < 512) :
    LDoes Tryd.prog (loopAt Tryd.prog 64 0) 30 1 (mkT [(0, .p 0 0), (6, .sv 1 L (wsF aa bb pp ww)), (7, .i .i64 (Int.ofNat L)), (8, .i .i64 0)]) [some s.o] (.exit 0) (mkT [(0, .p 0 0)]) [some (s.laid aa bb L).o] := by
  refine loop_indV (D := Nat) (l' := [(0, .p 0 0)]) (fun k => ([(0, .p 0 0), (6, .sv 1 L (wsF aa bb pp ww)), (7, .i .i64 (Int.ofNat L)), (8, .i .i64 (Int.ofNat k))], [some (s.laid aa bb k).o])) (fun k => L - k) (fun k => k ≤ L) ?_ 0 (Nat.zero_le _)
  intro k hk
  refine ⟨Nat.le_refl 1, _, _, (setL_vc (s.laid aa bb k) L k aa bb pp ww _).mpr ⟨fun hlt => ?_, fun hge => ?_⟩⟩
  · have hlt : k < L := by simpa using hlt
    have h5 := ha k hlt
    refine ⟨⟨by simp, by simp; omega⟩, trivial, rfl, trivial, trivial, rfl, trivial, trivial, trivial, ⟨by simp, by simp; omega⟩, h5, ⟨by simp; omega, by simp; omega⟩, .inl ⟨k + 1, [0], [], _, _, [(0, .p 0 0), (6, .sv 1 L (wsF aa bb pp ww)), (7, .i .i64 (Int.ofNat L)), (8, .i .i64 (Int.ofNat k + 1))], [some (layO (s.laid aa bb k) (aa k) (bb k) false)], by omega, by simp only; omega, rfl,
      st_k [0] (by kernel_rfl), .refl _, lay_ov _ _ _ _, trivial⟩⟩
  · have : k = L := by simp at hge; omega
    subst this
    exact .inr ⟨[0], [], _, _, [(0, .p 0 0)], [some (s.laid aa bb k).o], rfl, by simp, st_k [0] (by kernel_rfl), .refl _, OVL.refl _⟩
noncomputable def zBuf : List CV := Nat.rec (motive := fun _ => List CV) [.i .i64 0] (fun _ ih => .p0 :: ih) 513
theorem settle_vc (s : SS) (L : Nat) (aa : Nat → Nat) (bb : Nat → Nat → Int) (pp : Nat → Bool) (ww : Nat → Nat → CV) (hL : L < 4611686018427387904) (ha : ∀ k, k < L → aa k < 512) (K : Res → Orc → Prop) : runK Tryd.prog 1000000 (.call 64 [.p 0 0, .sv 1 L (wsF aa bb pp ww)] (mkH [some s.o])) (Orc.lop [0] [0, 6, 7, 8] 1 (XO.exit 0) [(0, AV.p 0 0)] [some (SS.o (SS.laid s aa bb L))] Orc.z) K = (LDoes Tryd.prog (loopAt Tryd.prog 64 0) 30 1 (mkT [(0, AV.p 0 0), (6, AV.sv 1 L (wsF aa bb pp ww)), (7, AV.i .i64 (Int.ofNat L)), (8, AV.i .i64 0)]) [some (SS.o s)] (XO.exit 0) (mkT [(0, AV.p 0 0)]) [some (SS.o (SS.laid s aa bb L))] ∧ True ∧ True ∧ K (Res.rv (AV.tup []) ⟨T.n (some (AObj.segs 77 33799 [⟨0, 1, 1, oneF (CV.i .i64 (Int.ofNat (SS.n (SS.laid s aa bb L))))⟩, ⟨1, 65, 512, durF (SS.dur (SS.laid s aa bb L)) (SS.torn (SS.laid s aa bb L))⟩, ⟨33281, 1, 1, fun i j => List.getD zBuf (33281 - 33281 + i * 1 + j) CV.p0⟩, ⟨33282, 1, 512, fun i j => List.getD zBuf (33282 - 33281 + i * 1 + j) CV.p0⟩, ⟨33794, 5, 1, fun i j => match Nat.ble 33281 (33794 + i * 5 + j) && Nat.blt (33794 + i * 5 + j) 33795 with | true => List.getD zBuf (33794 + i * 5 + j - 33281) CV.p0 | false => Seg.f ⟨33794, 5, 1, tailF (Int.ofNat (List.length (SS.P (SS.laid s aa bb L)))) (Int.ofNat (SS.wr (SS.laid s aa bb L))) (SS.off (SS.laid s aa bb L)) (SS.armed (SS.laid s aa bb L)) (Int.ofNat (SS.left (SS.laid s aa bb L)))⟩ i j⟩])) T.e T.e, 1, [0, 0]⟩)
 Orc.z) := by kernel_rfl
theorem zBuf_at (k : Nat) (h : k < 513) : zBuf.getD k .p0 = .p0 := by
  have key : ∀ (m k : Nat), k < m → (Nat.rec (motive := fun _ => List CV) [CV.i .i64 0] (fun _ ih => CV.p0 :: ih) m : List CV).getD k .p0 = .p0 := by
    intro m
    induction m with
    | zero => intro k hk; omega
    | succ m ih =>
      intro k hk
      cases k with
      | zero => rfl
      | succ k => exact ih k (by omega)
  exact key 513 k h
noncomputable def zO (s : SS) : AObj :=
  .segs 77 33799 [⟨0, 1, 1, oneF (.i .i64 (Int.ofNat s.n))⟩, ⟨1, 65, 512, durF s.dur s.torn⟩, ⟨33281, 1, 1, fun i j => zBuf.getD (33281 - 33281 + i * 1 + j) .p0⟩, ⟨33282, 1, 512, fun i j => zBuf.getD (33282 - 33281 + i * 1 + j) .p0⟩,
    ⟨33794, 5, 1, overF 33281 zBuf 33794 5 (tailF (Int.ofNat s.P.length) (Int.ofNat s.wr) s.off s.armed (Int.ofNat s.left))⟩]
theorem p0_opv (sz : Nat) (f : Nat → CV) : CW .p0 (.opv false sz f) := by
  intro ro v h
  cases h; exact .op0 _ _
noncomputable def SS.void (s : SS) : SS := { s with P := [] }
theorem z_ov (s : SS) : OV (some (zO s)) (some s.void.o) := by
  refine .segsW ⟨.refl _, .refl _, ⟨rfl, rfl, rfl, fun i j hi hj => ?_⟩, ⟨rfl, rfl, rfl, fun i j hi hj => ?_⟩, ⟨rfl, rfl, rfl, fun i j hi hj => ?_⟩, trivial⟩
  · have hi : i < 1 := hi
    have hj : j < 1 := hj
    show CW (zBuf.getD (33281 - 33281 + i * 1 + j) .p0) (.opv false 66 _)
    rw [zBuf_at _ (by omega)]; exact p0_opv _ _
  · have hi : i < 512 := hi
    have hj : j < 1 := hj
    show CW (zBuf.getD (33282 - 33281 + i * 1 + j) .p0) (.opv false 66 _)
    rw [zBuf_at _ (by omega)]; exact p0_opv _ _
  · have hi : i = 0 := by have : i < 1 := hi; omega
    have hj : j < 5 := hj
    subst hi
    have : j = 0 ∨ j = 1 ∨ j = 2 ∨ j = 3 ∨ j = 4 := by omega
    rcases this with rfl | rfl | rfl | rfl | rfl <;> exact .of (by kernel_rfl)
theorem settle_con (s : SS) (L : Nat) (aa : Nat → Nat) (bb : Nat → Nat → Int) (pp : Nat → Bool) (ww : Nat → Nat → CV) (hL : L < 4611686018427387904) (ha : ∀ k, k < L → aa k < 512) :
    Con Tryd.prog 64 [.p 0 0, .sv 1 L (wsF aa bb pp ww)] [some s.o] (.tup []) [.set (s.laid aa bb L).void.o] :=
  (con_of_run (us := [.set (zO (s.laid aa bb L))]) [] [] ((settle_vc s L aa bb pp ww hL ha _).mpr ⟨settle_lp s L aa bb pp ww hL ha, trivial, trivial, _, _, rfl, ret_k (by kernel_rfl)⟩)).post (.refl _) ⟨z_ov _, trivial⟩
noncomputable def nthW (P : PW) (k : Nat) : Nat × (Nat → Int) := (P.drop (P.length - 1 - k)).headD (0, fun _ => 0)
noncomputable def oA (P : PW) : Nat → Nat := fun k => (nthW P k).1
noncomputable def oB (P : PW) : Nat → Nat → Int := fun k => (nthW P k).2
noncomputable def oP (P : PW) : Nat → Bool := fun k => pB (P.drop (P.length - 1 - k)).tail
noncomputable def oW (P : PW) : Nat → Nat → CV := fun k => pW (P.drop (P.length - 1 - k)).tail
theorem inOrder2_con (s : SS) (hl : s.P.length ≤ 1073741824) : Con Tryd.prog 63 [.p 0 33281] [some s.o] (.sv 1 s.P.length (wsF (oA s.P) (oB s.P) (oP s.P) (oW s.P))) [.keep] := by
  refine (inOrder_con s hl).post (.svW fun i j hi hj => .of ?_) (OVL.refl _)
  unfold ordF wsF oA oB oP oW nthW
  cases h : s.P.drop (s.P.length - 1 - i) with
  | nil =>
    have := congrArg List.length h
    simp at this; omega
  | cons w Q => rfl
noncomputable def durL (dur : Nat → Nat → Int) : PW → Nat → Nat → Int
  | [] => dur
  | w :: P => setD (durL dur P) w.1 w.2
noncomputable def tornL (torn : Nat → Bool) : PW → Nat → Bool
  | [] => torn
  | w :: P => setT (tornL torn P) w.1 false
theorem laid_eq (s : SS) : ∀ m, m ≤ s.P.length → s.laid (oA s.P) (oB s.P) m = { s with dur := durL s.dur (s.P.drop (s.P.length - m)), torn := tornL s.torn (s.P.drop (s.P.length - m)) } := by
  intro m
  induction m with
  | zero => intro _; rw [Nat.sub_zero, List.drop_length]; rfl
  | succ m ih =>
    intro hm
    show (s.laid (oA s.P) (oB s.P) m).lay (oA s.P m) (oB s.P m) false = _
    rw [ih (by omega)]
    have e1 : s.P.length - 1 - m = s.P.length - (m + 1) := by omega
    unfold oA oB nthW
    rw [e1]
    cases h : s.P.drop (s.P.length - (m + 1)) with
    | nil =>
      have := congrArg List.length h
      simp at this; omega
    | cons w Q =>
      have hQ : s.P.drop (s.P.length - m) = Q := by
        rw [show s.P.length - m = (s.P.length - (m + 1)) + 1 by omega, ← List.drop_drop, h]; rfl
      rw [hQ]
      rfl
noncomputable def SS.flush (s : SS) (m : Nat) : SS := { s with dur := durL s.dur (s.P.drop (s.P.length - m)), torn := tornL s.torn (s.P.drop (s.P.length - m)), P := [] }
theorem flush_con (s : SS) (m : Nat) (hl : s.P.length ≤ 1073741824) (hm : m ≤ s.P.length) (h : ∀ w ∈ s.P, w.1 < 512) :
    Con Tryd.prog 64 [.p 0 0, .sv 1 m (wsF (oA s.P) (oB s.P) (oP s.P) (oW s.P))] [some s.o] (.tup []) [.set (s.flush m).o] := by
  have h1 := settle_con s m (oA s.P) (oB s.P) (oP s.P) (oW s.P) (by omega) (fun k hk => by
    unfold oA nthW
    cases hd : s.P.drop (s.P.length - 1 - k) with
    | nil => simp
    | cons w Q => exact h w (List.mem_of_mem_drop (by rw [hd]; exact List.mem_cons_self)))
  rw [laid_eq s m hm] at h1
  exact h1
theorem barrier_vc (s : SS) (hl : s.P.length ≤ 1073741824) (ha : ∀ q ∈ s.P, q.1 < 512) (K : Res → Orc → Prop) : runK Tryd.prog 1000000 (.call 79 [.p 0 0] (mkH [some s.o])) (Orc.cal [0] (AV.i .i64 (SS.faultE s)) [Upd.keep] (Orc.s Orc.z (Orc.cal [0] (AV.sv 1 (List.length (SS.P s)) (wsF (oA (SS.P s)) (oB (SS.P s)) (oP (SS.P s)) (oW (SS.P s)))) [Upd.keep] (Orc.cal [0] (AV.tup []) [Upd.set (SS.o (SS.flush s (List.length (SS.P s))))] Orc.z)))) K = (Con Tryd.prog 81 [AV.p 0 0] [some (SS.o s)] (AV.i .i64 (SS.faultE s)) [Upd.keep] ∧ ((!decide (SS.faultE s = 0)) = true → K (Res.rv (AV.i .i64 (SS.faultE s)) ⟨T.n (some (AObj.segs 77 33799 [⟨0, 1, 1, oneF (CV.i .i64 (Int.ofNat (SS.n s)))⟩, ⟨1, 65, 512, durF (SS.dur s) (SS.torn s)⟩, ⟨33281, 1, 1, oneF (CV.opv (pB (SS.P s)) 66 (pW (SS.P s)))⟩, ⟨33282, 1, 512, latF (lB (SS.P s)) (lW (SS.P s))⟩, ⟨33794, 5, 1, tailF (Int.ofNat (List.length (SS.P s)))
  (Int.ofNat (SS.wr s)) (SS.off s) (SS.armed s) (Int.ofNat (SS.left s))⟩])) T.e T.e, 1, []⟩) Orc.z) ∧ ((!decide (SS.faultE s = 0)) = false → True ∧ Con Tryd.prog 63 [AV.p 0 33281] [some (SS.o s)] (AV.sv 1 (List.length (SS.P s)) (wsF (oA (SS.P s)) (oB (SS.P s)) (oP (SS.P s)) (oW (SS.P s)))) [Upd.keep] ∧ Con Tryd.prog 64 [AV.p 0 0, AV.sv 1 (List.length (SS.P s)) (wsF (oA (SS.P s)) (oB (SS.P s)) (oP (SS.P s)) (oW (SS.P s)))] [some (SS.o s)] (AV.tup []) [Upd.set (SS.o (SS.flush s (List.length (SS.P s))))] ∧ K (Res.rv (AV.i .i64 0) ⟨T.n (some (AObj.segs 77 33799 [⟨0, 1, 1, oneF (CV.i .i64 (Int.ofNat (SS.n (SS.flush s (List.length (SS.P s))))))⟩, ⟨1, 65, 512, durF (SS.dur (SS.flush s (List.length (SS.P s)))) (SS.torn (SS.flush s (List.length (SS.P s))))⟩, ⟨33281, 1, 1, oneF (CV.opv (pB (SS.P (SS.flush s (List.length (SS.P s))))) 66 (pW (SS.P (SS.flush s (List.length (SS.P s))))))⟩, ⟨33282, 1,
  512, latF (lB (SS.P (SS.flush s (List.length (SS.P s))))) (lW (SS.P (SS.flush s (List.length (SS.P s)))))⟩, ⟨33794, 5, 1, tailF (Int.ofNat (List.length (SS.P (SS.flush s (List.length (SS.P s)))))) (Int.ofNat (SS.wr (SS.flush s (List.length (SS.P s))))) (SS.off (SS.flush s (List.length (SS.P s)))) (SS.armed (SS.flush s (List.length (SS.P s)))) (Int.ofNat (SS.left (SS.flush s (List.length (SS.P s)))))⟩])) T.e T.e, 1, [0]⟩) Orc.z)) := by kernel_rfl
theorem revive_vc (s : SS) (kk : Int) (tt : Bool) (hl : s.P.length ≤ 1073741824) (ha : ∀ q ∈ s.P, q.1 < 512) (K : Res → Orc → Prop) : runK Tryd.prog 1000000 (.call 21 [.p 0 0, .i .i64 kk, .b tt] (mkH [some s.o])) (Orc.c (Orc.s Orc.z (Orc.cal [0] (AV.sv 1 (List.length (SS.P s)) (wsF (oA (SS.P s)) (oB (SS.P s)) (oP (SS.P s)) (oW (SS.P s)))) [Upd.keep] (Orc.cal [0] (AV.tup []) [Upd.set (SS.o (SS.flush s (Int.toNat (if Int.ofNat (List.length (SS.P s)) < if 0 > kk then 0 else kk then Int.ofNat (List.length (SS.P s)) else if 0 > kk then 0 else kk))))] (Orc.s (Orc.t (Orc.t (Orc.t (Orc.t (Orc.s (Orc.s Orc.z Orc.z) Orc.z))))) (Orc.f (Orc.f (Orc.f (Orc.f (Orc.c Orc.z)))))))))) K = (True ∧ True ∧ True ∧ True ∧ ((!SS.off s) = true → K (Res.rv (AV.i .i64 26) ⟨T.n (some (AObj.segs 77 33799 [⟨0, 1, 1, oneF (CV.i .i64 (Int.ofNat (SS.n s)))⟩, ⟨1, 65, 512, durF (SS.dur s) (SS.torn s)⟩, ⟨33281, 1, 1, oneF (CV.opv (pB (SS.P s)) 66 (pW (SS.P s)))⟩, ⟨33282, 1, 512, latF (lB (SS.P s)) (lW (SS.P s))⟩, ⟨33794, 5, 1, tailF (Int.ofNat (List.length (SS.P s))) (Int.ofNat (SS.wr s)) (SS.off s) (SS.armed s) (Int.ofNat (SS.left s))⟩])) T.e T.e, 1, []⟩)
 Orc.z) ∧ ((!SS.off s) = false → True ∧ Con Tryd.prog 63 [AV.p 0 33281] [some (SS.o s)] (AV.sv 1 (List.length (SS.P s)) (wsF (oA (SS.P s)) (oB (SS.P s)) (oP (SS.P s)) (oW (SS.P s)))) [Upd.keep] ∧ (True ∧ (0 ≤ if Int.ofNat (List.length (SS.P s)) < if 0 > kk then 0 else kk then Int.ofNat (List.length (SS.P s)) else if 0 > kk then 0 else kk) ∧ 0 ≤ Int.toNat (if Int.ofNat (List.length (SS.P s)) < if 0 > kk then 0 else kk then Int.ofNat (List.length (SS.P s)) else if 0 > kk then 0 else kk) ∧ Int.toNat (if Int.ofNat (List.length (SS.P s)) < if 0 > kk then 0 else kk then Int.ofNat (List.length (SS.P s)) else if 0 > kk then 0 else kk) ≤ List.length (SS.P s)) ∧ Con Tryd.prog 64 [AV.p 0 0, AV.sv 1 (Int.toNat (if Int.ofNat (List.length (SS.P s)) < if 0 > kk then 0 else kk then Int.ofNat (List.length (SS.P s)) else if 0 > kk then 0 else kk)) (wsF (oA (SS.P s)) (oB (SS.P s)) (oP (SS.P s)) (oW (SS.P
 s)))] [some (SS.o s)] (AV.tup []) [Upd.set (SS.o (SS.flush s (Int.toNat (if Int.ofNat (List.length (SS.P s)) < if 0 > kk then 0 else kk then Int.ofNat (List.length (SS.P s)) else if 0 > kk then 0 else kk))))] ∧ (tt = true → tt = true ∧ tt = true ∧ tt = true ∧ tt = true ∧ (decide ((if Int.ofNat (List.length (SS.P s)) < if 0 > kk then 0 else kk then Int.ofNat (List.length (SS.P s)) else if 0 > kk then 0 else kk) < Int.ofNat (List.length (SS.P s))) = true → ((0 ≤ if Int.ofNat (List.length (SS.P s)) < if 0 > kk then 0 else kk then Int.ofNat (List.length (SS.P s)) else if 0 > kk then 0 else kk) ∧ (if Int.ofNat (List.length (SS.P s)) < if 0 > kk then 0 else kk then Int.ofNat (List.length (SS.P s)) else if 0 > kk then 0 else kk) < ↑(List.length (SS.P s))) ∧ True ∧ true = true ∧ True ∧ True ∧ True ∧ (0 ≤ Int.ofNat (oA (SS.P s) (Int.toNat (if Int.ofNat (List.length (SS.P s)) < if 0 > kk then 0
 else kk then Int.ofNat (List.length (SS.P s)) else if 0 > kk then 0 else kk))) ∧ Int.ofNat (oA (SS.P s) (Int.toNat (if Int.ofNat (List.length (SS.P s)) < if 0 > kk then 0 else kk then Int.ofNat (List.length (SS.P s)) else if 0 > kk then 0 else kk))) < 512) ∧ oA (SS.P s) (Int.toNat (if Int.ofNat (List.length (SS.P s)) < if 0 > kk then 0 else kk then Int.ofNat (List.length (SS.P s)) else if 0 > kk then 0 else kk)) < 512 ∧ True ∧ True ∧ K (Res.rv (AV.i .i64 0) ⟨T.n (some (AObj.segs 77 33799 [⟨0, 1, 1, oneF (CV.i .i64 (Int.ofNat (SS.n (SS.flush s (Int.toNat (if Int.ofNat (List.length (SS.P s)) < if 0 > kk then 0 else kk then Int.ofNat (List.length (SS.P s)) else if 0 > kk then 0 else kk))))))⟩, ⟨1, 65, 512, setRow (fun i j => match Nat.blt j 64 with | true => CV.i .u8 (SS.dur (SS.flush s (Int.toNat (if Int.ofNat (List.length (SS.P s)) < if 0 > kk then 0 else kk then Int.ofNat (List.length (SS.P s)) else if 0 > kk then 0 else kk))) i j) | false => CV.b (SS.torn (SS.flush s (Int.toNat (if Int.ofNat (List.length (SS.P s)) < if 0 > kk then 0 else kk then Int.ofNat (List.length (SS.P s)) else if 0 > kk then 0 else kk))) i)) (oA (SS.P s) (Int.toNat (if Int.ofNat (List.length (SS.P s)) < if 0 > kk then 0 else kk then Int.ofNat (List.length (SS.P s)) else if 0 > kk then 0 else kk))) 0 [CV.i .u8 0, CV.i .u8 0, CV.i .u8 0, CV.i .u8 0, CV.i .u8 0, CV.i .u8 0, CV.i .u8 0, CV.i .u8 0, CV.i .u8 0, CV.i .u8 0, CV.i .u8 0, CV.i .u8 0, CV.i .u8 0, CV.i .u8 0, CV.i .u8 0, CV.i .u8 0, CV.i .u8 0, CV.i .u8 0, CV.i .u8 0, CV.i .u8 0, CV.i .u8 0, CV.i .u8 0, CV.i .u8 0, CV.i .u8 0, CV.i .u8 0, CV.i .u8 0, CV.i .u8 0, CV.i .u8 0, CV.i .u8 0, CV.i .u8 0, CV.i .u8 0, CV.i .u8 0, CV.i .u8 0, CV.i .u8 0, CV.i .u8 0, CV.i .u8 0, CV.i .u8 0, CV.i .u8 0, CV.i .u8 0, CV.i .u8 0, CV.i .u8 0, CV.i .u8 0, CV.i .u8 0, CV.i .u8 0, CV.i .u8 0, CV.i .u8 0, CV.i .u8 0, CV.i .u8 0, CV.i .u8 0, CV.i .u8 0, CV.i .u8 0, CV.i .u8 0, CV.i .u8 0, CV.i .u8 0, CV.i .u8 0, CV.i .u8 0, CV.i .u8 0, CV.i .u8 0, CV.i .u8 0, CV.i .u8 0, CV.i .u8 0, CV.i .u8 0, CV.i .u8 0, CV.i .u8 0, CV.b true]⟩, ⟨33281, 1, 1, oneF (CV.opv (pB (SS.P (SS.flush s (Int.toNat (if Int.ofNat (List.length (SS.P s)) < if 0 > kk then 0 else kk then Int.ofNat (List.length (SS.P s)) else if 0 > kk then 0 else kk))))) 66 (pW (SS.P (SS.flush s (Int.toNat (if Int.ofNat (List.length (SS.P s)) < if 0 > kk then 0 else kk then Int.ofNat (List.length (SS.P s)) else if 0 > kk then 0 else kk))))))⟩, ⟨33282, 1, 512, latF (lB (SS.P (SS.flush s (Int.toNat (if Int.ofNat (List.length (SS.P s)) < if 0 > kk then 0 else kk then Int.ofNat (List.length (SS.P s)) else if 0 > kk then 0 else kk))))) (lW (SS.P (SS.flush s (Int.toNat (if Int.ofNat (List.length (SS.P s)) < if 0 > kk then 0 else kk then Int.ofNat (List.length (SS.P s)) else if 0 > kk then 0 else kk)))))⟩, ⟨33794, 5, 1, setRow (fun x j => match j with | 0 => CV.i .i64 (Int.ofNat 0) | 1 => CV.i .i64 (Int.ofNat (SS.wr (SS.flush s (Int.toNat (if Int.ofNat (List.length (SS.P s)) < if 0 > kk then 0 else kk then Int.ofNat (List.length (SS.P s)) else if 0 > kk then 0 else kk))))) | 2 => CV.b (SS.off (SS.flush s (Int.toNat (if Int.ofNat (List.length (SS.P s)) < if 0 > kk then 0 else kk then Int.ofNat (List.length (SS.P s)) else if 0 > kk then 0 else kk)))) | 3 => CV.b (SS.armed (SS.flush s (Int.toNat (if Int.ofNat (List.length (SS.P s)) < if 0 > kk then 0 else kk then Int.ofNat (List.length (SS.P s)) else if 0 > kk then 0 else kk)))) | x => CV.i .i64 (Int.ofNat (SS.left (SS.flush s (Int.toNat (if Int.ofNat (List.length (SS.P s)) < if 0 > kk then 0 else kk then Int.ofNat (List.length (SS.P s)) else if 0 > kk then 0 else kk)))))) 0 2 [CV.b false]⟩])) T.e T.e, 1, [0, 0, 0]⟩)
 Orc.z) ∧ (decide ((if Int.ofNat (List.length (SS.P s)) < if 0 > kk then 0 else kk then Int.ofNat (List.length (SS.P s)) else if 0 > kk then 0 else kk) < Int.ofNat (List.length (SS.P s))) = false → True ∧ True ∧ K (Res.rv (AV.i .i64 0) ⟨T.n (some (AObj.segs 77 33799 [⟨0, 1, 1, oneF (CV.i .i64 (Int.ofNat (SS.n (SS.flush s (Int.toNat (if Int.ofNat (List.length (SS.P s)) < if 0 > kk then 0 else kk then Int.ofNat (List.length (SS.P s)) else if 0 > kk then 0 else kk))))))⟩, ⟨1, 65, 512, durF (SS.dur (SS.flush s (Int.toNat (if Int.ofNat (List.length (SS.P s)) < if 0 > kk then 0 else kk then Int.ofNat (List.length (SS.P s)) else if 0 > kk then 0 else kk)))) (SS.torn (SS.flush s (Int.toNat (if Int.ofNat (List.length (SS.P s)) < if 0 > kk then 0 else kk then Int.ofNat (List.length (SS.P s)) else if 0 > kk then 0 else kk))))⟩, ⟨33281, 1, 1, oneF (CV.opv (pB (SS.P (SS.flush s (Int.toNat (if Int.ofNat (List.length (SS.P s)) < if 0 > kk then 0 else kk then Int.ofNat (List.length (SS.P s)) else if 0 > kk then 0 else kk))))) 66 (pW (SS.P (SS.flush s (Int.toNat (if Int.ofNat (List.length (SS.P s)) < if 0 > kk then 0 else kk then Int.ofNat (List.length (SS.P s)) else if 0 > kk then 0 else kk))))))⟩, ⟨33282, 1, 512, latF (lB (SS.P (SS.flush s (Int.toNat (if Int.ofNat (List.length (SS.P s)) < if 0 > kk then 0 else kk then Int.ofNat (List.length (SS.P s)) else if 0 > kk then 0 else kk))))) (lW (SS.P (SS.flush s (Int.toNat (if Int.ofNat (List.length (SS.P s)) < if 0 > kk then 0 else kk then Int.ofNat (List.length (SS.P s)) else if 0 > kk then 0 else kk)))))⟩, ⟨33794, 5, 1, setRow (fun x j => match j with | 0 => CV.i .i64 (Int.ofNat 0) | 1 => CV.i .i64 (Int.ofNat (SS.wr (SS.flush s (Int.toNat (if Int.ofNat (List.length (SS.P s)) < if 0 > kk then 0 else kk then Int.ofNat (List.length (SS.P s)) else if 0 > kk then 0 else kk))))) | 2 => CV.b (SS.off (SS.flush s (Int.toNat (if Int.ofNat (List.length (SS.P s)) < if 0 > kk then 0 else kk then Int.ofNat (List.length (SS.P s)) else if 0 > kk then 0 else kk)))) | 3 => CV.b (SS.armed (SS.flush s (Int.toNat (if Int.ofNat (List.length (SS.P s)) < if 0 > kk then 0 else kk then Int.ofNat (List.length (SS.P s)) else if 0 > kk then 0 else kk)))) | x => CV.i .i64 (Int.ofNat (SS.left (SS.flush s (Int.toNat (if Int.ofNat (List.length (SS.P s)) < if 0 > kk then 0 else kk then Int.ofNat (List.length (SS.P s)) else if 0 > kk then 0 else kk)))))) 0 2 [CV.b false]⟩])) T.e T.e, 1, [0, 0]⟩)
 Orc.z)) ∧ (tt = false → tt = false ∧ tt = false ∧ tt = false ∧ tt = false ∧ True ∧ True ∧ K (Res.rv (AV.i .i64 0) ⟨T.n (some (AObj.segs 77 33799 [⟨0, 1, 1, oneF (CV.i .i64 (Int.ofNat (SS.n (SS.flush s (Int.toNat (if Int.ofNat (List.length (SS.P s)) < if 0 > kk then 0 else kk then Int.ofNat (List.length (SS.P s)) else if 0 > kk then 0 else kk))))))⟩, ⟨1, 65, 512, durF (SS.dur (SS.flush s (Int.toNat (if Int.ofNat (List.length (SS.P s)) < if 0 > kk then 0 else kk then Int.ofNat (List.length (SS.P s)) else if 0 > kk then 0 else kk)))) (SS.torn (SS.flush s (Int.toNat (if Int.ofNat (List.length (SS.P s)) < if 0 > kk then 0 else kk then Int.ofNat (List.length (SS.P s)) else if 0 > kk then 0 else kk))))⟩, ⟨33281, 1, 1, oneF (CV.opv (pB (SS.P (SS.flush s (Int.toNat (if Int.ofNat (List.length (SS.P s)) < if 0 > kk then 0 else kk then Int.ofNat (List.length (SS.P s)) else if 0 > kk then 0 else kk))))) 66 (pW (SS.P (SS.flush s (Int.toNat (if Int.ofNat (List.length (SS.P s)) < if 0 > kk then 0 else kk then Int.ofNat (List.length (SS.P s)) else if 0 > kk then 0 else kk))))))⟩, ⟨33282, 1, 512, latF (lB (SS.P (SS.flush s (Int.toNat (if Int.ofNat (List.length (SS.P s)) < if 0 > kk then 0 else kk then Int.ofNat (List.length (SS.P s)) else if 0 > kk then 0 else kk))))) (lW (SS.P (SS.flush s (Int.toNat (if Int.ofNat (List.length (SS.P s)) < if 0 > kk then 0 else kk then Int.ofNat (List.length (SS.P s)) else if 0 > kk then 0 else kk)))))⟩, ⟨33794, 5, 1, setRow (fun x j => match j with | 0 => CV.i .i64 (Int.ofNat 0) | 1 => CV.i .i64 (Int.ofNat (SS.wr (SS.flush s (Int.toNat (if Int.ofNat (List.length (SS.P s)) < if 0 > kk then 0 else kk then Int.ofNat (List.length (SS.P s)) else if 0 > kk then 0 else kk))))) | 2 => CV.b (SS.off (SS.flush s (Int.toNat (if Int.ofNat (List.length (SS.P s)) < if 0 > kk then 0 else kk then Int.ofNat (List.length (SS.P s)) else if 0 > kk then 0 else kk)))) | 3 => CV.b (SS.armed (SS.flush s (Int.toNat (if Int.ofNat (List.length (SS.P s)) < if 0 > kk then 0 else kk then Int.ofNat (List.length (SS.P s)) else if 0 > kk then 0 else kk)))) | x => CV.i .i64 (Int.ofNat (SS.left (SS.flush s (Int.toNat (if Int.ofNat (List.length (SS.P s)) < if 0 > kk then 0 else kk then Int.ofNat (List.length (SS.P s)) else if 0 > kk then 0 else kk)))))) 0 2 [CV.b false]⟩])) T.e T.e, 1, [0, 0]⟩)
 Orc.z))) := by kernel_rfl
theorem barrierOff_con (s : SS) (ho : s.off = true) (hl : s.P.length ≤ 1073741824) (ha : ∀ q ∈ s.P, q.1 < 512) : Con Tryd.prog 79 [.p 0 0] [some s.o] (.i .i64 13) [.keep] := by
  have e0 : s.faultE = 13 := by unfold SS.faultE; rw [ho]; rfl
  refine con_of_run [] [] ((barrier_vc s hl ha _).mpr ⟨fault2_con _, fun h => ?_, fun h => by rw [e0] at h; simp at h⟩)
  rw [e0]
  exact ⟨_, _, rfl, ret_k (by kernel_rfl)⟩
theorem barrierOn_con (s : SS) (ho : s.off = false) (hl : s.P.length ≤ 1073741824) (ha : ∀ q ∈ s.P, q.1 < 512) : Con Tryd.prog 79 [.p 0 0] [some s.o] (.i .i64 0) [.set (s.flush s.P.length).o] := by
  have e0 : s.faultE = 0 := by unfold SS.faultE; rw [ho]; rfl
  exact con_of_run [] [] ((barrier_vc s hl ha _).mpr ⟨fault2_con _, fun h => by rw [e0] at h; simp at h, fun _ => ⟨trivial, inOrder2_con s hl, flush_con s _ hl (Nat.le_refl _) ha, _, _, rfl, ret_k (by kernel_rfl)⟩⟩)
noncomputable def SS.bar (s : SS) : SS := match s.off with
  | true => s
  | false => s.flush s.P.length
theorem barrier_con (s : SS) (hl : s.P.length ≤ 1073741824) (ha : ∀ q ∈ s.P, q.1 < 512) : Con Tryd.prog 79 [.p 0 0] [some s.o] (.i .i64 s.faultE) [.set s.bar.o] := by
  cases ho : s.off with
  | true =>
    have e0 : s.faultE = 13 := by unfold SS.faultE; rw [ho]; rfl
    have e1 : s.bar = s := by unfold SS.bar; rw [ho]
    rw [e0, e1]; exact (barrierOff_con s ho hl ha).oeq (OEqL.refl _) (OEqL.refl _)
  | false =>
    have e0 : s.faultE = 0 := by unfold SS.faultE; rw [ho]; rfl
    have e1 : s.bar = s.flush s.P.length := by unfold SS.bar; rw [ho]
    rw [e0, e1]; exact barrierOn_con s ho hl ha
def keepN (kk : Int) (L : Nat) : Nat := min kk.toNat L
theorem keepN_eq (kk : Int) (L : Nat) : (if Int.ofNat L < (if 0 > kk then 0 else kk) then Int.ofNat L else if 0 > kk then 0 else kk) = Int.ofNat (keepN kk L) := by
  unfold keepN
  simp only [Int.ofNat_eq_natCast]
  split <;> split <;> omega
noncomputable def SS.on (s : SS) : SS := { s with off := false }
noncomputable def SS.revived (s : SS) (kk : Int) (tt : Bool) : SS := match s.off with
  | false => s
  | true => match tt && Nat.blt (keepN kk s.P.length) s.P.length with
    | true => ((s.flush (keepN kk s.P.length)).lay (oA s.P (keepN kk s.P.length)) (fun _ => 0) true).on
    | false => (s.flush (keepN kk s.P.length)).on
noncomputable def SS.revE (s : SS) : Int := bif s.off then 0 else 26
noncomputable def onO (s : SS) : AObj := tO (Int.ofNat s.n) s.dur s.torn (pB s.P) (pW s.P) (lB s.P) (lW s.P) (setRow (tailF (Int.ofNat s.P.length) (Int.ofNat s.wr) s.off s.armed (Int.ofNat s.left)) 0 2 [.b false])
noncomputable def tornO (s : SS) (q : Nat) : AObj :=
  .segs 77 33799 [⟨0, 1, 1, oneF (.i .i64 (Int.ofNat s.n))⟩, ⟨1, 65, 512, setRow (durF s.dur s.torn) q 0 (cellsP (fun _ => 0) true)⟩, ⟨33281, 1, 1, oneF (.opv (pB s.P) 66 (pW s.P))⟩, ⟨33282, 1, 512, latF (lB s.P) (lW s.P)⟩, ⟨33794, 5, 1, setRow (tailF (Int.ofNat s.P.length) (Int.ofNat s.wr) s.off s.armed (Int.ofNat s.left)) 0 2 [.b false]⟩]
theorem tail_on (s : SS) (i j : Nat) (hi : i < 1) (hj : j < 5) : setRow (tailF (Int.ofNat s.P.length) (Int.ofNat s.wr) s.off s.armed (Int.ofNat s.left)) 0 2 [.b false] i j = tailF (Int.ofNat s.P.length) (Int.ofNat s.wr) false s.armed (Int.ofNat s.left) i j := by
  have hi : i = 0 := by omega
  subst hi
  have : j = 0 ∨ j = 1 ∨ j = 2 ∨ j = 3 ∨ j = 4 := by omega
  rcases this with rfl | rfl | rfl | rfl | rfl <;> rfl
theorem on_ov (s : SS) : OV (some (onO s)) (some s.on.o) := .segsW ⟨.refl _, .refl _, .refl _, .refl _, ⟨rfl, rfl, rfl, fun i j hi hj => .of (tail_on s i j hi hj)⟩, trivial⟩
theorem torn_ov (s : SS) (q : Nat) : OV (some (tornO s q)) (some (s.lay q (fun _ => 0) true).on.o) := .segsW ⟨.refl _, ⟨rfl, rfl, rfl, fun i j _ hj => setP _ _ _ _ _ i j hj⟩, .refl _, .refl _, ⟨rfl, rfl, rfl, fun i j hi hj => .of (tail_on s i j hi hj)⟩, trivial⟩
theorem revive_con (s : SS) (kk : Int) (tt : Bool) (hl : s.P.length ≤ 1073741824) (ha : ∀ q ∈ s.P, q.1 < 512) : Con Tryd.prog 21 [.p 0 0, .i .i64 kk, .b tt] [some s.o] (.i .i64 s.revE) [.set (s.revived kk tt).o] := by
  cases ho : s.off with
  | false =>
    have e0 : s.revE = 26 := by unfold SS.revE; rw [ho]; rfl
    have e1 : s.revived kk tt = s := by unfold SS.revived; rw [ho]
    rw [e0, e1]
    have h : Con Tryd.prog 21 [.p 0 0, .i .i64 kk, .b tt] [some s.o] (.i .i64 26) [.keep] :=
      con_of_run [] [] ((revive_vc s kk tt hl ha _).mpr ⟨trivial, trivial, trivial, trivial, fun _ => ⟨_, _, rfl, ret_k (by kernel_rfl)⟩, fun h => by rw [ho] at h; simp at h⟩)
    exact h.oeq (OEqL.refl _) (OEqL.refl _)
  | true =>
    have e0 : s.revE = 0 := by unfold SS.revE; rw [ho]; rfl
    rw [e0]
    have hk : keepN kk s.P.length ≤ s.P.length := Nat.min_le_right _ _
    have hA : oA s.P (keepN kk s.P.length) < 512 := by
      unfold oA nthW
      cases hd : s.P.drop (s.P.length - 1 - keepN kk s.P.length) with
      | nil => simp
      | cons w Q => exact ha w (List.mem_of_mem_drop (by rw [hd]; exact List.mem_cons_self))
    have hf := flush_con s (keepN kk s.P.length) hl hk ha
    have vc := fun K => revive_vc s kk tt hl ha K
    simp only [keepN_eq] at vc
    generalize hm : keepN kk s.P.length = m at *
    have e1 : s.revived kk tt = match tt && Nat.blt m s.P.length with
      | true => ((s.flush m).lay (oA s.P m) (fun _ => 0) true).on
      | false => (s.flush m).on := by unfold SS.revived; rw [ho, hm]
    have hb : (!s.off) = true → False := fun h => by rw [ho] at h; simp at h
    cases tt with
    | true =>
      rcases Nat.lt_or_ge m s.P.length with c | c
      · have e2 : s.revived kk true = ((s.flush m).lay (oA s.P m) (fun _ => 0) true).on := by
          rw [e1, show Nat.blt m s.P.length = true by rw [Nat.blt_eq]; exact c]; rfl
        rw [e2]
        have h : Con Tryd.prog 21 [.p 0 0, .i .i64 kk, .b true] [some s.o] (.i .i64 0) [.set (tornO (s.flush m) (oA s.P m))] :=
          con_of_run [] [] ((vc _).mpr ⟨trivial, trivial, trivial, trivial, fun h => (hb h).elim, fun _ => ⟨trivial, inOrder2_con s hl, ⟨trivial, by simp, Nat.zero_le _, by simpa using hk⟩, hf, fun _ => ⟨rfl, rfl, rfl, rfl, fun _ => ⟨⟨by simp, by simp; omega⟩, trivial, trivial, trivial, trivial, trivial, ⟨by simp, by simp; omega⟩, hA, trivial, trivial, _, _, rfl, ret_k (by kernel_rfl)⟩, fun h => by simp at h; omega⟩, fun h => by simp at h⟩⟩)
        exact h.post (.refl _) ⟨torn_ov _ _, trivial⟩
      · have e2 : s.revived kk true = (s.flush m).on := by
          have : Nat.blt m s.P.length = false := by
            rw [Bool.eq_false_iff, ne_eq, Nat.blt_eq]; omega
          rw [e1, this]; rfl
        rw [e2]
        have h : Con Tryd.prog 21 [.p 0 0, .i .i64 kk, .b true] [some s.o] (.i .i64 0) [.set (onO (s.flush m))] :=
          con_of_run [] [] ((vc _).mpr ⟨trivial, trivial, trivial, trivial, fun h => (hb h).elim, fun _ => ⟨trivial, inOrder2_con s hl, ⟨trivial, by simp, Nat.zero_le _, by simpa using hk⟩, hf, fun _ => ⟨rfl, rfl, rfl, rfl, fun h => by simp at h; omega, fun _ => ⟨trivial, trivial, _, _, rfl, ret_k (by kernel_rfl)⟩⟩, fun h => by simp at h⟩⟩)
        exact h.post (.refl _) ⟨on_ov _, trivial⟩
    | false =>
      have e2 : s.revived kk false = (s.flush m).on := by rw [e1]; rfl
      rw [e2]
      have h : Con Tryd.prog 21 [.p 0 0, .i .i64 kk, .b false] [some s.o] (.i .i64 0) [.set (onO (s.flush m))] :=
        con_of_run [] [] ((vc _).mpr ⟨trivial, trivial, trivial, trivial, fun h => (hb h).elim, fun _ => ⟨trivial, inOrder2_con s hl, ⟨trivial, by simp, Nat.zero_le _, by simpa using hk⟩, hf, fun h => by simp at h, fun _ => ⟨rfl, rfl, rfl, rfl, trivial, trivial, _, _, rfl, ret_k (by kernel_rfl)⟩⟩⟩)
      exact h.post (.refl _) ⟨on_ov _, trivial⟩
set_option maxRecDepth 100000
noncomputable def newL (n : Int) : List AV := putAt ((zeroCellsOf Tryd.prog 77).getD []) 0 [.i .i64 n]
noncomputable def eqZ (a : AV) (c : CV) : Bool := match a, c with
  | .i .u8 x, .i .u8 y => match x, y with
    | .ofNat a, .ofNat b => Nat.beq a b
    | _, _ => false
  | .i .i64 x, .i .i64 y => match x, y with
    | .ofNat a, .ofNat b => Nat.beq a b
    | _, _ => false
  | .b x, .b y => match x, y with
    | false, false => true
    | _, _ => false
  | .p0, .p0 => true
  | _, _ => false
theorem eqZ_CR {a : AV} {c : CV} (h : eqZ a c = true) {ρ : Rho} {x : Value} (hv : VR ρ a x) : CR ρ.ro c x := by
  unfold eqZ at h
  split at h
  · split at h
    · have e := Nat.eq_of_beq_eq_true h
      subst e
      cases hv; exact .i _ _
    · simp at h
  · split at h
    · have e := Nat.eq_of_beq_eq_true h
      subst e
      cases hv; exact .i _ _
    · simp at h
  · split at h
    · cases hv; exact .b _
    · simp at h
  · cases hv; exact .p0
  · simp at h
noncomputable def chkL (f : Nat → CV) (m : Nat) (l : List AV) : Nat → Bool :=
  List.rec (motive := fun _ => Nat → Bool) (fun p => Nat.beq p m) (fun a _ ih p => match eqZ a (f p) with | true => ih (Nat.succ p) | false => false) l
theorem chkL_ok {f : Nat → CV} {m : Nat} : ∀ {l : List AV} {p : Nat}, chkL f m l p = true → p + l.length = m ∧ ∀ i, i < l.length → ∃ a, l[i]? = some a ∧ eqZ a (f (p + i)) = true
  | [], p, h => ⟨by have := Nat.eq_of_beq_eq_true h; simpa using this, fun i hi => absurd hi (Nat.not_lt_zero i)⟩
  | a :: l, p, h => by
    have h' : (match eqZ a (f p) with | true => chkL f m l (Nat.succ p) | false => false) = true := h
    split at h'
    · rename_i ha
      obtain ⟨k1, k2⟩ := chkL_ok h'
      refine ⟨by simp; omega, ?_⟩
      intro i hi
      cases i with
      | zero => exact ⟨a, rfl, ha⟩
      | succ i =>
        obtain ⟨b, b1, b2⟩ := k2 i (by simpa using hi)
        exact ⟨b, by simpa using b1, by rw [show p + (i + 1) = Nat.succ p + i by omega]; exact b2⟩
    · simp at h'
noncomputable def kd (p : Nat) : CV := match Nat.blt p 33281 with
  | true => match Nat.blt (Nat.mod (p - 1) 65) 64 with
    | true => .i .u8 0
    | false => .b false
  | false => match Nat.blt p 33794 with
    | true => .p0
    | false => match Nat.beq p 33796 || Nat.beq p 33797 with
      | true => .b false
      | false => .i .i64 0
theorem newL_chk (n : Int) : chkL kd 33799 (newL n).tail 1 = true := by kernel_rfl
theorem newL_head (n : Int) : (newL n).head? = some (.i .i64 n) := by kernel_rfl
set_option maxRecDepth 100000
set_option maxRecDepth 100000 in
theorem new_vc (n : Int) (K : Res → Orc → Prop) : runK Tryd.prog 1000000 (.call 9 [.i .i64 n] (mkH [])) (Orc.s (Orc.t (Orc.f (Orc.s Orc.z (Orc.c Orc.z)))) (Orc.f (Orc.t (Orc.c Orc.z)))) K = (((!decide (n < 1)) = true → (!decide (n < 1)) = true ∧ decide (n < 1) = false ∧ (decide (512 < n) = true → K (Res.rv (AV.tup [AV.p0, AV.i .i64 2]) (mkH [])) Orc.z) ∧ (decide (512 < n) = false → K (Res.rv (AV.tup [AV.p 0 0, AV.i .i64 0]) (newList (mkH []) 77 (newL n))) Orc.z)) ∧ ((!decide (n < 1)) = false → (!decide (n < 1)) = false ∧ decide (n < 1) = true ∧ K (Res.rv (AV.tup [AV.p0, AV.i .i64 2]) (mkH [])) Orc.z)) := by kernel_rfl
theorem con_of_call {P : Program} {g : FuncId} {pargs : List AV} {v : AV} {H1 : AH} {objs' : List (Option AObj)} (h : CallDoes P g pargs (mkH []) v H1) (hn : H1.next = objs'.length)
    (hx : ∀ A o, (mkH objs').get A = some o → ∃ u, H1.get A = some u ∧ (u.void → o.void) ∧ ∀ (ρ : Rho) p w, BR ρ u p w → BR ρ o p w) (us : List Upd) (hu : postL [] us = objs') : Con P g pargs [] v us := by
  intro ρ w args' hva hh hoff
  refine (h.2 ρ w args' hva hh (fun A q1 _ => hoff A (by simp))).mono ?_
  rintro e w' ⟨v', ρ', rfl, k1, k2, k3⟩
  rw [hu]
  refine ⟨v', ρ', rfl, k1, ⟨?_, ?_, k2.range, k2.ro, ?_⟩, ⟨Nat.le_trans k3.next (Nat.le_of_eq hn), k3.ext, ?_, k3.size, k3.frame, ?_, k3.roimg, k3.tape, k3.os, k3.output⟩⟩
  · intro A o hA
    obtain ⟨u, h1, h2, h3⟩ := hx A o hA
    rcases k2.live A u h1 with ⟨p, hp, hb⟩ | ⟨hv, hn⟩
    · exact .inl ⟨p, hp, h3 _ _ _ hb⟩
    · exact .inr ⟨h2 hv, hn⟩
  · intro A A' o o' x x' hA hA' hx1 hx' e
    obtain ⟨u, h1, _⟩ := hx A o hA
    obtain ⟨u', h1', _⟩ := hx A' o' hA'
    exact k2.inj A A' u u' x x' h1 h1' hx1 hx' e
  · intro B j v hv A o x hA hx1
    obtain ⟨u, h1, _⟩ := hx A o hA
    exact k2.rox B j v hv A u x h1 hx1
  · intro A x hA
    rcases k3.dom A x hA with q | ⟨q1, q2⟩
    · exact .inl q
    · exact .inr ⟨q1, by show A < objs'.length; omega⟩
  · intro A o x hA hx1
    obtain ⟨u, h1, _⟩ := hx A o hA
    exact k3.img A u x h1 hx1
noncomputable def SS.new (n : Nat) : SS := { n := n, dur := fun _ _ => 0, torn := fun _ => false, P := [], wr := 0, off := false, armed := false, left := 0 }
theorem newL_len (n : Int) : (newL n).length = 33799 := by
  have h1 := (chkL_ok (newL_chk n)).1
  have h2 := newL_head n
  cases h : newL n with
  | nil => rw [h] at h2; simp at h2
  | cons a l => rw [h] at h1; simp at h1 ⊢; omega
theorem newL_at (n : Int) (p : Nat) (h0 : 0 < p) (h : p < 33799) : ∃ a, (newL n)[p]? = some a ∧ ∀ (ρ : Rho) (x : Value), VR ρ a x → CR ρ.ro (kd p) x := by
  obtain ⟨h1, h2⟩ := chkL_ok (newL_chk n)
  have h3 := newL_len n
  obtain ⟨a, a1, a2⟩ := h2 (p - 1) (by simp; omega)
  refine ⟨a, ?_, fun ρ x hx => ?_⟩
  · rw [← a1, List.getElem?_tail, show p - 1 + 1 = p by omega]
  · rw [show 1 + (p - 1) = p by omega] at a2
    exact eqZ_CR a2 hx
theorem kd_dur (i j : Nat) (hi : i < 512) (hj : j < 65) : kd (1 + i * 65 + j) = durF (fun _ _ => 0) (fun _ => false) i j := by
  unfold kd durF
  have e1 : Nat.blt (1 + i * 65 + j) 33281 = true := by rw [Nat.blt_eq]; omega
  have e2 : Nat.mod (1 + i * 65 + j - 1) 65 = j := by
    show (1 + i * 65 + j - 1) % 65 = j
    omega
  first | (rw [e1, e2]; done) | (rw [e1, e2]; cases Nat.blt j 64 <;> rfl)
theorem new_ox (n : Nat) : OX (some (cellsO 77 (newL (Int.ofNat n)))) (some (SS.new n).o) := by
  have hl := newL_len (Int.ofNat n)
  unfold cellsO
  rw [hl]
  refine .cellsSegs fun g hg => ?_
  have key : ∀ p, 0 < p → p < 33799 → ∀ c, kd p = c → ∃ v, cellAt 33799 [] (setAll .e 0 (newL (Int.ofNat n))) p = some v ∧ ∀ (ρ : Rho) (x : Value), VR ρ v x → CR ρ.ro c x := by
    intro p h0 h c hc
    obtain ⟨a, a1, a2⟩ := newL_at (Int.ofNat n) p h0 h
    refine ⟨a, ?_, fun ρ x hx => hc ▸ a2 ρ x hx⟩
    rw [← hl, cellsD_at (by omega)]; exact a1
  simp only [List.mem_cons, List.mem_nil_iff, or_false] at hg
  rcases hg with rfl | rfl | rfl | rfl | rfl
  · refine ⟨by simp only; omega, fun i j hi hj => ?_⟩
    have hi : i < 1 := hi
    have hj : j < 1 := hj
    obtain rfl : i = 0 := by omega
    obtain rfl : j = 0 := by omega
    refine ⟨.i .i64 (Int.ofNat n), ?_, fun ρ x hx => by cases hx; exact .i _ _⟩
    have h1 := newL_head (Int.ofNat n)
    show cellAt 33799 [] (setAll .e 0 (newL (Int.ofNat n))) 0 = _
    rw [← hl, cellsD_at (by omega)]
    cases h : newL (Int.ofNat n) with
    | nil => rw [h] at h1; simp at h1
    | cons a l => rw [h] at h1; simpa using h1
  · refine ⟨by simp only; omega, fun i j hi hj => ?_⟩
    have hi : i < 512 := hi
    have hj : j < 65 := hj
    exact key (1 + i * 65 + j) (by omega) (by omega) _ (kd_dur i j hi hj)
  · refine ⟨by simp only; omega, fun i j hi hj => ?_⟩
    have hi : i < 1 := hi
    have hj : j < 1 := hj
    obtain rfl : i = 0 := by omega
    obtain rfl : j = 0 := by omega
    obtain ⟨v, h1, h2⟩ := key 33281 (by omega) (by omega) .p0 (by kernel_rfl)
    exact ⟨v, h1, fun ρ x hx => p0_opv _ _ _ _ (h2 ρ x hx)⟩
  · refine ⟨by simp only; omega, fun i j hi hj => ?_⟩
    have hi : i < 512 := hi
    have hj : j < 1 := hj
    obtain rfl : j = 0 := by omega
    obtain ⟨v, h1, h2⟩ := key (33282 + i * 1 + 0) (by omega) (by omega) .p0 (by
      unfold kd
      rw [show Nat.blt (33282 + i * 1 + 0) 33281 = false by rw [Bool.eq_false_iff, ne_eq, Nat.blt_eq]; omega, show Nat.blt (33282 + i * 1 + 0) 33794 = true by rw [Nat.blt_eq]; omega])
    exact ⟨v, h1, fun ρ x hx => p0_opv _ _ _ _ (h2 ρ x hx)⟩
  · refine ⟨by simp only; omega, fun i j hi hj => ?_⟩
    have hi : i < 1 := hi
    have hj : j < 5 := hj
    obtain rfl : i = 0 := by omega
    have : j = 0 ∨ j = 1 ∨ j = 2 ∨ j = 3 ∨ j = 4 := by omega
    rcases this with rfl | rfl | rfl | rfl | rfl
    · exact key 33794 (by omega) (by omega) _ (by kernel_rfl)
    · exact key 33795 (by omega) (by omega) _ (by kernel_rfl)
    · exact key 33796 (by omega) (by omega) _ (by kernel_rfl)
    · exact key 33797 (by omega) (by omega) _ (by kernel_rfl)
    · exact key 33798 (by omega) (by omega) _ (by kernel_rfl)
theorem new_con (n : Nat) (h1 : 1 ≤ n) (h2 : n ≤ 512) : Con Tryd.prog 9 [.i .i64 (Int.ofNat n)] [] (.tup [.p 0 0, .i .i64 0]) [.set (SS.new n).o] := by
  have e1 : decide (Int.ofNat n < 1) = false := by simp; omega
  have e2 : decide (512 < Int.ofNat n) = false := by simp; omega
  have h := (new_vc (Int.ofNat n) (fun r _ => r = .rv (.tup [.p 0 0, .i .i64 0]) (newList (mkH []) 77 (newL (Int.ofNat n))))).mpr ⟨fun _ => ⟨by rw [e1]; rfl, e1, fun h => by rw [e2] at h; simp at h, fun _ => rfl⟩, fun h => by rw [e1] at h; simp at h⟩
  obtain ⟨r, o', rfl, hd⟩ := runK_ok Tryd.prog _ _ _ _ h
  refine con_of_call (objs' := [some (SS.new n).o]) hd rfl ?_ _ rfl
  intro A o hA
  rw [mkH_get] at hA
  cases A with
  | succ A => simp at hA
  | zero =>
    have hA' : some (SS.new n).o = some o := hA
    obtain ⟨x, hx, h3, h4⟩ := new_ox n o hA'
    refine ⟨x, ?_, h3, h4⟩
    rw [← hx]
    show ((mkH []).new (cellsO 77 (newL (Int.ofNat n)))).get 0 = _
    rfl
end Go.Proofs.St
