/- Runs over unknown values, told by the kernel: part RcA. -/
import Derived.Test.YtafknnedagolhaaDoorClA
set_option linter.unusedSimpArgs false
set_option linter.unusedVariables false
/- A replica's block: its cells, and whether it is dead. -/
namespace Go.Proofs.Cl
open Go Go.Sim Go.Proofs Go.Proofs.St
noncomputable def z0 {α : Type} (a b : T α) : T α := T.n none a b
noncomputable def z1 {α : Type} (v : α) (a b : T α) : T α := T.n (some v) a b
noncomputable def zl {α : Type} (v : α) : T α := T.n (some v) T.e T.e
noncomputable def rclO (n : Nat) (q : Nat → Nat) (d : Nat → List Nat) (sp : Nat → Nat) (dead rd : Bool) : AObj :=
  .segs 126 772 [⟨1, 1, 1, oneF (.i .i64 (Int.ofNat n))⟩, ⟨2, 3, 256, cellF q d sp⟩, ⟨770, 1, 1, oneF (.b dead)⟩, ⟨771, 1, 1, oneF (.b rd)⟩] [(0, .p 1 0)]
noncomputable def CS.ro (c : CS) (rd : Bool) : AObj := rclO c.n c.q c.d c.sp c.dead rd
end Go.Proofs.Cl
set_option maxRecDepth 20000
namespace Go.Proofs.Cl
open Go Go.Sim Go.Proofs Go.Proofs.Cd Go.Proofs.St Go.Proofs.YtafknnedagolhaaDoor
theorem rhas_vc (n : Nat) (cq : Nat → Nat) (cd : Nat → List Nat) (cs : Nat → Nat) (dd rd : Bool) (ss : SS) (i : Int) (K : Res → Orc → Prop) : runK Tryd.prog 1000000 (.call 48 [.p 0 0, .i .i64 i] (mkH [some (rclO n cq cd cs dd rd), some ss.o])) (Orc.s (Orc.t (Orc.t (Orc.inl (Orc.c (Orc.t (Orc.t Orc.z)))))) (Orc.f (Orc.f (Orc.f (Orc.f Orc.z))))) K = ((decide (0 ≤ i) = true → decide (0 ≤ i) = true ∧ decide (0 ≤ i) = true ∧ True ∧ True ∧ True ∧ decide (0 ≤ i) = true ∧ decide (0 ≤ i) = true ∧ K (Res.rv (AV.b (decide (i < Int.ofNat n))) ⟨z1 (AObj.segs 126 772 [⟨1, 1, 1, oneF (CV.i .i64 (Int.ofNat n))⟩, ⟨2, 3, 256, cellF cq cd cs⟩, ⟨770, 1, 1, oneF (CV.b dd)⟩, ⟨771, 1, 1, oneF (CV.b rd)⟩] [(0, AV.p 1 0)]) (zl (SS.o ss)) T.e, 2, []⟩) Orc.z) ∧ (decide (0 ≤ i) = false → decide (0 ≤ i) = false ∧ decide (0 ≤ i) = false ∧ decide (0 ≤ i) = false ∧ decide (0 ≤ i) = false ∧ K (Res.rv (AV.b false) ⟨z1
  (AObj.segs 126 772 [⟨1, 1, 1, oneF (CV.i .i64 (Int.ofNat n))⟩, ⟨2, 3, 256, cellF cq cd cs⟩, ⟨770, 1, 1, oneF (CV.b dd)⟩, ⟨771, 1, 1, oneF (CV.b rd)⟩] [(0, AV.p 1 0)]) (zl (SS.o ss)) T.e, 2, []⟩) Orc.z)) := by kernel_rfl
theorem rget_vc (n : Nat) (cq : Nat → Nat) (cd : Nat → List Nat) (cs : Nat → Nat) (dd rd : Bool) (ss : SS) (i : Int) (K : Res → Orc → Prop) : runK Tryd.prog 1000000 (.call 20 [.p 0 0, .i .i64 i] (mkH [some (rclO n cq cd cs dd rd), some ss.o])) (Orc.cal [0, 1] (AV.b (decide (0 ≤ i ∧ i < Int.ofNat n))) [Upd.keep, Upd.keep] (Orc.s Orc.z (Orc.s Orc.z Orc.z))) K = (Con Tryd.prog 48 [AV.p 0 0, AV.i .i64 i] [some (rclO n cq cd cs dd rd), some (SS.o ss)] (AV.b (decide (0 ≤ i ∧ i < Int.ofNat n))) [Upd.keep, Upd.keep] ∧ True ∧ ((!decide (0 ≤ i ∧ i < Int.ofNat n)) = true → K (Res.rv (AV.agg [AV.i .i64 0, AV.s []]) ⟨z1 (AObj.segs 126 772 [⟨1, 1, 1, oneF (CV.i .i64 (Int.ofNat n))⟩, ⟨2, 3, 256, cellF cq cd cs⟩, ⟨770, 1, 1, oneF (CV.b dd)⟩, ⟨771, 1, 1, oneF (CV.b rd)⟩] [(0, AV.p 1 0)]) (zl (SS.o ss)) (zl (AObj.cells 45 2 [AV.i .i64 0, AV.s []] (z1 (AV.i .i64 0) (zl (AV.s [])) T.e))), 3, [2, 2]⟩) Orc.z)
  ∧ ((!decide (0 ≤ i ∧ i < Int.ofNat n)) = false → True ∧ (0 ≤ i ∧ i < 256) ∧ True ∧ Int.toNat i < 256 ∧ K (Res.rv (AV.agg [AV.i .i64 (Int.ofNat (cq (Int.toNat i))), AV.s (cd (Int.toNat i))]) ⟨z1 (AObj.segs 126 772 [⟨1, 1, 1, oneF (CV.i .i64 (Int.ofNat n))⟩, ⟨2, 3, 256, cellF cq cd cs⟩, ⟨770, 1, 1, oneF (CV.b dd)⟩, ⟨771, 1, 1, oneF (CV.b rd)⟩] [(0, AV.p 1 0)]) (zl (SS.o ss)) (zl (AObj.cells 45 2 [AV.i .i64 0, AV.s []] (z1 (AV.i .i64 (Int.ofNat (cq (Int.toNat i)))) (zl (AV.s (cd (Int.toNat i)))) T.e))), 3, [2, 2]⟩) Orc.z)) := by kernel_rfl
theorem rput_vc (n : Nat) (cq : Nat → Nat) (cd : Nat → List Nat) (cs : Nat → Nat) (dd rd : Bool) (ss : SS) (i : Int) (d : List Nat) (K : Res → Orc → Prop) : runK Tryd.prog 1000000 (.call 18 [.p 0 0, .i .i64 i, .s d] (mkH [some (rclO n cq cd cs dd rd), some ss.o])) (Orc.c (Orc.s Orc.z (Orc.cal [0, 1] (AV.b (decide (0 ≤ i ∧ i < Int.ofNat n))) [Upd.keep, Upd.keep] (Orc.s (Orc.t (Orc.t (Orc.f (Orc.s Orc.z (Orc.s (Orc.s Orc.z (Orc.inl (Orc.cal [1] (AV.i .i64 (cmE ss (i * 2 + Int.ofNat (cs (Int.toNat i))) (Int.ofNat (cq (Int.toNat i)) + 1) d)) [Upd.set (SS.o (cmS ss (i * 2 + Int.ofNat (cs (Int.toNat i))) (Int.ofNat (cq (Int.toNat i)) + 1) d))] (Orc.s Orc.z (Orc.s Orc.z Orc.z))))) Orc.z))))) (Orc.f (Orc.f (Orc.t (Orc.c Orc.z)))))))) K = (True ∧ True ∧ True ∧ (dd = true → K (Res.rv (AV.i .i64 13) ⟨z1 (AObj.segs 126 772 [⟨1, 1, 1, oneF (CV.i .i64 (Int.ofNat n))⟩, ⟨2, 3, 256, cellF cq cd cs⟩, ⟨770, 1, 1, oneF (CV.b dd)⟩, ⟨771, 1, 1, oneF (CV.b rd)⟩] [(0, AV.p 1 0)]) (zl (SS.o ss)) T.e, 2, []⟩)
 Orc.z) ∧ (dd = false → Con Tryd.prog 48 [AV.p 0 0, AV.i .i64 i] [some (rclO n cq cd cs dd rd), some (SS.o ss)] (AV.b (decide (0 ≤ i ∧ i < Int.ofNat n))) [Upd.keep, Upd.keep] ∧ True ∧ ((!!decide (0 ≤ i ∧ i < Int.ofNat n)) = true → (!!decide (0 ≤ i ∧ i < Int.ofNat n)) = true ∧ (!!decide (0 ≤ i ∧ i < Int.ofNat n)) = true ∧ (!decide (0 ≤ i ∧ i < Int.ofNat n)) = false ∧ (decide (51 < Int.ofNat (List.length d)) = true → K (Res.rv (AV.i .i64 2) ⟨z1 (AObj.segs 126 772 [⟨1, 1, 1, oneF (CV.i .i64 (Int.ofNat n))⟩, ⟨2, 3, 256, cellF cq cd cs⟩, ⟨770, 1, 1, oneF (CV.b dd)⟩, ⟨771, 1, 1, oneF (CV.b rd)⟩] [(0, AV.p 1 0)]) (zl (SS.o ss)) T.e, 2, []⟩) Orc.z) ∧ (decide (51 < Int.ofNat (List.length d)) = false → True ∧ (0 ≤ i ∧ i < 256) ∧ Int.toNat i < 256 ∧ True ∧ True ∧ (decide (1099511627776 ≤ Int.ofNat (cq (Int.toNat i))) = true → K (Res.rv (AV.i .i64 15) ⟨z1 (AObj.segs 126 772 [⟨1, 1, 1, oneF (CV.i .i64 (Int.ofNat n))⟩, ⟨2, 3, 256, cellF cq cd cs⟩, ⟨770, 1, 1, oneF (CV.b dd)⟩, ⟨771, 1, 1, oneF (CV.b rd)⟩] [(0, AV.p 1 0)]) (zl (SS.o ss)) (zl (AObj.cells 91 3 [AV.i .i64 0, AV.s [], AV.i .i64 0] (z1 (AV.i .i64 (Int.ofNat (cq (Int.toNat i)))) (zl (AV.s (cd (Int.toNat i)))) (zl (AV.i .i64 (Int.ofNat (cs (Int.toNat i)))))))), 3, [2, 2]⟩)
 Orc.z) ∧ (decide (1099511627776 ≤ Int.ofNat (cq (Int.toNat i))) = false → True ∧ True ∧ ((-9223372036854775808) ≤ Int.ofNat (cq (Int.toNat i)) + 1 ∧ Int.ofNat (cq (Int.toNat i)) + (1 : Int) ≤ (9223372036854775807 : Int)) ∧ True ∧ True ∧ True ∧ ((-9223372036854775808) ≤ i * 2 ∧ i * (2 : Int) ≤ (9223372036854775807 : Int)) ∧ ((-9223372036854775808) ≤ i * 2 + Int.ofNat (cs (Int.toNat i)) ∧ i * 2 + Int.ofNat (cs (Int.toNat i)) ≤ 9223372036854775807) ∧ Con Tryd.prog 49 [AV.p 0 0, AV.i .i64 (i * 2 + Int.ofNat (cs (Int.toNat i))), AV.agg [AV.i .i64 (Int.ofNat (cq (Int.toNat i)) + 1), AV.s d]] [some (SS.o ss)] (AV.i .i64 (cmE ss (i * 2 + Int.ofNat (cs (Int.toNat i))) (Int.ofNat (cq (Int.toNat i)) + 1) d)) [Upd.set (SS.o (cmS ss (i * 2 + Int.ofNat (cs (Int.toNat i))) (Int.ofNat (cq (Int.toNat i)) + 1) d))] ∧ ((!decide (cmE ss (i * 2 + Int.ofNat (cs (Int.toNat i))) (Int.ofNat (cq (Int.toNat i)) +
 1) d = 0)) = true → True ∧ True ∧ K (Res.rv (AV.i .i64 13) ⟨z1 (AObj.segs 126 772 [⟨1, 1, 1, oneF (CV.i .i64 (Int.ofNat n))⟩, ⟨2, 3, 256, cellF cq cd cs⟩, ⟨770, 1, 1, fun i j => List.getD [CV.b true] (770 - 770 + i * 1 + j) CV.p0⟩, ⟨771, 1, 1, oneF (CV.b rd)⟩] [(0, AV.p 1 0)]) (z1 (SS.o (cmS ss (i * 2 + Int.ofNat (cs (Int.toNat i))) (Int.ofNat (cq (Int.toNat i)) + 1) d)) (zl (AObj.cells 45 2 [AV.i .i64 0, AV.s []] (z1 (AV.i .i64 (Int.ofNat (cq (Int.toNat i)) + 1)) (zl (AV.s d)) T.e))) T.e) (zl (AObj.cells 91 3 [AV.i .i64 0, AV.s [], AV.i .i64 0] (z1 (AV.i .i64 (Int.ofNat (cq (Int.toNat i)))) (zl (AV.s (cd (Int.toNat i)))) (zl (AV.i .i64 (Int.ofNat (cs (Int.toNat i)))))))), 4, [0, 1, 3, 3, 2, 2]⟩) Orc.z) ∧ ((!decide (cmE ss (i * 2 + Int.ofNat (cs (Int.toNat i))) (Int.ofNat (cq (Int.toNat i)) + 1) d = 0)) = false → True ∧ ((-9223372036854775808 : Int) ≤ (1 : Int)
 - Int.ofNat (cs (Int.toNat i)) ∧ 1 - Int.ofNat (cs (Int.toNat i)) ≤ 9223372036854775807) ∧ True ∧ (0 ≤ i ∧ i < 256) ∧ Int.toNat i < 256 ∧ K (Res.rv (AV.i .i64 0) ⟨z1 (AObj.segs 126 772 [⟨1, 1, 1, oneF (CV.i .i64 (Int.ofNat n))⟩, ⟨2, 3, 256, setRow (fun i j => match j with | 0 => CV.i .i64 (Int.ofNat (cq i)) | 1 => CV.s (cd i) | x => CV.i .i64 (Int.ofNat (cs i))) (Int.toNat i) 0 [CV.i .i64 (Int.ofNat (cq (Int.toNat i)) + 1), CV.s d, CV.i .i64 (1 - Int.ofNat (cs (Int.toNat i)))]⟩, ⟨770, 1, 1, oneF (CV.b dd)⟩, ⟨771, 1, 1, oneF (CV.b rd)⟩] [(0, AV.p 1 0)]) (z1 (SS.o (cmS ss (i * 2 + Int.ofNat (cs (Int.toNat i))) (Int.ofNat (cq (Int.toNat i)) + 1) d)) (zl (AObj.cells 45 2 [AV.i .i64 0, AV.s []] (z1 (AV.i .i64 (Int.ofNat (cq (Int.toNat i)) + 1)) (zl (AV.s d)) T.e))) T.e) (zl (AObj.cells 91 3 [AV.i .i64 0, AV.s [], AV.i .i64 0] (z1 (AV.i .i64 (Int.ofNat (cq (Int.toNat i)))) (zl (AV.s (cd (Int.toNat i)))) (zl (AV.i .i64 (Int.ofNat (cs (Int.toNat i)))))))), 4, [0, 1, 3, 3, 2, 2]⟩)
 Orc.z)))) ∧ ((!!decide (0 ≤ i ∧ i < Int.ofNat n)) = false → (!!decide (0 ≤ i ∧ i < Int.ofNat n)) = false ∧ (!!decide (0 ≤ i ∧ i < Int.ofNat n)) = false ∧ (!decide (0 ≤ i ∧ i < Int.ofNat n)) = true ∧ K (Res.rv (AV.i .i64 2) ⟨z1 (AObj.segs 126 772 [⟨1, 1, 1, oneF (CV.i .i64 (Int.ofNat n))⟩, ⟨2, 3, 256, cellF cq cd cs⟩, ⟨770, 1, 1, oneF (CV.b dd)⟩, ⟨771, 1, 1, oneF (CV.b rd)⟩] [(0, AV.p 1 0)]) (zl (SS.o ss)) T.e, 2, []⟩) Orc.z))) := by kernel_rfl
theorem rhas_con (c : CS) (rd : Bool) (s : SS) (i : Int) : Con Tryd.prog 48 [.p 0 0, .i .i64 i] [some (c.ro rd), some s.o] (.b (decide (0 ≤ i ∧ i < Int.ofNat c.n))) [.keep, .keep] := by
  refine con_of_run [] [] ((rhas_vc c.n c.q c.d c.sp c.dead rd s i _).mpr ⟨fun h => ?_, fun h => ?_⟩)
  · have h' : 0 ≤ i := of_decide_eq_true h
    have e : decide (0 ≤ i ∧ i < Int.ofNat c.n) = decide (i < Int.ofNat c.n) := by simp [h']
    rw [e]
    exact ⟨h, h, trivial, trivial, trivial, h, h, _, _, rfl, ret_k (by kernel_rfl)⟩
  · have h' : ¬ 0 ≤ i := of_decide_eq_false h
    have e : decide (0 ≤ i ∧ i < Int.ofNat c.n) = false := by simp [h']
    rw [e]
    exact ⟨h, h, h, h, _, _, rfl, ret_k (by kernel_rfl)⟩
theorem rget_con (c : CS) (rd : Bool) (s : SS) (i : Int) (hn : c.n ≤ 256) : Con Tryd.prog 20 [.p 0 0, .i .i64 i] [some (c.ro rd), some s.o] (.agg [.i .i64 (Int.ofNat (c.getQ i)), .s (c.getD i)]) [.keep, .keep] := by
  cases hd : decide (0 ≤ i ∧ i < Int.ofNat c.n) with
  | true =>
    have h := of_decide_eq_true hd
    have h2 : i < 256 := by have := h.2; simp at this; omega
    have e1 : c.getQ i = c.q i.toNat := by unfold CS.getQ; rw [hd]
    have e2 : c.getD i = c.d i.toNat := by unfold CS.getD; rw [hd]
    rw [e1, e2]
    refine con_of_run [] [] ((rget_vc c.n c.q c.d c.sp c.dead rd s i _).mpr ⟨rhas_con c rd s i, trivial, fun h' => (by rw [hd] at h'; cases h'), fun _ => ?_⟩)
    repeat' first | exact trivial | exact h.1 | exact h2 | (omega; done) | refine And.intro ?_ ?_ | exact ⟨_, _, rfl, ret_k (by kernel_rfl)⟩
  | false =>
    have e1 : c.getQ i = 0 := by unfold CS.getQ; rw [hd]
    have e2 : c.getD i = [] := by unfold CS.getD; rw [hd]
    rw [e1, e2]
    exact con_of_run [] [] ((rget_vc c.n c.q c.d c.sp c.dead rd s i _).mpr ⟨rhas_con c rd s i, trivial, fun _ => ⟨_, _, rfl, ret_k (by kernel_rfl)⟩, fun h' => (by rw [hd] at h'; cases h')⟩)
theorem rput_con (c : CS) (rd : Bool) (s : SS) (i : Int) (x : List Nat) (m : Nat) (hc : c.n ≤ 256) (hs : 2 * c.n ≤ s.n) (hp : ∀ k, c.sp k ≤ 1) (ok : OkM s m) (hm : m < 1073741823) (hx : ∀ b ∈ x, b < 256) :
    Con Tryd.prog 18 [.p 0 0, .i .i64 i, .s x] [some (c.ro rd), some s.o] (.i .i64 (c.putE s i x)) [.set ((c.putC s i x).ro rd), .set (c.putS s i x).o] := by
  have no : ∀ e : Int, e ≠ 0 → c.no i x = e → Con Tryd.prog 18 [.p 0 0, .i .i64 i, .s x] [some (c.ro rd), some s.o] (.i .i64 e) [.keep, .keep] →
      Con Tryd.prog 18 [.p 0 0, .i .i64 i, .s x] [some (c.ro rd), some s.o] (.i .i64 (c.putE s i x)) [.set ((c.putC s i x).ro rd), .set (c.putS s i x).o] := by
    intro e he hE h
    have d : decide (c.no i x = 0) = false := decide_eq_false (by rw [hE]; exact he)
    have e1 : c.putE s i x = e := by unfold CS.putE; rw [d]; exact hE
    have e2 : c.putC s i x = c := by unfold CS.putC; rw [d]
    have e3 : c.putS s i x = s := by unfold CS.putS; rw [d]
    rw [e1, e2, e3]
    exact h.oeq (OEqL.refl _) (OEqL.refl _)
  cases hdd : c.dead with
  | true =>
    refine no 13 (by decide) (by unfold CS.no; rw [hdd]) (con_of_run [] [] ((rput_vc c.n c.q c.d c.sp c.dead rd s i x _).mpr ⟨trivial, trivial, trivial, fun _ => ?_, fun h => (by rw [hdd] at h; cases h)⟩))
    exact ⟨_, _, rfl, ret_k (by kernel_rfl)⟩
  | false =>
    cases hd : decide (0 ≤ i ∧ i < Int.ofNat c.n) with
    | false =>
      refine no 2 (by decide) (by unfold CS.no; rw [hdd, hd]) (con_of_run [] [] ((rput_vc c.n c.q c.d c.sp c.dead rd s i x _).mpr ⟨trivial, trivial, trivial, fun h => (by rw [hdd] at h; cases h), fun _ => ⟨rhas_con c rd s i, trivial, fun h => (by rw [hd] at h; cases h), fun h => ⟨h, h, by rw [hd]; rfl, ?_⟩⟩⟩))
      exact ⟨_, _, rfl, ret_k (by kernel_rfl)⟩
    | true =>
      have hi := of_decide_eq_true hd
      have hi2 : i < 256 := by have := hi.2; simp at this; omega
      have hi3 : i.toNat < c.n := by have := hi.2; simp at this; omega
      cases h51 : decide ((51 : Int) < Int.ofNat x.length) with
      | true =>
        refine no 2 (by decide) (by unfold CS.no; rw [hdd, hd, h51]) (con_of_run [] [] ((rput_vc c.n c.q c.d c.sp c.dead rd s i x _).mpr ⟨trivial, trivial, trivial, fun h => (by rw [hdd] at h; cases h), fun _ => ⟨rhas_con c rd s i, trivial, fun h => ⟨h, h, by rw [hd]; rfl, fun _ => ?_, fun h => (by rw [h51] at h; cases h)⟩, fun h => (by rw [hd] at h; cases h)⟩⟩))
        exact ⟨_, _, rfl, ret_k (by kernel_rfl)⟩
      | false =>
        have hl : x.length ≤ 51 := by have := of_decide_eq_false h51; simp at this; omega
        cases hw : decide ((1099511627776 : Int) ≤ Int.ofNat (c.q i.toNat)) with
        | true =>
          refine no 15 (by decide) (by unfold CS.no; rw [hdd, hd, h51, hw]) (con_of_run [] [] ((rput_vc c.n c.q c.d c.sp c.dead rd s i x _).mpr ⟨trivial, trivial, trivial, fun h => (by rw [hdd] at h; cases h), fun _ => ⟨rhas_con c rd s i, trivial, fun h => ⟨h, h, by rw [hd]; rfl, fun h => (by rw [h51] at h; cases h), fun _ => ⟨trivial, ⟨hi.1, hi2⟩, by omega, trivial, trivial, fun _ => ?_, fun h => (by rw [hw] at h; cases h)⟩⟩, fun h => (by rw [hd] at h; cases h)⟩⟩))
          exact ⟨_, _, rfl, ret_k (by kernel_rfl)⟩
        | false =>
          have hq : c.q i.toNat < 1099511627776 := by have := of_decide_eq_false hw; simp at this; omega
          have hno : c.no i x = 0 := by unfold CS.no; rw [hdd, hd, h51, hw]
          have dno : decide (c.no i x = 0) = true := decide_eq_true hno
          have hsp := hp i.toNat
          have e3 : c.putS s i x = cmS s (i * 2 + Int.ofNat (c.sp i.toNat)) (Int.ofNat (c.q i.toNat) + 1) x := by unfold CS.putS; rw [dno]; exact Eq.refl _
          have ei : i * 2 + Int.ofNat (c.sp i.toNat) = Int.ofNat (i.toNat * 2 + c.sp i.toNat) := by simp; omega
          have eq : Int.ofNat (c.q i.toNat) + 1 = Int.ofNat (c.q i.toNat + 1) := by simp
          have k := commit_con s (i.toNat * 2 + c.sp i.toNat) (c.q i.toNat + 1) m x ok hm (by omega) hx hl
          rw [← ei, ← eq] at k
          have bq : (-9223372036854775808 : Int) ≤ Int.ofNat (c.q i.toNat) + 1 ∧ Int.ofNat (c.q i.toNat) + 1 ≤ 9223372036854775807 := by simp <;> omega
          have bi : (-9223372036854775808 : Int) ≤ i * 2 + Int.ofNat (c.sp i.toNat) ∧ i * 2 + Int.ofNat (c.sp i.toNat) ≤ 9223372036854775807 := by rw [ei]; simp <;> omega
          cases hE : decide (cmE s (i * 2 + Int.ofNat (c.sp i.toNat)) (Int.ofNat (c.q i.toNat) + 1) x = 0) with
          | true =>
            have e1 : c.putE s i x = 0 := by unfold CS.putE; rw [dno]; show (match decide (cmE s (i * 2 + Int.ofNat (c.sp i.toNat)) (Int.ofNat (c.q i.toNat) + 1) x = 0) with | true => (0 : Int) | false => 13) = 0; rw [hE]
            have e2 : c.putC s i x = c.upd i.toNat (c.q i.toNat + 1) x (1 - c.sp i.toNat) := by unfold CS.putC; rw [dno]; show (match decide (cmE s (i * 2 + Int.ofNat (c.sp i.toNat)) (Int.ofNat (c.q i.toNat) + 1) x = 0) with | true => c.upd i.toNat (c.q i.toNat + 1) x (1 - c.sp i.toNat) | false => { c with dead := true }) = _; rw [hE]
            rw [e1, e2, e3]
            have es : (1 : Int) - Int.ofNat (c.sp i.toNat) = Int.ofNat (1 - c.sp i.toNat) := by simp; omega
            refine Con.post (us := [.set (.segs 126 772 [⟨1, 1, 1, oneF (.i .i64 (Int.ofNat c.n))⟩, ⟨2, 3, 256, setRow (cellF c.q c.d c.sp) i.toNat 0 [.i .i64 (Int.ofNat (c.q i.toNat) + 1), .s x, .i .i64 ((1 : Int) - Int.ofNat (c.sp i.toNat))]⟩, ⟨770, 1, 1, oneF (.b c.dead)⟩, ⟨771, 1, 1, oneF (.b rd)⟩] [(0, .p 1 0)]), .set (cmS s (i * 2 + Int.ofNat (c.sp i.toNat)) (Int.ofNat (c.q i.toNat) + 1) x).o])
              (con_of_run [] [] ((rput_vc c.n c.q c.d c.sp c.dead rd s i x _).mpr ⟨trivial, trivial, trivial, fun h => (by rw [hdd] at h; cases h), fun _ => ⟨rhas_con c rd s i, trivial, fun h => ⟨h, h, by rw [hd]; rfl, fun h => (by rw [h51] at h; cases h), fun _ => ⟨trivial, ⟨hi.1, hi2⟩, by omega, trivial, trivial, fun h => (by rw [hw] at h; cases h),
                fun _ => ⟨trivial, trivial, bq, trivial, trivial, trivial, by omega, bi, k, fun h => (by rw [hE] at h; cases h), fun _ => ⟨trivial, by rw [es]; simp <;> omega, trivial, ⟨hi.1, hi2⟩, by omega, ?_⟩⟩⟩⟩, fun h => (by rw [hd] at h; cases h)⟩⟩))
              (.refl _) ⟨.segsW ⟨.refl _, ⟨rfl, rfl, rfl, fun a b ha hb => ?_⟩, .refl _, .refl _, trivial⟩, .refl _, trivial⟩
            · exact ⟨_, _, rfl, ret_k (by kernel_rfl)⟩
            · refine (setRow3 a b hb).trans (.of ?_)
              rw [es, eq]
              show (bif Nat.beq a i.toNat then _ else cellF c.q c.d c.sp a b) = cellF (fun j => bif Nat.beq j i.toNat then c.q i.toNat + 1 else c.q j) (fun j => bif Nat.beq j i.toNat then x else c.d j) (fun j => bif Nat.beq j i.toNat then 1 - c.sp i.toNat else c.sp j) a b
              have hb : b < 3 := hb
              have : b = 0 ∨ b = 1 ∨ b = 2 := by omega
              rcases this with rfl | rfl | rfl <;> simp only [cellF] <;> cases Nat.beq a i.toNat <;> exact Eq.refl _
          | false =>
            have e1 : c.putE s i x = 13 := by unfold CS.putE; rw [dno]; show (match decide (cmE s (i * 2 + Int.ofNat (c.sp i.toNat)) (Int.ofNat (c.q i.toNat) + 1) x = 0) with | true => (0 : Int) | false => 13) = 13; rw [hE]
            have e2 : c.putC s i x = { c with dead := true } := by unfold CS.putC; rw [dno]; show (match decide (cmE s (i * 2 + Int.ofNat (c.sp i.toNat)) (Int.ofNat (c.q i.toNat) + 1) x = 0) with | true => c.upd i.toNat (c.q i.toNat + 1) x (1 - c.sp i.toNat) | false => { c with dead := true }) = _; rw [hE]
            rw [e1, e2, e3]
            refine Con.post (us := [.set (.segs 126 772 [⟨1, 1, 1, oneF (.i .i64 (Int.ofNat c.n))⟩, ⟨2, 3, 256, cellF c.q c.d c.sp⟩, ⟨770, 1, 1, fun a b => [CV.b true].getD (770 - 770 + a * 1 + b) .p0⟩, ⟨771, 1, 1, oneF (.b rd)⟩] [(0, .p 1 0)]), .set (cmS s (i * 2 + Int.ofNat (c.sp i.toNat)) (Int.ofNat (c.q i.toNat) + 1) x).o])
              (con_of_run [] [] ((rput_vc c.n c.q c.d c.sp c.dead rd s i x _).mpr ⟨trivial, trivial, trivial, fun h => (by rw [hdd] at h; cases h), fun _ => ⟨rhas_con c rd s i, trivial, fun h => ⟨h, h, by rw [hd]; rfl, fun h => (by rw [h51] at h; cases h), fun _ => ⟨trivial, ⟨hi.1, hi2⟩, by omega, trivial, trivial, fun h => (by rw [hw] at h; cases h),
              fun _ => ⟨trivial, trivial, bq, trivial, trivial, trivial, by omega, bi, k, fun _ => ⟨trivial, trivial, ?_⟩, fun h => (by rw [hE] at h; cases h)⟩⟩⟩, fun h => (by rw [hd] at h; cases h)⟩⟩))
              (.refl _) ⟨.segsW ⟨.refl _, .refl _, ⟨rfl, rfl, rfl, fun a b ha hb => ?_⟩, .refl _, trivial⟩, .refl _, trivial⟩
            rotate_left
            · have ha : a = 0 := by have : a < 1 := ha; omega
              have hb : b = 0 := by have : b < 1 := hb; omega
              subst ha; subst hb; exact .refl _
            exact ⟨_, _, rfl, ret_k (by kernel_rfl)⟩
theorem segAll_at (l : List Seg) (qs : List (Nat × AV)) : ∀ (m o : Nat) (r : List AV), segAll l qs m o = some r → r.length = m ∧ ∀ j, j < m → ∃ x, r[j]? = some x ∧ segOne (o + j) l qs = some x
  | 0, o, r, h => by
    have h' : some ([] : List AV) = some r := h
    simp only [Option.some.injEq] at h'
    subst h'
    exact ⟨rfl, fun j hj => by omega⟩
  | m + 1, o, r, h => by
    rw [segAll_s] at h
    simp only [ob_some, Option.some.injEq] at h
    obtain ⟨v, hv, r', hr, rfl⟩ := h
    obtain ⟨e1, e2⟩ := segAll_at l qs m (o + 1) r' hr
    refine ⟨by simp [e1], fun j hj => ?_⟩
    cases j with
    | zero => exact ⟨v, rfl, hv⟩
    | succ j =>
      obtain ⟨x, a, b⟩ := e2 j (by omega)
      exact ⟨x, by simpa using a, by rw [← b]; congr 1; omega⟩
noncomputable def caSegs (c : CS) : List Seg := [⟨1, 1, 1, oneF (.i .i64 (Int.ofNat c.n))⟩, ⟨2, 3, 256, cellF c.q c.d c.sp⟩, ⟨770, 1, 1, oneF (.b c.dead)⟩]
noncomputable def ropA (c : CS) : List AV := (segAll (caSegs c) [(0, .p 0 0)] 771 0).getD []
noncomputable def ropL (c : CS) : List AV := ropA c ++ [.b false]
theorem ropA_some (c : CS) : segAll (caSegs c) [(0, .p 0 0)] 771 0 = some (ropA c) := by
  have h : (segAll (caSegs c) [(0, .p 0 0)] 771 0).isSome = true := by kernel_rfl
  unfold ropA
  cases hh : segAll (caSegs c) [(0, .p 0 0)] 771 0 with
  | none => rw [hh] at h; cases h
  | some r => rfl
theorem ropL_len (c : CS) : (ropL c).length = 772 := by
  unfold ropL
  rw [List.length_append, (segAll_at _ _ _ _ _ (ropA_some c)).1]; rfl
theorem ropL_at (c : CS) (j : Nat) (h : j < 771) {x : AV} (hx : segOne j (caSegs c) [(0, .p 0 0)] = some x) : (ropL c)[j]? = some x := by
  obtain ⟨e1, e2⟩ := segAll_at _ _ _ _ _ (ropA_some c)
  obtain ⟨y, a, b⟩ := e2 j h
  rw [Nat.zero_add, hx] at b
  cases b
  unfold ropL
  rw [List.getElem?_append_left (by omega)]; exact a
theorem ropL_last (c : CS) : (ropL c)[771]? = some (.b false) := by
  obtain ⟨e1, _⟩ := segAll_at _ _ _ _ _ (ropA_some c)
  unfold ropL
  rw [List.getElem?_append_right (by omega), e1]; rfl
set_option maxRecDepth 100000 in
theorem ropen_vc (s : SS) (K : Res → Orc → Prop) : runK Tryd.prog 1000000 (.call 33 [.p 0 0] (mkH [some s.o])) (Orc.cal [(0 : Nat)] (AV.tup [AV.p (1 : Nat) (0 : Nat), AV.i .i64 0]) [Upd.keep, Upd.set (CS.oa (opened s (129 : Nat)))] (oc 2 Orc.z)) K = (Con Tryd.prog 10 [AV.p 0 0, AV.i .i64 129] [some (SS.o s)] (AV.tup [AV.p 1 0, AV.i .i64 0]) [Upd.keep, Upd.set (CS.oa (opened s (129 : Nat)))] ∧ True ∧ K (Res.rv (AV.tup [AV.p 2 0, AV.i .i64 0]) (newList (embH [0] (mkH [some s.o]) [Upd.keep, Upd.set (CS.oa (opened s 129))]) 126 (ropL (opened s 129)))) Orc.z) := by kernel_rfl
noncomputable def CS.roa (c : CS) (rd : Bool) : AObj :=
  .segs 126 772 [⟨1, 1, 1, oneF (.i .i64 (Int.ofNat c.n))⟩, ⟨2, 3, 256, cellF c.q c.d c.sp⟩, ⟨770, 1, 1, oneF (.b c.dead)⟩, ⟨771, 1, 1, oneF (.b rd)⟩] [(0, .p 0 0)]
theorem rop_ox (c : CS) : OX (some (cellsO 126 (ropL c))) (some (c.roa false)) := by
  have hl := ropL_len c
  have at_ : ∀ p v, p < 772 → (ropL c)[p]? = some v → cellAt 772 [] (setAll .e 0 (ropL c)) p = some v := by
    intro p v hp h
    rw [← hl, cellsD_at (by omega)]; exact h
  unfold cellsO
  rw [hl]
  refine .cellsSegs (fun g hg => ?_) (fun y hy => ?_)
  · simp only [List.mem_cons, List.mem_nil_iff, or_false] at hg
    rcases hg with rfl | rfl | rfl | rfl
    · refine ⟨by simp only; omega, fun i j hi hj => ?_⟩
      have hi : i < 1 := hi
      have hj : j < 1 := hj
      obtain rfl : i = 0 := by omega
      obtain rfl : j = 0 := by omega
      exact ⟨.i .i64 (Int.ofNat c.n), at_ 1 _ (by omega) (ropL_at c 1 (by omega) rfl), fun ρ x hx => by cases hx; exact .i _ _⟩
    · refine ⟨by simp only; omega, fun i j hi hj => ?_⟩
      have hi : i < 256 := hi
      have hj : j < 3 := hj
      refine ⟨toAV (cellF c.q c.d c.sp i j), ?_, ?_⟩
      · show cellAt 772 [] (setAll .e 0 (ropL c)) (2 + i * 3 + j) = _
        refine at_ _ _ (by omega) (ropL_at c _ (by omega) ?_)
        unfold segOne
        have e0 : psGet (2 + i * 3 + j) [((0 : Nat), AV.p 0 0)] = none := by
          show (match Nat.beq 0 (2 + i * 3 + j) with | true => some (AV.p 0 0) | false => none) = none
          rw [show Nat.beq 0 (2 + i * 3 + j) = false by rw [Bool.eq_false_iff, ne_eq, Nat.beq_eq]; omega]
        rw [e0]
        have e1 : segP (2 + i * 3 + j) 1 (caSegs c) = some [toAV (cellF c.q c.d c.sp i j)] := by
          unfold caSegs
          rw [segP]
          rw [show (Nat.ble 1 (2 + i * 3 + j) && Nat.blt (2 + i * 3 + j - 1) (1 * 1)) = false by
            rw [show Nat.blt (2 + i * 3 + j - 1) (1 * 1) = false by rw [Bool.eq_false_iff, ne_eq, Nat.blt_eq]; omega, Bool.and_false]]
          show segP (2 + i * 3 + j) 1 [⟨2, 3, 256, cellF c.q c.d c.sp⟩, ⟨770, 1, 1, oneF (.b c.dead)⟩] = _
          rw [segP]
          rw [show (Nat.ble 2 (2 + i * 3 + j) && Nat.blt (2 + i * 3 + j - 2) (256 * 3)) = true by
            rw [Bool.and_eq_true, Nat.ble_eq, Nat.blt_eq]; omega]
          have d1 : (2 + i * 3 + j - 2) % 3 = j := by omega
          have d2 : (2 + i * 3 + j - 2) / 3 = i := by omega
          show og (Nat.ble ((2 + i * 3 + j - 2) % 3 + 1) 3) (some (cvL (cellF c.q c.d c.sp ((2 + i * 3 + j - 2) / 3)) ((2 + i * 3 + j - 2) % 3) 1)) = _
          rw [d1, d2, Nat.ble_eq_true_of_le (show j + 1 ≤ 3 by omega)]; rfl
        rw [e1]; rfl
      · have : j = 0 ∨ j = 1 ∨ j = 2 := by omega
        rcases this with rfl | rfl | rfl
        · intro ρ x hx
          have hx : VR ρ (.i .i64 (Int.ofNat (c.q i))) x := hx
          cases hx; exact .i _ _
        · intro ρ x hx
          have hx : VR ρ (.s (c.d i)) x := hx
          cases hx with | s _ _ e => exact .s _ _ e
        · intro ρ x hx
          have hx : VR ρ (.i .i64 (Int.ofNat (c.sp i))) x := hx
          cases hx; exact .i _ _
    · refine ⟨by simp only; omega, fun i j hi hj => ?_⟩
      have hi : i < 1 := hi
      have hj : j < 1 := hj
      obtain rfl : i = 0 := by omega
      obtain rfl : j = 0 := by omega
      exact ⟨.b c.dead, at_ 770 _ (by omega) (ropL_at c 770 (by omega) rfl), fun ρ x hx => by cases hx; exact .b _⟩
    · refine ⟨by simp only; omega, fun i j hi hj => ?_⟩
      have hi : i < 1 := hi
      have hj : j < 1 := hj
      obtain rfl : i = 0 := by omega
      obtain rfl : j = 0 := by omega
      exact ⟨.b false, at_ 771 _ (by omega) (ropL_last c), fun ρ x hx => by cases hx; exact .b _⟩
  · simp only [List.mem_cons, List.mem_nil_iff, or_false] at hy
    subst hy
    exact at_ 0 _ (by omega) (ropL_at c 0 (by omega) rfl)
set_option maxRecDepth 100000 in
theorem ropen_con (s : SS) (h3 : 258 ≤ s.n) (hs : s.n ≤ 512) (ho : s.off = false) (hb : Byt s) : Con Tryd.prog 33 [.p 0 0] [some s.o] (.tup [.p 1 0, .i .i64 0]) [.keep, .set ((opened s 129).roa false)] := by
  have k := open_con s 129 (by decide) (by decide) (by omega) hs ho hb
  refine Con.post (us := [.keep, .set (cellsO 126 (ropL (opened s 129)))]) (con_of_run [] [2] ((ropen_vc s _).mpr ⟨k, trivial, _, _, rfl, ?_⟩)) (.refl _) ⟨.refl _, .x (rop_ox _), trivial⟩
  exact ret_k (by kernel_rfl)
noncomputable def putE (c : CS) (s : SS) (i : Int) (x : List Nat) : Int := c.putE s i x
noncomputable def putC (c : CS) (s : SS) (i : Int) (x : List Nat) : CS := c.putC s i x
noncomputable def putS (c : CS) (s : SS) (i : Int) (x : List Nat) : SS := c.putS s i x
theorem rp_vc (c : CS) (rd : Bool) (s : SS) (i : Int) (x : List Nat) (K : Res → Orc → Prop) : runK Tryd.prog 1000000 (.call 59 [.p 0 0, .i .i64 i, .s x] (mkH [some (c.ro rd), some s.o])) (Orc.cal [0, 1] (AV.i .i64 (putE c s i x)) [Upd.set (CS.ro (putC c s i x) rd), Upd.set (SS.o (putS c s i x))] Orc.z) K = (True ∧ Con Tryd.prog 18 [AV.p 0 0, AV.i .i64 i, AV.s x] [some (CS.ro c rd), some (SS.o s)] (AV.i .i64 (putE c s i x)) [Upd.set (CS.ro (putC c s i x) rd), Upd.set (SS.o (putS c s i x))] ∧ True ∧ True ∧ K (Res.rv (AV.i .i64 (putE c s i x)) ⟨z1 (AObj.segs 126 772 [⟨1, 1, 1, oneF (CV.i .i64 (Int.ofNat (CS.n (putC c s i x))))⟩, ⟨2, 3, 256, cellF (CS.q (putC c s i x)) (CS.d (putC c s i x)) (CS.sp (putC c s i x))⟩, ⟨770, 1, 1, oneF (CV.b (CS.dead (putC c s i x)))⟩, ⟨771, 1, 1, fun i_1 j => List.getD [CV.b (decide (putE c s i x = 13))] (771 - 771 + i_1 * 1 + j) CV.p0⟩] [(0, AV.p 1 0)]) (zl
  (SS.o (putS c s i x))) T.e, 2, [0, 1, 0]⟩) Orc.z) := by kernel_rfl
theorem rp_con {c : CS} {s : SS} {m : Nat} (h : Inv c s m) (hm : m < 1073741823) (rd : Bool) (i : Int) (x : List Nat) (hx : ∀ b ∈ x, b < 256) :
    Con Tryd.prog 59 [.p 0 0, .i .i64 i, .s x] [some (c.ro rd), some s.o] (.i .i64 (c.putE s i x)) [.set ((c.putC s i x).ro (decide (c.putE s i x = 13))), .set (c.putS s i x).o] := by
  have k := rput_con c rd s i x m h.hc h.hs h.sp h.ok hm hx
  refine Con.post (us := [.set (.segs 126 772 [⟨1, 1, 1, oneF (.i .i64 (Int.ofNat (c.putC s i x).n))⟩, ⟨2, 3, 256, cellF (c.putC s i x).q (c.putC s i x).d (c.putC s i x).sp⟩, ⟨770, 1, 1, oneF (.b (c.putC s i x).dead)⟩,
      ⟨771, 1, 1, fun a b => [CV.b (decide (c.putE s i x = (13 : Int)))].getD (771 - 771 + a * 1 + b) .p0⟩] [(0, .p 1 0)]), .set (c.putS s i x).o]) (con_of_run [] [] ((rp_vc c rd s i x _).mpr ⟨trivial, k, trivial, trivial, _, _, rfl, ?_⟩)) (.refl _)
    ⟨.segsW ⟨.refl _, .refl _, .refl _, ⟨rfl, rfl, rfl, fun a b ha hb => ?_⟩, trivial⟩, .refl _, trivial⟩
  · exact ret_k (by kernel_rfl)
  · have ha : a < 1 := ha
    have hb : b < 1 := hb
    obtain rfl : a = 0 := by omega
    obtain rfl : b = 0 := by omega
    exact .of (Eq.refl _)
noncomputable def nw0 : SS := SS.new 258
noncomputable def nk0 : CS := opened nw0 129
noncomputable def nk1 : CS := nk0.putC nw0 3 [1, 97]
noncomputable def nw1 : SS := nk0.putS nw0 3 [1, 97]
noncomputable def nk2 : CS := nk1.putC nw1 3 [5, 98]
noncomputable def nw2 : SS := nk1.putS nw1 3 [5, 98]
noncomputable def nk3 : CS := nk2.putC nw2 128 [0, 0, 2, 0, 0]
noncomputable def nw3 : SS := nk2.putS nw2 128 [0, 0, 2, 0, 0]
noncomputable def nk4 : CS := nk3.putC nw3 3 [6, 99]
noncomputable def nw4 : SS := nk3.putS nw3 3 [6, 99]
noncomputable def nk5 : CS := nk4.putC nw4 3 [2, 122]
noncomputable def nw5 : SS := nk4.putS nw4 3 [2, 122]
noncomputable def nk6 : CS := nk5.putC nw5 128 [3, 0, 2, 0, 0]
noncomputable def nw6 : SS := nk5.putS nw5 128 [3, 0, 2, 0, 0]
noncomputable def nk7 : CS := nk6.putC nw6 128 [3, 3, 2, 0, 0]
noncomputable def nw7 : SS := nk6.putS nw6 128 [3, 3, 2, 0, 0]
end Go.Proofs.Cl
