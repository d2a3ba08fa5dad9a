/- Runs over unknown values, told by the kernel: part RmA. -/
import Derived.Test.YtafknnedagolhaaDoorCnA
set_option linter.unusedSimpArgs false
set_option linter.unusedVariables false
namespace Go.Proofs.Cl
open Go Go.Sim Go.Proofs Go.Proofs.Cd Go.Proofs.St
noncomputable def gtQ (c : CS) (i : Int) : Nat := c.getQ i
noncomputable def gtD (c : CS) (i : Int) : List Nat := c.getD i
noncomputable def bQ (c : CS) (b : Int) : Nat := bif decide (0 ≤ b ∧ b < 128) then blkQ (c.getD b) else 0
noncomputable def bD (c : CS) (b : Int) : List Nat := bif decide (0 ≤ b ∧ b < 128) then blkD (c.getD b) else []
noncomputable def mV (c : CS) (j : Nat) : Nat := mtV (c.getD 128) j
end Go.Proofs.Cl
set_option maxRecDepth 20000
namespace Go.Proofs.Cl
open Go Go.Sim Go.Proofs Go.Proofs.Cd Go.Proofs.St Go.Proofs.YtafknnedagolhaaDoor
theorem Block_vc (c : CS) (rd : Bool) (s : SS) (b : Int) (K : Res → Orc → Prop) : runK Tryd.prog 1000000 (.call 34 [.p 0 0, .i .i64 b] (mkH [some (c.ro rd), some s.o])) (oc 2 (Orc.inl (Orc.inl (Orc.s (Orc.t (Orc.t (Orc.t (oc 2 (Orc.s Orc.z (Orc.cal [0, 1] (AV.agg [AV.i .i64 (Int.ofNat (gtQ c b)), AV.s (gtD c b)]) [Upd.keep, Upd.keep] (Orc.cal [] (AV.agg [AV.i .i64 (Int.ofNat (blkQ (gtD c b))), AV.s (blkD (gtD c b))]) [] Orc.z))))))) (Orc.f (Orc.f (Orc.f (oc 3 Orc.z)))))))) K = (True ∧ (decide (0 ≤ b) = true → decide (0 ≤ b) = true ∧ decide (0 ≤ b) = true ∧ decide (0 ≤ b) = true ∧ True ∧ ((!decide (b ≤ 127)) = true → K (Res.rv (AV.agg [AV.i .i64 0, AV.s []]) ⟨z1 (CS.ro c rd) (zl (SS.o s)) (zl (AObj.cells 45 2 [AV.i .i64 0, AV.s []] (z1 (AV.i .i64 0) (zl (AV.s [])) T.e))), 3, [2, 2]⟩) Orc.z) ∧ ((!decide (b ≤ 127)) = false → True ∧ Con Tryd.prog 20 [AV.p 0 0, AV.i .i64 b] [some (CS.ro c
  rd), some (SS.o s)] (AV.agg [AV.i .i64 (Int.ofNat (gtQ c b)), AV.s (gtD c b)]) [Upd.keep, Upd.keep] ∧ Con Tryd.prog 67 [AV.s (gtD c b)] [] (AV.agg [AV.i .i64 (Int.ofNat (blkQ (gtD c b))), AV.s (blkD (gtD c b))]) [] ∧ K (Res.rv (AV.agg [AV.i .i64 (Int.ofNat (blkQ (gtD c b))), AV.s (blkD (gtD c b))]) ⟨z1 (CS.ro c rd) (zl (SS.o s)) (zl (AObj.cells 45 2 [AV.i .i64 0, AV.s []] (z1 (AV.i .i64 (Int.ofNat (blkQ (gtD c b)))) (zl (AV.s (blkD (gtD c b)))) T.e))), 3, [2, 2]⟩) Orc.z)) ∧ (decide (0 ≤ b) = false → decide (0 ≤ b) = false ∧ decide (0 ≤ b) = false ∧ decide (0 ≤ b) = false ∧ True ∧ K (Res.rv (AV.agg [AV.i .i64 0, AV.s []]) ⟨z1 (CS.ro c rd) (zl (SS.o s)) (zl (AObj.cells 45 2 [AV.i .i64 0, AV.s []] (z1 (AV.i .i64 0) (zl (AV.s [])) T.e))), 3, [2, 2]⟩) Orc.z)) := by kernel_rfl
theorem Meta_vc (c : CS) (rd : Bool) (s : SS) (K : Res → Orc → Prop) : runK Tryd.prog 1000000 (.call 36 [.p 0 0] (mkH [some (c.ro rd), some s.o])) (Orc.c (Orc.cal [0, 1] (AV.agg [AV.i .i64 (Int.ofNat (gtQ c 128)), AV.s (gtD c 128)]) [Upd.keep, Upd.keep] (Orc.cal [] (AV.agg [AV.i .i64 (Int.ofNat (mtV (gtD c 128) 0)), AV.i .i64 (Int.ofNat (mtV (gtD c 128) 1)), AV.i .i64 (Int.ofNat (mtV (gtD c 128) 2)), AV.i .i64 (Int.ofNat (mtV (gtD c 128) 3)), AV.i .i64 (Int.ofNat (mtV (gtD c 128) 4))]) [] Orc.z))) K = (True ∧ True ∧ Con Tryd.prog 20 [AV.p 0 0, AV.i .i64 128] [some (CS.ro c rd), some (SS.o s)] (AV.agg [AV.i .i64 (Int.ofNat (gtQ c 128)), AV.s (gtD c 128)]) [Upd.keep, Upd.keep] ∧ Con Tryd.prog 68 [AV.s (gtD c 128)] [] (AV.agg [AV.i .i64 (Int.ofNat (mtV (gtD c 128) 0)), AV.i .i64 (Int.ofNat (mtV (gtD c 128) 1)), AV.i .i64 (Int.ofNat (mtV (gtD c 128) 2)), AV.i .i64 (Int.ofNat (mtV (gtD c 128)
  3)), AV.i .i64 (Int.ofNat (mtV (gtD c 128) 4))]) [] ∧ K (Res.rv (AV.agg [AV.i .i64 (Int.ofNat (mtV (gtD c 128) 0)), AV.i .i64 (Int.ofNat (mtV (gtD c 128) 1)), AV.i .i64 (Int.ofNat (mtV (gtD c 128) 2)), AV.i .i64 (Int.ofNat (mtV (gtD c 128) 3)), AV.i .i64 (Int.ofNat (mtV (gtD c 128) 4))]) ⟨z1 (CS.ro c rd) (zl (SS.o s)) (zl (AObj.cells 73 5 [AV.i .i64 0, AV.i .i64 0, AV.i .i64 0, AV.i .i64 0, AV.i .i64 0] (z1 (AV.i .i64 (Int.ofNat (mtV (gtD c 128) 0))) (z1 (AV.i .i64 (Int.ofNat (mtV (gtD c 128) 1))) (zl (AV.i .i64 (Int.ofNat (mtV (gtD c 128) 3)))) T.e) (z1 (AV.i .i64 (Int.ofNat (mtV (gtD c 128) 2))) (zl (AV.i .i64 (Int.ofNat (mtV (gtD c 128) 4)))) T.e)))), 3, [2, 2]⟩) Orc.z) := by kernel_rfl
structure Txt (c : CS) : Prop where
  n : c.n ≤ 256
  b : ∀ i, i < c.n → ∀ x ∈ c.d i, x < 256
  l : ∀ i, i < c.n → (c.d i).length ≤ 51
theorem Txt.get {c : CS} (h : Txt c) (i : Int) : (∀ x ∈ c.getD i, x < 256) ∧ (c.getD i).length ≤ 1073741824 := by
  unfold CS.getD
  cases hd : decide (0 ≤ i ∧ i < Int.ofNat c.n) with
  | true =>
    have hi := of_decide_eq_true hd
    have : i.toNat < c.n := by have := hi.2; simp at this; omega
    exact ⟨h.b _ this, by have := h.l _ this; show (c.d i.toNat).length ≤ _; omega⟩
  | false => exact ⟨fun x hx => (by cases hx), Nat.zero_le _⟩
theorem block_con (c : CS) (rd : Bool) (s : SS) (b : Int) (h : Txt c) : Con Tryd.prog 34 [.p 0 0, .i .i64 b] [some (c.ro rd), some s.o] (.agg [.i .i64 (Int.ofNat (bQ c b)), .s (bD c b)]) [.keep, .keep] := by
  have no : decide (0 ≤ b ∧ b < 128) = false → Con Tryd.prog 34 [.p 0 0, .i .i64 b] [some (c.ro rd), some s.o] (.agg [.i .i64 0, .s []]) [.keep, .keep] → Con Tryd.prog 34 [.p 0 0, .i .i64 b] [some (c.ro rd), some s.o] (.agg [.i .i64 (Int.ofNat (bQ c b)), .s (bD c b)]) [.keep, .keep] := fun hd k => by
    have e1 : bQ c b = 0 := by unfold bQ; rw [hd]; rfl
    have e2 : bD c b = [] := by unfold bD; rw [hd]; rfl
    rw [e1, e2]; exact k
  cases h0 : decide ((0 : Int) ≤ b) with
  | false =>
    have : ¬ 0 ≤ b := of_decide_eq_false h0
    refine no (decide_eq_false (by omega)) (con_of_run [] [] ((Block_vc c rd s b _).mpr ⟨trivial, fun q => (by rw [h0] at q; cases q), fun _ => ⟨h0, h0, h0, trivial, _, _, rfl, ret_k (by kernel_rfl)⟩⟩))
  | true =>
    have p0 : 0 ≤ b := of_decide_eq_true h0
    cases h1 : decide (b ≤ (127 : Int)) with
    | false =>
      have : ¬ b ≤ 127 := of_decide_eq_false h1
      have d1 : (!decide (b ≤ (127 : Int))) = true := by rw [h1]; rfl
      refine no (decide_eq_false (by omega)) (con_of_run [] [] ((Block_vc c rd s b _).mpr ⟨trivial, fun _ => ⟨h0, h0, h0, trivial, fun _ => ⟨_, _, rfl, ret_k (by kernel_rfl)⟩, fun q => (by rw [d1] at q; cases q)⟩, fun q => (by rw [h0] at q; cases q)⟩))
    | true =>
      have p1 : b ≤ 127 := of_decide_eq_true h1
      have d1 : (!decide (b ≤ (127 : Int))) = false := by rw [h1]; rfl
      have hd : decide (0 ≤ b ∧ b < 128) = true := decide_eq_true (by omega)
      have e1 : bQ c b = blkQ (gtD c b) := by unfold bQ; rw [hd]; rfl
      have e2 : bD c b = blkD (gtD c b) := by unfold bD; rw [hd]; rfl
      rw [e1, e2]
      exact con_of_run [] [] ((Block_vc c rd s b _).mpr ⟨trivial, fun _ => ⟨h0, h0, h0, trivial, fun q => (by rw [d1] at q; cases q), fun _ => ⟨trivial, rget_con c rd s b h.n, blockOf_con _ (h.get b).1 (h.get b).2, _, _, rfl, ret_k (by kernel_rfl)⟩⟩, fun q => (by rw [h0] at q; cases q)⟩)
theorem meta_con (c : CS) (rd : Bool) (s : SS) (h : Txt c) : Con Tryd.prog 36 [.p 0 0] [some (c.ro rd), some s.o]
    (.agg [.i .i64 (Int.ofNat (mV c 0)), .i .i64 (Int.ofNat (mV c 1)), .i .i64 (Int.ofNat (mV c 2)), .i .i64 (Int.ofNat (mV c 3)), .i .i64 (Int.ofNat (mV c 4))]) [.keep, .keep] :=
  con_of_run [] [] ((Meta_vc c rd s _).mpr ⟨trivial, trivial, rget_con c rd s 128 h.n, metaOf_con _ (h.get 128).1 (h.get 128).2, _, _, rfl, ret_k (by kernel_rfl)⟩)
end Go.Proofs.Cl
namespace Go.Proofs.Cl
open Go Go.Sim Go.Proofs Go.Proofs.Cd Go.Proofs.St
noncomputable def rE (c : CS) (s : SS) (i : Int) (x : List Nat) : Int := c.putE s i x
noncomputable def rC (c : CS) (s : SS) (i : Int) (x : List Nat) : CS := c.putC s i x
noncomputable def rS2 (c : CS) (s : SS) (i : Int) (x : List Nat) : SS := c.putS s i x
noncomputable def rD (c : CS) (s : SS) (i : Int) (x : List Nat) : Bool := decide (c.putE s i x = 13)
noncomputable def btI (n : Int) (d : List Nat) : List Nat := btx n.toNat d
noncomputable def mtI (a b c d e : Int) : List Nat := mtx a.toNat b.toNat c.toNat d.toNat e.toNat
theorem mx_l (a b : Int) : a ≤ mx a b := by unfold mx; split <;> omega
theorem mx_r (a b : Int) : b ≤ mx a b := by unfold mx; split <;> omega
theorem mtV_le (t : List Nat) (j : Nat) (hj : j < 5) : mtV t j ≤ 1099511627776 := by
  unfold mtV
  cases h : okMt t with
  | false => exact Nat.zero_le _
  | true =>
    show rv t j ≤ _
    unfold okMt at h
    have h2 : ¬ (1099511627776 : Int) < grt t := by simp at h; omega
    have g : Int.ofNat (rv t j) ≤ grt t := by
      unfold grt
      have : j = 0 ∨ j = 1 ∨ j = 2 ∨ j = 3 ∨ j = 4 := by omega
      rcases this with rfl | rfl | rfl | rfl | rfl
      · exact Int.le_trans (mx_l _ _) (Int.le_trans (mx_r _ _) (Int.le_trans (mx_r _ _) (Int.le_trans (mx_r _ _) (mx_r _ _))))
      · exact Int.le_trans (mx_l _ _) (Int.le_trans (mx_r _ _) (Int.le_trans (mx_r _ _) (mx_r _ _)))
      · exact Int.le_trans (mx_l _ _) (Int.le_trans (mx_r _ _) (mx_r _ _))
      · exact Int.le_trans (mx_l _ _) (mx_r _ _)
      · exact mx_l _ _
    have : Int.ofNat (rv t j) ≤ 1099511627776 := by omega
    simp at this; omega
theorem mV_le (c : CS) (j : Nat) (hj : j < 5) : mV c j ≤ 1099511627776 := mtV_le _ j hj
theorem mtx_lt {a b c d e : Nat} (ha : a ≤ 1099511627776) (hb : b ≤ 1099511627776) (hc : c ≤ 1099511627776) (hd : d ≤ 1099511627776) (he : e ≤ 1099511627776) : ∀ x ∈ mtx a b c d e, x < 256 := by
  unfold mtx
  cases (decide (Int.ofNat a = (0 : Int)) && (decide (Int.ofNat b = (0 : Int)) && (decide (Int.ofNat c = (0 : Int)) && (decide (Int.ofNat d = (0 : Int)) && (decide (Int.ofNat e = (0 : Int)) && true)) && true))) with
  | true => intro x hx; cases hx
  | false => exact bytes_lt (wG_lt (by omega) (wG_lt (by omega) (wG_lt (by omega) (wG_lt (by omega) fun i => wB_lt (by omega) i))))
theorem bs : (!true) = false ∧ (!false) = true ∧ ((true = false) = False) ∧ ((false = true) = False) ∧ (∀ p : Prop, (False → p) = True) ∧ (∀ p : Prop, (True → p) = p) ∧ (∀ p : Prop, (True ∧ p) = p) ∧ (∀ p : Prop, (p ∧ True) = p) ∧ (∀ p : Prop, (p ∧ p) = p) :=
  ⟨rfl, rfl, by simp, by simp, fun _ => by simp, fun _ => by simp, fun _ => by simp, fun _ => by simp, fun _ => by simp⟩
end Go.Proofs.Cl
namespace Go.Proofs.Cl
open Go Go.Sim Go.Proofs Go.Proofs.Cd Go.Proofs.St Go.Proofs.YtafknnedagolhaaDoor
theorem Join_vc (c : CS) (rd : Bool) (s : SS) (n : Nat) (K : Res → Orc → Prop) : runK Tryd.prog 1000000 (.call 55 [.p 0 0, .i .i64 (Int.ofNat n)] (mkH [some (c.ro rd), some s.o])) (Orc.inl (oc 4 (Orc.inl (Orc.c (Orc.s (Orc.c Orc.z) (Orc.s (Orc.c Orc.z) (Orc.c (Orc.inl (Orc.cal [0, 1] (AV.agg [AV.i .i64 (Int.ofNat (mV c 0)), AV.i .i64 (Int.ofNat (mV c 1)), AV.i .i64 (Int.ofNat (mV c 2)), AV.i .i64 (Int.ofNat (mV c 3)), AV.i .i64 (Int.ofNat (mV c 4))]) [Upd.keep, Upd.keep] (Orc.inl (Orc.s Orc.z (Orc.cal [] (AV.s (mtx (mV c 0) n (mV c 2) (mV c 3) (mV c 4))) [] (Orc.cal [0, 1] (AV.i .i64 (rE c s 128 (mtx (mV c 0) n (mV c 2) (mV c 3) (mV c 4)))) [Upd.set (CS.ro (rC c s 128 (mtx (mV c 0) n (mV c 2) (mV c 3) (mV c 4))) (rD c s 128 (mtx (mV c 0) n (mV c 2) (mV c 3) (mV c 4)))), Upd.set (SS.o (rS2 c s 128 (mtx (mV c 0) n (mV c 2) (mV c 3) (mV c 4))))] Orc.z))))))))))))) K = (True ∧ True ∧ True ∧
  (rd = true → K (Res.rv (AV.i .i64 13) ⟨z1 (CS.ro c rd) (zl (SS.o s)) (zl (AObj.cells 3 1 [] (zl (AV.i .i64 (Int.ofNat n))))), 3, [2]⟩) Orc.z) ∧ (rd = false → True ∧ ((!decide (Int.ofNat n ≤ 1099511627776)) = true → K (Res.rv (AV.i .i64 2) ⟨z1 (CS.ro c rd) (zl (SS.o s)) (zl (AObj.cells 3 1 [] (zl (AV.i .i64 (Int.ofNat n))))), 3, [2]⟩) Orc.z) ∧ ((!decide (Int.ofNat n ≤ 1099511627776)) = false → Con Tryd.prog 36 [AV.p 0 0] [some (CS.ro c rd), some (SS.o s)] (AV.agg [AV.i .i64 (Int.ofNat (mV c 0)), AV.i .i64 (Int.ofNat (mV c 1)), AV.i .i64 (Int.ofNat (mV c 2)), AV.i .i64 (Int.ofNat (mV c 3)), AV.i .i64 (Int.ofNat (mV c 4))]) [Upd.keep, Upd.keep] ∧ True ∧ True ∧ ((decide (Int.ofNat (mV c 0) = Int.ofNat (mV c 0)) && (decide (Int.ofNat n = Int.ofNat (mV c 1)) && (decide (Int.ofNat (mV c 2) = Int.ofNat (mV c 2)) && (decide (Int.ofNat (mV c 3) = Int.ofNat (mV c 3)) && (decide (Int.ofNat (mV c 4)
  = Int.ofNat (mV c 4)) && true)) && true))) = true → K (Res.rv (AV.i .i64 0) ⟨z1 (CS.ro c rd) (z1 (SS.o s) (zl (AObj.cells 73 5 [AV.i .i64 0, AV.i .i64 0, AV.i .i64 0, AV.i .i64 0, AV.i .i64 0] (z1 (AV.i .i64 (Int.ofNat (mV c 0))) (z1 (AV.i .i64 (Int.ofNat (mV c 1))) (zl (AV.i .i64 (Int.ofNat (mV c 3)))) T.e) (z1 (AV.i .i64 (Int.ofNat (mV c 2))) (zl (AV.i .i64 (Int.ofNat (mV c 4)))) T.e)))) T.e) (z1 (AObj.cells 3 1 [] (zl (AV.i .i64 (Int.ofNat n)))) (zl (AObj.cells 73 5 [AV.i .i64 0, AV.i .i64 0, AV.i .i64 0, AV.i .i64 0, AV.i .i64 0] (z1 (AV.i .i64 (Int.ofNat (mV c 0))) (z1 (AV.i .i64 (Int.ofNat n)) (zl (AV.i .i64 (Int.ofNat (mV c 3)))) T.e) (z1 (AV.i .i64 (Int.ofNat (mV c 2))) (zl (AV.i .i64 (Int.ofNat (mV c 4)))) T.e)))) T.e), 5, [4, 4, 4, 3, 3, 2]⟩) Orc.z) ∧ ((decide (Int.ofNat (mV c 0) = Int.ofNat (mV c 0)) && (decide (Int.ofNat n = Int.ofNat (mV c 1)) && (decide (Int.ofNat (mV c 2)
  = Int.ofNat (mV c 2)) && (decide (Int.ofNat (mV c 3) = Int.ofNat (mV c 3)) && (decide (Int.ofNat (mV c 4) = Int.ofNat (mV c 4)) && true)) && true))) = false → Con Tryd.prog 80 [AV.agg [AV.i .i64 (Int.ofNat (mV c 0)), AV.i .i64 (Int.ofNat n), AV.i .i64 (Int.ofNat (mV c 2)), AV.i .i64 (Int.ofNat (mV c 3)), AV.i .i64 (Int.ofNat (mV c 4))]] [] (AV.s (mtx (mV c 0) n (mV c 2) (mV c 3) (mV c 4))) [] ∧ Con Tryd.prog 59 [AV.p 0 0, AV.i .i64 128, AV.s (mtx (mV c 0) n (mV c 2) (mV c 3) (mV c 4))] [some (CS.ro c rd), some (SS.o s)] (AV.i .i64 (rE c s 128 (mtx (mV c 0) n (mV c 2) (mV c 3) (mV c 4)))) [Upd.set (CS.ro (rC c s 128 (mtx (mV c 0) n (mV c 2) (mV c 3) (mV c 4))) (rD c s 128 (mtx (mV c 0) n (mV c 2) (mV c 3) (mV c 4)))), Upd.set (SS.o (rS2 c s 128 (mtx (mV c 0) n (mV c 2) (mV c 3) (mV c 4))))] ∧ K (Res.rv (AV.i .i64 (rE c s 128 (mtx (mV c 0) n (mV c 2) (mV c 3) (mV c 4)))) ⟨z1 (CS.ro (rC c
  s 128 (mtx (mV c 0) n (mV c 2) (mV c 3) (mV c 4))) (rD c s 128 (mtx (mV c 0) n (mV c 2) (mV c 3) (mV c 4)))) (z1 (SS.o (rS2 c s 128 (mtx (mV c 0) n (mV c 2) (mV c 3) (mV c 4)))) (zl (AObj.cells 73 5 [AV.i .i64 0, AV.i .i64 0, AV.i .i64 0, AV.i .i64 0, AV.i .i64 0] (z1 (AV.i .i64 (Int.ofNat (mV c 0))) (z1 (AV.i .i64 (Int.ofNat (mV c 1))) (zl (AV.i .i64 (Int.ofNat (mV c 3)))) T.e) (z1 (AV.i .i64 (Int.ofNat (mV c 2))) (zl (AV.i .i64 (Int.ofNat (mV c 4)))) T.e)))) T.e) (z1 (AObj.cells 3 1 [] (zl (AV.i .i64 (Int.ofNat n)))) (zl (AObj.cells 73 5 [AV.i .i64 0, AV.i .i64 0, AV.i .i64 0, AV.i .i64 0, AV.i .i64 0] (z1 (AV.i .i64 (Int.ofNat (mV c 0))) (z1 (AV.i .i64 (Int.ofNat n)) (zl (AV.i .i64 (Int.ofNat (mV c 3)))) T.e) (z1 (AV.i .i64 (Int.ofNat (mV c 2))) (zl (AV.i .i64 (Int.ofNat (mV c 4)))) T.e)))) T.e), 5, [1, 0, 4, 4, 4, 3, 3, 2]⟩) Orc.z)))) := by kernel_rfl
theorem Adopt_vc (c : CS) (rd : Bool) (s : SS) (n : Nat) (K : Res → Orc → Prop) : runK Tryd.prog 1000000 (.call 32 [.p 0 0, .i .i64 (Int.ofNat n)] (mkH [some (c.ro rd), some s.o])) (Orc.inl (Orc.s (Orc.t (Orc.t (Orc.t (Orc.inl (Orc.c (Orc.s (Orc.c Orc.z) (Orc.s (Orc.c Orc.z) (Orc.c (Orc.cal [0, 1] (AV.agg [AV.i .i64 (Int.ofNat (mV c 0)), AV.i .i64 (Int.ofNat (mV c 1)), AV.i .i64 (Int.ofNat (mV c 2)), AV.i .i64 (Int.ofNat (mV c 3)), AV.i .i64 (Int.ofNat (mV c 4))]) [Upd.keep, Upd.keep] (Orc.s Orc.z (Orc.inl (Orc.cal [0, 1] (AV.agg [AV.i .i64 (Int.ofNat (mV c 0)), AV.i .i64 (Int.ofNat (mV c 1)), AV.i .i64 (Int.ofNat (mV c 2)), AV.i .i64 (Int.ofNat (mV c 3)), AV.i .i64 (Int.ofNat (mV c 4))]) [Upd.keep, Upd.keep] (Orc.inl (Orc.s Orc.z (Orc.cal [] (AV.s (mtx n (mV c 1) (mV c 2) (mV c 3) (mV c 4))) [] (Orc.cal [0, 1] (AV.i .i64 (rE c s 128 (mtx n (mV c 1) (mV c 2) (mV c 3) (mV c 4)))) [Upd.set
  (CS.ro (rC c s 128 (mtx n (mV c 1) (mV c 2) (mV c 3) (mV c 4))) (rD c s 128 (mtx n (mV c 1) (mV c 2) (mV c 3) (mV c 4)))), Upd.set (SS.o (rS2 c s 128 (mtx n (mV c 1) (mV c 2) (mV c 3) (mV c 4))))] Orc.z)))))))))))))))) (Orc.f (Orc.f (Orc.f (Orc.inl (Orc.c (Orc.s (Orc.c Orc.z) (oc 2 Orc.z))))))))) K = ((decide (1 ≤ Int.ofNat n) = true → decide (1 ≤ Int.ofNat n) = true ∧ decide (1 ≤ Int.ofNat n) = true ∧ decide (1 ≤ Int.ofNat n) = true ∧ True ∧ True ∧ True ∧ (rd = true → K (Res.rv (AV.i .i64 13) ⟨z1 (CS.ro c rd) (zl (SS.o s)) (zl (AObj.cells 3 1 [] (zl (AV.i .i64 (Int.ofNat n))))), 3, [2]⟩) Orc.z) ∧ (rd = false → True ∧ ((!decide (Int.ofNat n ≤ 1099511627776)) = true → K (Res.rv (AV.i .i64 2) ⟨z1 (CS.ro c rd) (zl (SS.o s)) (zl (AObj.cells 3 1 [] (zl (AV.i .i64 (Int.ofNat n))))), 3, [2]⟩) Orc.z) ∧ ((!decide (Int.ofNat n ≤ 1099511627776)) = false → Con Tryd.prog 36 [AV.p 0 0] [some (CS.ro c
  rd), some (SS.o s)] (AV.agg [AV.i .i64 (Int.ofNat (mV c 0)), AV.i .i64 (Int.ofNat (mV c 1)), AV.i .i64 (Int.ofNat (mV c 2)), AV.i .i64 (Int.ofNat (mV c 3)), AV.i .i64 (Int.ofNat (mV c 4))]) [Upd.keep, Upd.keep] ∧ (decide (Int.ofNat n < Int.ofNat (mV c 0)) = true → K (Res.rv (AV.i .i64 21) ⟨z1 (CS.ro c rd) (zl (SS.o s)) (zl (AObj.cells 3 1 [] (zl (AV.i .i64 (Int.ofNat n))))), 3, [2]⟩) Orc.z) ∧ (decide (Int.ofNat n < Int.ofNat (mV c 0)) = false → Con Tryd.prog 36 [AV.p 0 0] [some (CS.ro c rd), some (SS.o s)] (AV.agg [AV.i .i64 (Int.ofNat (mV c 0)), AV.i .i64 (Int.ofNat (mV c 1)), AV.i .i64 (Int.ofNat (mV c 2)), AV.i .i64 (Int.ofNat (mV c 3)), AV.i .i64 (Int.ofNat (mV c 4))]) [Upd.keep, Upd.keep] ∧ True ∧ True ∧ ((decide (Int.ofNat n = Int.ofNat (mV c 0)) && (decide (Int.ofNat (mV c 1) = Int.ofNat (mV c 1)) && (decide (Int.ofNat (mV c 2) = Int.ofNat (mV c 2)) && (decide (Int.ofNat (mV c 3)
  = Int.ofNat (mV c 3)) && (decide (Int.ofNat (mV c 4) = Int.ofNat (mV c 4)) && true)) && true))) = true → K (Res.rv (AV.i .i64 0) ⟨z1 (CS.ro c rd) (z1 (SS.o s) (zl (AObj.cells 73 5 [AV.i .i64 0, AV.i .i64 0, AV.i .i64 0, AV.i .i64 0, AV.i .i64 0] (z1 (AV.i .i64 (Int.ofNat (mV c 0))) (z1 (AV.i .i64 (Int.ofNat (mV c 1))) (zl (AV.i .i64 (Int.ofNat (mV c 3)))) T.e) (z1 (AV.i .i64 (Int.ofNat (mV c 2))) (zl (AV.i .i64 (Int.ofNat (mV c 4)))) T.e)))) T.e) (z1 (AObj.cells 3 1 [] (zl (AV.i .i64 (Int.ofNat n)))) (zl (AObj.cells 73 5 [AV.i .i64 0, AV.i .i64 0, AV.i .i64 0, AV.i .i64 0, AV.i .i64 0] (z1 (AV.i .i64 (Int.ofNat n)) (z1 (AV.i .i64 (Int.ofNat (mV c 1))) (zl (AV.i .i64 (Int.ofNat (mV c 3)))) T.e) (z1 (AV.i .i64 (Int.ofNat (mV c 2))) (zl (AV.i .i64 (Int.ofNat (mV c 4)))) T.e)))) T.e), 5, [4, 4, 4, 3, 3, 2]⟩) Orc.z) ∧ ((decide (Int.ofNat n = Int.ofNat (mV c 0)) && (decide (Int.ofNat (mV c 1)
  = Int.ofNat (mV c 1)) && (decide (Int.ofNat (mV c 2) = Int.ofNat (mV c 2)) && (decide (Int.ofNat (mV c 3) = Int.ofNat (mV c 3)) && (decide (Int.ofNat (mV c 4) = Int.ofNat (mV c 4)) && true)) && true))) = false → Con Tryd.prog 80 [AV.agg [AV.i .i64 (Int.ofNat n), AV.i .i64 (Int.ofNat (mV c 1)), AV.i .i64 (Int.ofNat (mV c 2)), AV.i .i64 (Int.ofNat (mV c 3)), AV.i .i64 (Int.ofNat (mV c 4))]] [] (AV.s (mtx n (mV c 1) (mV c 2) (mV c 3) (mV c 4))) [] ∧ Con Tryd.prog 59 [AV.p 0 0, AV.i .i64 128, AV.s (mtx n (mV c 1) (mV c 2) (mV c 3) (mV c 4))] [some (CS.ro c rd), some (SS.o s)] (AV.i .i64 (rE c s 128 (mtx n (mV c 1) (mV c 2) (mV c 3) (mV c 4)))) [Upd.set (CS.ro (rC c s 128 (mtx n (mV c 1) (mV c 2) (mV c 3) (mV c 4))) (rD c s 128 (mtx n (mV c 1) (mV c 2) (mV c 3) (mV c 4)))), Upd.set (SS.o (rS2 c s 128 (mtx n (mV c 1) (mV c 2) (mV c 3) (mV c 4))))] ∧ K (Res.rv (AV.i .i64 (rE c s 128 (mtx n (mV
  c 1) (mV c 2) (mV c 3) (mV c 4)))) ⟨z1 (CS.ro (rC c s 128 (mtx n (mV c 1) (mV c 2) (mV c 3) (mV c 4))) (rD c s 128 (mtx n (mV c 1) (mV c 2) (mV c 3) (mV c 4)))) (z1 (SS.o (rS2 c s 128 (mtx n (mV c 1) (mV c 2) (mV c 3) (mV c 4)))) (zl (AObj.cells 73 5 [AV.i .i64 0, AV.i .i64 0, AV.i .i64 0, AV.i .i64 0, AV.i .i64 0] (z1 (AV.i .i64 (Int.ofNat (mV c 0))) (z1 (AV.i .i64 (Int.ofNat (mV c 1))) (zl (AV.i .i64 (Int.ofNat (mV c 3)))) T.e) (z1 (AV.i .i64 (Int.ofNat (mV c 2))) (zl (AV.i .i64 (Int.ofNat (mV c 4)))) T.e)))) T.e) (z1 (AObj.cells 3 1 [] (zl (AV.i .i64 (Int.ofNat n)))) (zl (AObj.cells 73 5 [AV.i .i64 0, AV.i .i64 0, AV.i .i64 0, AV.i .i64 0, AV.i .i64 0] (z1 (AV.i .i64 (Int.ofNat n)) (z1 (AV.i .i64 (Int.ofNat (mV c 1))) (zl (AV.i .i64 (Int.ofNat (mV c 3)))) T.e) (z1 (AV.i .i64 (Int.ofNat (mV c 2))) (zl (AV.i .i64 (Int.ofNat (mV c 4)))) T.e)))) T.e), 5, [1, 0, 4, 4, 4, 3, 3, 2]⟩)
  Orc.z))))) ∧ (decide (1 ≤ Int.ofNat n) = false → decide (1 ≤ Int.ofNat n) = false ∧ decide (1 ≤ Int.ofNat n) = false ∧ decide (1 ≤ Int.ofNat n) = false ∧ True ∧ True ∧ True ∧ (rd = true → K (Res.rv (AV.i .i64 13) ⟨z1 (CS.ro c rd) (zl (SS.o s)) (zl (AObj.cells 3 1 [] (zl (AV.i .i64 (Int.ofNat n))))), 3, [2]⟩) Orc.z) ∧ (rd = false → True ∧ K (Res.rv (AV.i .i64 2) ⟨z1 (CS.ro c rd) (zl (SS.o s)) (zl (AObj.cells 3 1 [] (zl (AV.i .i64 (Int.ofNat n))))), 3, [2]⟩) Orc.z))) := by kernel_rfl
noncomputable def actE (w : Int) (c : CS) (s : SS) (i : Int) (x : List Nat) : Int := bif decide (w = -1) then c.putE s i x else w
noncomputable def actC (w : Int) (c : CS) (s : SS) (i : Int) (x : List Nat) : CS := bif decide (w = -1) then c.putC s i x else c
noncomputable def actS (w : Int) (c : CS) (s : SS) (i : Int) (x : List Nat) : SS := bif decide (w = -1) then c.putS s i x else s
noncomputable def actD (w : Int) (rd : Bool) (c : CS) (s : SS) (i : Int) (x : List Nat) : Bool := bif decide (w = -1) then decide (c.putE s i x = 13) else rd
def Act (F : FuncId) (args : List AV) (w : Int) (c : CS) (rd : Bool) (s : SS) (i : Int) (x : List Nat) : Prop :=
  Con Tryd.prog F args [some (c.ro rd), some s.o] (.i .i64 (actE w c s i x)) [.set ((actC w c s i x).ro (actD w rd c s i x)), .set (actS w c s i x).o]
theorem Act.no {F : FuncId} {args : List AV} {w : Int} {c : CS} {rd : Bool} {s : SS} {i : Int} {x : List Nat} (hw : decide (w = -1) = false)
    (k : Con Tryd.prog F args [some (c.ro rd), some s.o] (.i .i64 w) [.set (c.ro rd), .set s.o]) : Act F args w c rd s i x := by
  unfold Act actE actC actS actD
  rw [hw]; exact k
theorem Act.yes {F : FuncId} {args : List AV} {w : Int} {c : CS} {rd : Bool} {s : SS} {i : Int} {x : List Nat} (hw : decide (w = -1) = true)
    (k : Con Tryd.prog F args [some (c.ro rd), some s.o] (.i .i64 (rE c s i x)) [.set ((rC c s i x).ro (rD c s i x)), .set (rS2 c s i x).o]) : Act F args w c rd s i x := by
  unfold Act actE actC actS actD
  rw [hw]; exact k
theorem rpd_con {c : CS} {s : SS} {m : Nat} (h : Inv c s m) (hm : m < 1073741823) (rd : Bool) (i : Int) (x : List Nat) (hx : ∀ b ∈ x, b < 256) :
    Con Tryd.prog 59 [.p 0 0, .i .i64 i, .s x] [some (c.ro rd), some s.o] (.i .i64 (rE c s i x)) [.set ((rC c s i x).ro (rD c s i x)), .set (rS2 c s i x).o] := rp_con h hm rd i x hx
noncomputable def joinT (c : CS) (n : Nat) : List Nat := mtx (mV c 0) n (mV c 2) (mV c 3) (mV c 4)
noncomputable def joinW (c : CS) (rd : Bool) (n : Nat) : Int := bif rd then 13 else bif !decide (Int.ofNat n ≤ (1099511627776 : Int)) then 2 else bif decide (Int.ofNat n = Int.ofNat (mV c 1)) then 0 else -1
theorem join_con {c : CS} {s : SS} {m : Nat} (h : Inv c s m) (ht : Txt c) (hm : m < 1073741823) (rd : Bool) (n : Nat) : Act 55 [.p 0 0, .i .i64 (Int.ofNat n)] (joinW c rd n) c rd s 128 (joinT c n) := by
  cases hr : rd with
  | true =>
    exact .no (by unfold joinW; rfl) (con_of_run [] [] ((Join_vc c true s n _).mpr ⟨trivial, trivial, trivial, fun _ => ⟨_, _, rfl, ret_k (by kernel_rfl)⟩, fun q => (by cases q)⟩))
  | false =>
    cases hb : (!decide (Int.ofNat n ≤ (1099511627776 : Int))) with
    | true =>
      have e : joinW c false n = 2 := by unfold joinW; rw [hb]; rfl
      rw [e]
      exact .no (by rfl) (con_of_run [] [] ((Join_vc c false s n _).mpr ⟨trivial, trivial, trivial, fun q => (by cases q), fun _ => ⟨trivial, fun _ => ⟨_, _, rfl, ret_k (by kernel_rfl)⟩, fun q => (by rw [hb] at q; cases q)⟩⟩))
    | false =>
      have hn : n ≤ 1099511627776 := by simp at hb; omega
      have c1 := meta_con c false s ht
      have eq : (decide (Int.ofNat (mV c (0 : Nat)) = Int.ofNat (mV c (0 : Nat))) && (decide (Int.ofNat n = Int.ofNat (mV c (1 : Nat))) && (decide (Int.ofNat (mV c (2 : Nat)) = Int.ofNat (mV c (2 : Nat))) && (decide (Int.ofNat (mV c (3 : Nat)) = Int.ofNat (mV c (3 : Nat))) && (decide (Int.ofNat (mV c (4 : Nat)) = Int.ofNat (mV c (4 : Nat))) && true)) && true))) = decide (Int.ofNat n = Int.ofNat (mV c (1 : Nat))) := by simp
      cases hq : decide (Int.ofNat n = Int.ofNat (mV c 1)) with
      | true =>
        have e : joinW c false n = 0 := by unfold joinW; rw [hb, hq]; rfl
        rw [e]
        refine .no (by rfl) (con_of_run [] [] ((Join_vc c false s n _).mpr ⟨trivial, trivial, trivial, fun q => (by cases q), fun _ => ⟨trivial, fun q => (by rw [hb] at q; cases q), fun _ => ⟨c1, trivial, trivial, fun _ => ⟨_, _, rfl, ret_k (by kernel_rfl)⟩, fun q => (by rw [eq, hq] at q; cases q)⟩⟩⟩))
      | false =>
        have e : joinW c false n = -1 := by unfold joinW; rw [hb, hq]; rfl
        rw [e]
        have b0 := mV_le c 0 (by omega); have b2 := mV_le c 2 (by omega); have b3 := mV_le c 3 (by omega); have b4 := mV_le c 4 (by omega)
        refine .yes (by rfl) (con_of_run [] [] ((Join_vc c false s n _).mpr ⟨trivial, trivial, trivial, fun q => (by cases q), fun _ => ⟨trivial, fun q => (by rw [hb] at q; cases q), fun _ => ⟨c1, trivial, trivial, fun q => (by rw [eq, hq] at q; cases q), fun _ => ⟨metaText_con _ _ _ _ _ (by omega) (by omega) (by omega) (by omega) (by omega), rpd_con h hm false 128 _ (mtx_lt b0 hn b2 b3 b4), _, _, rfl, ?_⟩⟩⟩⟩))
        exact ret_k (by kernel_rfl)
noncomputable def adoptT (c : CS) (n : Nat) : List Nat := mtx n (mV c 1) (mV c 2) (mV c 3) (mV c 4)
noncomputable def adoptW (c : CS) (rd : Bool) (n : Nat) : Int := bif rd then 13 else bif decide ((1 : Int) ≤ Int.ofNat n) then (bif !decide (Int.ofNat n ≤ (1099511627776 : Int)) then 2 else bif decide (Int.ofNat n < Int.ofNat (mV c 0)) then 21 else bif decide (Int.ofNat n = Int.ofNat (mV c 0)) then 0 else -1) else 2
theorem adopt_con {c : CS} {s : SS} {m : Nat} (h : Inv c s m) (ht : Txt c) (hm : m < 1073741823) (rd : Bool) (n : Nat) : Act 32 [.p 0 0, .i .i64 (Int.ofNat n)] (adoptW c rd n) c rd s 128 (adoptT c n) := by
  cases h1 : decide ((1 : Int) ≤ Int.ofNat n) with
  | false =>
    cases hr : rd with
    | true =>
      exact .no (by unfold adoptW; rfl) (con_of_run [] [] ((Adopt_vc c true s n _).mpr ⟨fun q => (by rw [h1] at q; cases q), fun _ => ⟨h1, h1, h1, trivial, trivial, trivial, fun _ => ⟨_, _, rfl, ret_k (by kernel_rfl)⟩, fun q => (by cases q)⟩⟩))
    | false =>
      have e : adoptW c false n = 2 := by unfold adoptW; rw [h1]; rfl
      rw [e]
      exact .no (by rfl) (con_of_run [] [] ((Adopt_vc c false s n _).mpr ⟨fun q => (by rw [h1] at q; cases q), fun _ => ⟨h1, h1, h1, trivial, trivial, trivial, fun q => (by cases q), fun _ => ⟨trivial, _, _, rfl, ret_k (by kernel_rfl)⟩⟩⟩))
  | true =>
    cases hr : rd with
    | true =>
      exact .no (by unfold adoptW; rfl) (con_of_run [] [] ((Adopt_vc c true s n _).mpr ⟨fun _ => ⟨h1, h1, h1, trivial, trivial, trivial, fun _ => ⟨_, _, rfl, ret_k (by kernel_rfl)⟩, fun q => (by cases q)⟩, fun q => (by rw [h1] at q; cases q)⟩))
    | false =>
      cases hb : (!decide (Int.ofNat n ≤ (1099511627776 : Int))) with
      | true =>
        have e : adoptW c false n = 2 := by unfold adoptW; rw [h1, hb]; rfl
        rw [e]
        exact .no (by rfl) (con_of_run [] [] ((Adopt_vc c false s n _).mpr ⟨fun _ => ⟨h1, h1, h1, trivial, trivial, trivial, fun q => (by cases q), fun _ => ⟨trivial, fun _ => ⟨_, _, rfl, ret_k (by kernel_rfl)⟩, fun q => (by rw [hb] at q; cases q)⟩⟩, fun q => (by rw [h1] at q; cases q)⟩))
      | false =>
        have hn : n ≤ 1099511627776 := by simp at hb; omega
        have c1 := meta_con c false s ht
        have eq : (decide (Int.ofNat n = Int.ofNat (mV c (0 : Nat))) && (decide (Int.ofNat (mV c (1 : Nat)) = Int.ofNat (mV c (1 : Nat))) && (decide (Int.ofNat (mV c (2 : Nat)) = Int.ofNat (mV c (2 : Nat))) && (decide (Int.ofNat (mV c (3 : Nat)) = Int.ofNat (mV c (3 : Nat))) && (decide (Int.ofNat (mV c (4 : Nat)) = Int.ofNat (mV c (4 : Nat))) && true)) && true))) = decide (Int.ofNat n = Int.ofNat (mV c (0 : Nat))) := by simp
        cases hl : decide (Int.ofNat n < Int.ofNat (mV c 0)) with
        | true =>
          have e : adoptW c false n = 21 := by unfold adoptW; rw [h1, hb, hl]; rfl
          rw [e]
          exact .no (by rfl) (con_of_run [] [] ((Adopt_vc c false s n _).mpr ⟨fun _ => ⟨h1, h1, h1, trivial, trivial, trivial, fun q => (by cases q), fun _ => ⟨trivial, fun q => (by rw [hb] at q; cases q), fun _ => ⟨c1, fun _ => ⟨_, _, rfl, ret_k (by kernel_rfl)⟩, fun q => (by rw [hl] at q; cases q)⟩⟩⟩, fun q => (by rw [h1] at q; cases q)⟩))
        | false =>
          cases hq : decide (Int.ofNat n = Int.ofNat (mV c 0)) with
          | true =>
            have e : adoptW c false n = 0 := by unfold adoptW; rw [h1, hb, hl, hq]; rfl
            rw [e]
            exact .no (by rfl) (con_of_run [] [] ((Adopt_vc c false s n _).mpr ⟨fun _ => ⟨h1, h1, h1, trivial, trivial, trivial, fun q => (by cases q), fun _ => ⟨trivial, fun q => (by rw [hb] at q; cases q), fun _ => ⟨c1, fun q => (by rw [hl] at q; cases q), fun _ => ⟨c1, trivial, trivial, fun _ => ⟨_, _, rfl, ret_k (by kernel_rfl)⟩, fun q => (by rw [eq, hq] at q; cases q)⟩⟩⟩⟩, fun q => (by rw [h1] at q; cases q)⟩))
          | false =>
            have e : adoptW c false n = -1 := by unfold adoptW; rw [h1, hb, hl, hq]; rfl
            rw [e]
            have b1 := mV_le c 1 (by omega); have b2 := mV_le c 2 (by omega); have b3 := mV_le c 3 (by omega); have b4 := mV_le c 4 (by omega)
            refine .yes (by rfl) (con_of_run [] [] ((Adopt_vc c false s n _).mpr ⟨fun _ => ⟨h1, h1, h1, trivial, trivial, trivial, fun q => (by cases q), fun _ => ⟨trivial, fun q => (by rw [hb] at q; cases q), fun _ => ⟨c1, fun q => (by rw [hl] at q; cases q), fun _ => ⟨c1, trivial, trivial, fun q => (by rw [eq, hq] at q; cases q), fun _ => ⟨metaText_con _ _ _ _ _ (by omega) (by omega) (by omega) (by omega) (by omega), rpd_con h hm false 128 _ (mtx_lt hn b1 b2 b3 b4), _, _, rfl, ?_⟩⟩⟩⟩⟩, fun q => (by rw [h1] at q; cases q)⟩))
            exact ret_k (by kernel_rfl)
theorem Apply_vc (c : CS) (rd : Bool) (s : SS) (b : Int) (n : Nat) (d : List Nat) (sv gen : Int) (K : Res → Orc → Prop) : runK Tryd.prog 1000000 (.call 35 [.p 0 0, .i .i64 b, .agg [.i .i64 (Int.ofNat n), .s d], .i .i64 sv, .i .i64 gen] (mkH [some (c.ro rd), some s.o])) (Orc.inl (Orc.inl (Orc.s (Orc.t (Orc.t (Orc.t (Orc.s (Orc.t (Orc.inl (Orc.inl (Orc.s (Orc.t (Orc.t (Orc.t (Orc.s (Orc.t (Orc.t (Orc.t (Orc.t (Orc.t (Orc.s (Orc.t (Orc.inl (Orc.inl (Orc.s (Orc.t (Orc.t (Orc.t (Orc.t (Orc.s (Orc.t (Orc.inl (Orc.inl (Orc.s (Orc.t (Orc.t (Orc.t (Orc.t (Orc.inl (Orc.c (Orc.s (Orc.c Orc.z) (Orc.s (Orc.c Orc.z) (Orc.c (Orc.cal [0, 1] (AV.agg [AV.i .i64 (Int.ofNat (mV c 0)), AV.i .i64 (Int.ofNat (mV c 1)), AV.i .i64 (Int.ofNat (mV c 2)), AV.i .i64 (Int.ofNat (mV c 3)), AV.i .i64 (Int.ofNat (mV c 4))]) [Upd.keep, Upd.keep] (Orc.s (Orc.s Orc.z (Orc.cal [0, 1] (AV.agg [AV.i .i64 (Int.ofNat (bQ c b)),
  AV.s (bD c b)]) [Upd.keep, Upd.keep] (Orc.s Orc.z (Orc.s Orc.z (Orc.cal [] (AV.s (btx n d)) [] (Orc.cal [0, 1] (AV.i .i64 (rE c s b (btx n d))) [Upd.set (CS.ro (rC c s b (btx n d)) (rD c s b (btx n d))), Upd.set (SS.o (rS2 c s b (btx n d)))] Orc.z)))))) Orc.z))))))))))) (Orc.f (Orc.f (Orc.f (Orc.t (Orc.inl (Orc.c (Orc.s (Orc.c Orc.z) (oc 2 Orc.z)))))))))))) (Orc.f (Orc.f (Orc.inl (Orc.c (Orc.s (Orc.c Orc.z) (oc 2 Orc.z))))))))))) (Orc.f (Orc.f (Orc.f (Orc.t (oc 3 (Orc.inl (Orc.c (Orc.s (Orc.c Orc.z) (oc 2 Orc.z))))))))))))) (Orc.f (Orc.f (oc 3 (Orc.inl (Orc.c (Orc.s (Orc.c Orc.z) (oc 2 Orc.z))))))))))))) (Orc.f (Orc.f (Orc.f (Orc.f (Orc.t (oc 6 (Orc.inl (Orc.c (Orc.s (Orc.c Orc.z) (oc 2 Orc.z)))))))))))))) (Orc.f (Orc.f (Orc.f (oc 5 (Orc.t (oc 6 (Orc.inl (Orc.c (Orc.s (Orc.c Orc.z) (oc 2 Orc.z)))))))))))))) (Orc.f (Orc.f (oc 6 (Orc.inl (Orc.c (Orc.s (Orc.c Orc.z) (oc 2 Orc.z)))))))))))
  (Orc.f (Orc.f (Orc.f (oc 9 (Orc.inl (Orc.c (Orc.s (Orc.c Orc.z) (oc 2 Orc.z))))))))))) K = ((decide (0 ≤ b) = true → decide (0 ≤ b) = true ∧ decide (0 ≤ b) = true ∧ decide (0 ≤ b) = true ∧ (decide (b ≤ 127) = true → decide (b ≤ 127) = true ∧ True ∧ (decide (1 ≤ Int.ofNat n) = true → decide (1 ≤ Int.ofNat n) = true ∧ decide (1 ≤ Int.ofNat n) = true ∧ decide (1 ≤ Int.ofNat n) = true ∧ (decide (Int.ofNat n ≤ 1099511627776) = true → True ∧ decide (Int.ofNat n ≤ 1099511627776) = true ∧ decide (Int.ofNat n ≤ 1099511627776) = true ∧ decide (Int.ofNat n ≤ 1099511627776) = true ∧ decide (Int.ofNat n ≤ 1099511627776) = true ∧ decide (b ≤ 127) = true ∧ (decide (Int.ofNat (List.length d) ≤ 44) = true → decide (Int.ofNat (List.length d) ≤ 44) = true ∧ (decide (0 ≤ sv) = true → decide (0 ≤ sv) = true ∧ decide (0 ≤ sv) = true ∧ decide (0 ≤ sv) = true ∧ decide (Int.ofNat (List.length d) ≤ 44) = true ∧
  (decide (sv ≤ 2) = true → decide (sv ≤ 2) = true ∧ (decide (1 ≤ gen) = true → decide (1 ≤ gen) = true ∧ decide (1 ≤ gen) = true ∧ decide (1 ≤ gen) = true ∧ decide (sv ≤ 2) = true ∧ True ∧ True ∧ True ∧ (rd = true → K (Res.rv (AV.i .i64 13) ⟨z1 (CS.ro c rd) (z1 (SS.o s) (zl (AObj.cells 45 2 [] (z1 (AV.i .i64 (Int.ofNat n)) (zl (AV.s d)) T.e))) T.e) (zl (AObj.cells 45 2 [] (z1 (AV.i .i64 (Int.ofNat n)) (zl (AV.s d)) T.e))), 4, [3, 2]⟩) Orc.z) ∧ (rd = false → True ∧ ((!decide (gen ≤ 1099511627776)) = true → K (Res.rv (AV.i .i64 2) ⟨z1 (CS.ro c rd) (z1 (SS.o s) (zl (AObj.cells 45 2 [] (z1 (AV.i .i64 (Int.ofNat n)) (zl (AV.s d)) T.e))) T.e) (zl (AObj.cells 45 2 [] (z1 (AV.i .i64 (Int.ofNat n)) (zl (AV.s d)) T.e))), 4, [3, 2]⟩) Orc.z) ∧ ((!decide (gen ≤ 1099511627776)) = false → Con Tryd.prog 36 [AV.p 0 0] [some (CS.ro c rd), some (SS.o s)] (AV.agg [AV.i .i64 (Int.ofNat (mV c 0)), AV.i .i64
  (Int.ofNat (mV c 1)), AV.i .i64 (Int.ofNat (mV c 2)), AV.i .i64 (Int.ofNat (mV c 3)), AV.i .i64 (Int.ofNat (mV c 4))]) [Upd.keep, Upd.keep] ∧ (0 ≤ sv ∧ sv < 3) ∧ (decide (gen < List.getD [Int.ofNat (mV c 2), Int.ofNat (mV c 3), Int.ofNat (mV c 4)] (Int.toNat sv) 0) = true → K (Res.rv (AV.i .i64 22) ⟨z1 (CS.ro c rd) (z1 (SS.o s) (zl (AObj.cells 45 2 [] (z1 (AV.i .i64 (Int.ofNat n)) (zl (AV.s d)) T.e))) T.e) (zl (AObj.cells 45 2 [] (z1 (AV.i .i64 (Int.ofNat n)) (zl (AV.s d)) T.e))), 4, [3, 2]⟩) Orc.z) ∧ (decide (gen < List.getD [Int.ofNat (mV c 2), Int.ofNat (mV c 3), Int.ofNat (mV c 4)] (Int.toNat sv) 0) = false → Con Tryd.prog 34 [AV.p 0 0, AV.i .i64 b] [some (CS.ro c rd), some (SS.o s)] (AV.agg [AV.i .i64 (Int.ofNat (bQ c b)), AV.s (bD c b)]) [Upd.keep, Upd.keep] ∧ True ∧ ((decide (Int.ofNat n = Int.ofNat (bQ c b)) && (natsEq d (bD c b) && true)) = true → K (Res.rv (AV.i .i64 0) ⟨z1
  (CS.ro c rd) (z1 (SS.o s) (zl (AObj.cells 45 2 [] (z1 (AV.i .i64 (Int.ofNat n)) (zl (AV.s d)) T.e))) T.e) (z1 (AObj.cells 45 2 [] (z1 (AV.i .i64 (Int.ofNat n)) (zl (AV.s d)) T.e)) (zl (AObj.cells 45 2 [AV.i .i64 0, AV.s []] (z1 (AV.i .i64 (Int.ofNat (bQ c b))) (zl (AV.s (bD c b))) T.e))) T.e), 5, [4, 4, 3, 2]⟩) Orc.z) ∧ ((decide (Int.ofNat n = Int.ofNat (bQ c b)) && (natsEq d (bD c b) && true)) = false → True ∧ True ∧ (decide (Int.ofNat n ≤ Int.ofNat (bQ c b)) = true → K (Res.rv (AV.i .i64 25) ⟨z1 (CS.ro c rd) (z1 (SS.o s) (zl (AObj.cells 45 2 [] (z1 (AV.i .i64 (Int.ofNat n)) (zl (AV.s d)) T.e))) T.e) (z1 (AObj.cells 45 2 [] (z1 (AV.i .i64 (Int.ofNat n)) (zl (AV.s d)) T.e)) (zl (AObj.cells 45 2 [AV.i .i64 0, AV.s []] (z1 (AV.i .i64 (Int.ofNat (bQ c b))) (zl (AV.s (bD c b))) T.e))) T.e), 5, [4, 4, 3, 2]⟩) Orc.z) ∧ (decide (Int.ofNat n ≤ Int.ofNat (bQ c b)) = false → Con Tryd.prog 60
  [AV.agg [AV.i .i64 (Int.ofNat n), AV.s d]] [] (AV.s (btx n d)) [] ∧ Con Tryd.prog 59 [AV.p 0 0, AV.i .i64 b, AV.s (btx n d)] [some (CS.ro c rd), some (SS.o s)] (AV.i .i64 (rE c s b (btx n d))) [Upd.set (CS.ro (rC c s b (btx n d)) (rD c s b (btx n d))), Upd.set (SS.o (rS2 c s b (btx n d)))] ∧ K (Res.rv (AV.i .i64 (rE c s b (btx n d))) ⟨z1 (CS.ro (rC c s b (btx n d)) (rD c s b (btx n d))) (z1 (SS.o (rS2 c s b (btx n d))) (zl (AObj.cells 45 2 [] (z1 (AV.i .i64 (Int.ofNat n)) (zl (AV.s d)) T.e))) T.e) (z1 (AObj.cells 45 2 [] (z1 (AV.i .i64 (Int.ofNat n)) (zl (AV.s d)) T.e)) (zl (AObj.cells 45 2 [AV.i .i64 0, AV.s []] (z1 (AV.i .i64 (Int.ofNat (bQ c b))) (zl (AV.s (bD c b))) T.e))) T.e), 5, [1, 0, 4, 4, 3, 2]⟩) Orc.z)))))) ∧ (decide (1 ≤ gen) = false → decide (1 ≤ gen) = false ∧ decide (1 ≤ gen) = false ∧ decide (1 ≤ gen) = false ∧ decide (sv ≤ 2) = true ∧ True ∧ True ∧ True ∧ (rd = true → K
  (Res.rv (AV.i .i64 13) ⟨z1 (CS.ro c rd) (z1 (SS.o s) (zl (AObj.cells 45 2 [] (z1 (AV.i .i64 (Int.ofNat n)) (zl (AV.s d)) T.e))) T.e) (zl (AObj.cells 45 2 [] (z1 (AV.i .i64 (Int.ofNat n)) (zl (AV.s d)) T.e))), 4, [3, 2]⟩) Orc.z) ∧ (rd = false → True ∧ K (Res.rv (AV.i .i64 2) ⟨z1 (CS.ro c rd) (z1 (SS.o s) (zl (AObj.cells 45 2 [] (z1 (AV.i .i64 (Int.ofNat n)) (zl (AV.s d)) T.e))) T.e) (zl (AObj.cells 45 2 [] (z1 (AV.i .i64 (Int.ofNat n)) (zl (AV.s d)) T.e))), 4, [3, 2]⟩) Orc.z))) ∧ (decide (sv ≤ 2) = false → decide (sv ≤ 2) = false ∧ decide (sv ≤ 2) = false ∧ True ∧ True ∧ True ∧ (rd = true → K (Res.rv (AV.i .i64 13) ⟨z1 (CS.ro c rd) (z1 (SS.o s) (zl (AObj.cells 45 2 [] (z1 (AV.i .i64 (Int.ofNat n)) (zl (AV.s d)) T.e))) T.e) (zl (AObj.cells 45 2 [] (z1 (AV.i .i64 (Int.ofNat n)) (zl (AV.s d)) T.e))), 4, [3, 2]⟩) Orc.z) ∧ (rd = false → True ∧ K (Res.rv (AV.i .i64 2) ⟨z1 (CS.ro c rd) (z1
  (SS.o s) (zl (AObj.cells 45 2 [] (z1 (AV.i .i64 (Int.ofNat n)) (zl (AV.s d)) T.e))) T.e) (zl (AObj.cells 45 2 [] (z1 (AV.i .i64 (Int.ofNat n)) (zl (AV.s d)) T.e))), 4, [3, 2]⟩) Orc.z))) ∧ (decide (0 ≤ sv) = false → decide (0 ≤ sv) = false ∧ decide (0 ≤ sv) = false ∧ decide (0 ≤ sv) = false ∧ decide (Int.ofNat (List.length d) ≤ 44) = true ∧ True ∧ True ∧ True ∧ (rd = true → K (Res.rv (AV.i .i64 13) ⟨z1 (CS.ro c rd) (z1 (SS.o s) (zl (AObj.cells 45 2 [] (z1 (AV.i .i64 (Int.ofNat n)) (zl (AV.s d)) T.e))) T.e) (zl (AObj.cells 45 2 [] (z1 (AV.i .i64 (Int.ofNat n)) (zl (AV.s d)) T.e))), 4, [3, 2]⟩) Orc.z) ∧ (rd = false → True ∧ K (Res.rv (AV.i .i64 2) ⟨z1 (CS.ro c rd) (z1 (SS.o s) (zl (AObj.cells 45 2 [] (z1 (AV.i .i64 (Int.ofNat n)) (zl (AV.s d)) T.e))) T.e) (zl (AObj.cells 45 2 [] (z1 (AV.i .i64 (Int.ofNat n)) (zl (AV.s d)) T.e))), 4, [3, 2]⟩) Orc.z))) ∧ (decide (Int.ofNat (List.length d) ≤
  44) = false → decide (Int.ofNat (List.length d) ≤ 44) = false ∧ decide (Int.ofNat (List.length d) ≤ 44) = false ∧ True ∧ True ∧ True ∧ (rd = true → K (Res.rv (AV.i .i64 13) ⟨z1 (CS.ro c rd) (z1 (SS.o s) (zl (AObj.cells 45 2 [] (z1 (AV.i .i64 (Int.ofNat n)) (zl (AV.s d)) T.e))) T.e) (zl (AObj.cells 45 2 [] (z1 (AV.i .i64 (Int.ofNat n)) (zl (AV.s d)) T.e))), 4, [3, 2]⟩) Orc.z) ∧ (rd = false → True ∧ K (Res.rv (AV.i .i64 2) ⟨z1 (CS.ro c rd) (z1 (SS.o s) (zl (AObj.cells 45 2 [] (z1 (AV.i .i64 (Int.ofNat n)) (zl (AV.s d)) T.e))) T.e) (zl (AObj.cells 45 2 [] (z1 (AV.i .i64 (Int.ofNat n)) (zl (AV.s d)) T.e))), 4, [3, 2]⟩) Orc.z))) ∧ (decide (Int.ofNat n ≤ 1099511627776) = false → decide (Int.ofNat n ≤ 1099511627776) = false ∧ decide (Int.ofNat n ≤ 1099511627776) = false ∧ decide (Int.ofNat n ≤ 1099511627776) = false ∧ decide (Int.ofNat n ≤ 1099511627776) = false ∧ decide (b ≤ 127) = true ∧
  True ∧ True ∧ True ∧ (rd = true → K (Res.rv (AV.i .i64 13) ⟨z1 (CS.ro c rd) (z1 (SS.o s) (zl (AObj.cells 45 2 [] (z1 (AV.i .i64 (Int.ofNat n)) (zl (AV.s d)) T.e))) T.e) (zl (AObj.cells 45 2 [] (z1 (AV.i .i64 (Int.ofNat n)) (zl (AV.s d)) T.e))), 4, [3, 2]⟩) Orc.z) ∧ (rd = false → True ∧ K (Res.rv (AV.i .i64 2) ⟨z1 (CS.ro c rd) (z1 (SS.o s) (zl (AObj.cells 45 2 [] (z1 (AV.i .i64 (Int.ofNat n)) (zl (AV.s d)) T.e))) T.e) (zl (AObj.cells 45 2 [] (z1 (AV.i .i64 (Int.ofNat n)) (zl (AV.s d)) T.e))), 4, [3, 2]⟩) Orc.z))) ∧ (decide (1 ≤ Int.ofNat n) = false → decide (1 ≤ Int.ofNat n) = false ∧ decide (1 ≤ Int.ofNat n) = false ∧ decide (1 ≤ Int.ofNat n) = false ∧ decide (b ≤ 127) = true ∧ True ∧ True ∧ True ∧ (rd = true → K (Res.rv (AV.i .i64 13) ⟨z1 (CS.ro c rd) (z1 (SS.o s) (zl (AObj.cells 45 2 [] (z1 (AV.i .i64 (Int.ofNat n)) (zl (AV.s d)) T.e))) T.e) (zl (AObj.cells 45 2 [] (z1 (AV.i .i64
  (Int.ofNat n)) (zl (AV.s d)) T.e))), 4, [3, 2]⟩) Orc.z) ∧ (rd = false → True ∧ K (Res.rv (AV.i .i64 2) ⟨z1 (CS.ro c rd) (z1 (SS.o s) (zl (AObj.cells 45 2 [] (z1 (AV.i .i64 (Int.ofNat n)) (zl (AV.s d)) T.e))) T.e) (zl (AObj.cells 45 2 [] (z1 (AV.i .i64 (Int.ofNat n)) (zl (AV.s d)) T.e))), 4, [3, 2]⟩) Orc.z))) ∧ (decide (b ≤ 127) = false → decide (b ≤ 127) = false ∧ decide (b ≤ 127) = false ∧ True ∧ True ∧ True ∧ (rd = true → K (Res.rv (AV.i .i64 13) ⟨z1 (CS.ro c rd) (zl (SS.o s)) (zl (AObj.cells 45 2 [] (z1 (AV.i .i64 (Int.ofNat n)) (zl (AV.s d)) T.e))), 3, [2]⟩) Orc.z) ∧ (rd = false → True ∧ K (Res.rv (AV.i .i64 2) ⟨z1 (CS.ro c rd) (zl (SS.o s)) (zl (AObj.cells 45 2 [] (z1 (AV.i .i64 (Int.ofNat n)) (zl (AV.s d)) T.e))), 3, [2]⟩) Orc.z))) ∧ (decide (0 ≤ b) = false → decide (0 ≤ b) = false ∧ decide (0 ≤ b) = false ∧ decide (0 ≤ b) = false ∧ True ∧ True ∧ True ∧ (rd = true → K (Res.rv
  (AV.i .i64 13) ⟨z1 (CS.ro c rd) (zl (SS.o s)) (zl (AObj.cells 45 2 [] (z1 (AV.i .i64 (Int.ofNat n)) (zl (AV.s d)) T.e))), 3, [2]⟩) Orc.z) ∧ (rd = false → True ∧ K (Res.rv (AV.i .i64 2) ⟨z1 (CS.ro c rd) (zl (SS.o s)) (zl (AObj.cells 45 2 [] (z1 (AV.i .i64 (Int.ofNat n)) (zl (AV.s d)) T.e))), 3, [2]⟩) Orc.z))) := by kernel_rfl
theorem ApplyZ_vc (c : CS) (rd : Bool) (s : SS) (b x : Int) (d : List Nat) (sv gen : Int) (h : decide (1 ≤ x) = false) (K : Res → Orc → Prop) : runK Tryd.prog 1000000 (.call 35 [.p 0 0, .i .i64 b, .agg [.i .i64 x, .s d], .i .i64 sv, .i .i64 gen] (mkH [some (c.ro rd), some s.o])) (Orc.inl (Orc.inl (Orc.s (Orc.t (Orc.t (Orc.t (Orc.s (Orc.t (Orc.inl (Orc.inl (Orc.f (Orc.f (Orc.f (Orc.f (oc 5 (Orc.t (oc 6 (Orc.inl (Orc.c (Orc.s (Orc.c Orc.z) (oc 2 Orc.z)))))))))))))) (Orc.f (Orc.f (oc 6 (Orc.inl (Orc.c (Orc.s (Orc.c Orc.z) (oc 2 Orc.z))))))))))) (Orc.f (Orc.f (Orc.f (oc 9 (Orc.inl (Orc.c (Orc.s (Orc.c Orc.z) (oc 2 Orc.z))))))))))) K = ((decide (0 ≤ b) = true → decide (0 ≤ b) = true ∧ decide (0 ≤ b) = true ∧ decide (0 ≤ b) = true ∧ (decide (b ≤ 127) = true → decide (b ≤ 127) = true ∧ True ∧ decide (1 ≤ x) = false ∧ decide (1 ≤ x) = false ∧ decide (1 ≤ x) = false ∧ decide (1 ≤ x) = false ∧
  decide (b ≤ 127) = true ∧ True ∧ True ∧ True ∧ (rd = true → K (Res.rv (AV.i .i64 13) ⟨z1 (CS.ro c rd) (z1 (SS.o s) (zl (AObj.cells 45 2 [] (z1 (AV.i .i64 x) (zl (AV.s d)) T.e))) T.e) (zl (AObj.cells 45 2 [] (z1 (AV.i .i64 x) (zl (AV.s d)) T.e))), 4, [3, 2]⟩) Orc.z) ∧ (rd = false → True ∧ K (Res.rv (AV.i .i64 2) ⟨z1 (CS.ro c rd) (z1 (SS.o s) (zl (AObj.cells 45 2 [] (z1 (AV.i .i64 x) (zl (AV.s d)) T.e))) T.e) (zl (AObj.cells 45 2 [] (z1 (AV.i .i64 x) (zl (AV.s d)) T.e))), 4, [3, 2]⟩) Orc.z)) ∧ (decide (b ≤ 127) = false → decide (b ≤ 127) = false ∧ decide (b ≤ 127) = false ∧ True ∧ True ∧ True ∧ (rd = true → K (Res.rv (AV.i .i64 13) ⟨z1 (CS.ro c rd) (zl (SS.o s)) (zl (AObj.cells 45 2 [] (z1 (AV.i .i64 x) (zl (AV.s d)) T.e))), 3, [2]⟩) Orc.z) ∧ (rd = false → True ∧ K (Res.rv (AV.i .i64 2) ⟨z1 (CS.ro c rd) (zl (SS.o s)) (zl (AObj.cells 45 2 [] (z1 (AV.i .i64 x) (zl (AV.s d)) T.e))), 3, [2]⟩)
  Orc.z))) ∧ (decide (0 ≤ b) = false → decide (0 ≤ b) = false ∧ decide (0 ≤ b) = false ∧ decide (0 ≤ b) = false ∧ True ∧ True ∧ True ∧ (rd = true → K (Res.rv (AV.i .i64 13) ⟨z1 (CS.ro c rd) (zl (SS.o s)) (zl (AObj.cells 45 2 [] (z1 (AV.i .i64 x) (zl (AV.s d)) T.e))), 3, [2]⟩) Orc.z) ∧ (rd = false → True ∧ K (Res.rv (AV.i .i64 2) ⟨z1 (CS.ro c rd) (zl (SS.o s)) (zl (AObj.cells 45 2 [] (z1 (AV.i .i64 x) (zl (AV.s d)) T.e))), 3, [2]⟩) Orc.z))) := by kernel_rfl
noncomputable def fnc (c : CS) (sv : Int) : Int := [Int.ofNat (mV c 2), Int.ofNat (mV c 3), Int.ofNat (mV c 4)].getD sv.toNat 0
noncomputable def mayA (b x : Int) (d : List Nat) (sv gen : Int) : Bool :=
  decide ((0 : Int) ≤ b) && (decide (b ≤ (127 : Int)) && (decide ((1 : Int) ≤ x) && (decide (x ≤ (1099511627776 : Int)) && (decide (Int.ofNat d.length ≤ (44 : Int)) && (decide ((0 : Int) ≤ sv) && (decide (sv ≤ (2 : Int)) && (decide ((1 : Int) ≤ gen) && decide (gen ≤ (1099511627776 : Int)))))))))
noncomputable def applyW (c : CS) (rd : Bool) (b x : Int) (d : List Nat) (sv gen : Int) : Int :=
  bif rd then 13 else bif mayA b x d sv gen then
    (bif decide (gen < fnc c sv) then 22 else bif decide (x = Int.ofNat (bQ c b)) && natsEq d (bD c b) then 0 else bif decide (x ≤ Int.ofNat (bQ c b)) then 25 else -1)
  else 2
theorem apply_dead (c : CS) (s : SS) (b : Int) (n : Nat) (d : List Nat) (sv gen : Int) : Con Tryd.prog 35 [.p 0 0, .i .i64 b, .agg [.i .i64 (Int.ofNat n), .s d], .i .i64 sv, .i .i64 gen] [some (c.ro true), some s.o] (.i .i64 13) [.set (c.ro true), .set s.o] := by
  refine con_of_run [] [] ((Apply_vc c true s b n d sv gen _).mpr ?_)
  cases h0 : decide ((0 : Int) ≤ b) with
  | false => simp only [h0, bs]; exact ⟨_, _, rfl, ret_is (by kernel_rfl) rfl (by kernel_rfl) (by kernel_rfl) rfl ⟨by kernel_rfl, by kernel_rfl, by kernel_rfl, by kernel_rfl, trivial⟩⟩
  | true =>
    cases h1 : decide (b ≤ (127 : Int)) with
    | false => simp only [h0, h1, bs]; exact ⟨_, _, rfl, ret_is (by kernel_rfl) rfl (by kernel_rfl) (by kernel_rfl) rfl ⟨by kernel_rfl, by kernel_rfl, by kernel_rfl, by kernel_rfl, trivial⟩⟩
    | true =>
      cases h2 : decide ((1 : Int) ≤ Int.ofNat n) with
      | false => simp only [h0, h1, h2, bs]; exact ⟨_, _, rfl, ret_is (by kernel_rfl) rfl (by kernel_rfl) (by kernel_rfl) rfl ⟨by kernel_rfl, by kernel_rfl, by kernel_rfl, by kernel_rfl, trivial⟩⟩
      | true =>
        cases h3 : decide (Int.ofNat n ≤ (1099511627776 : Int)) with
        | false => simp only [h0, h1, h2, h3, bs]; exact ⟨_, _, rfl, ret_is (by kernel_rfl) rfl (by kernel_rfl) (by kernel_rfl) rfl ⟨by kernel_rfl, by kernel_rfl, by kernel_rfl, by kernel_rfl, trivial⟩⟩
        | true =>
          cases h4 : decide (Int.ofNat d.length ≤ (44 : Int)) with
          | false => simp only [h0, h1, h2, h3, h4, bs]; exact ⟨_, _, rfl, ret_is (by kernel_rfl) rfl (by kernel_rfl) (by kernel_rfl) rfl ⟨by kernel_rfl, by kernel_rfl, by kernel_rfl, by kernel_rfl, trivial⟩⟩
          | true =>
            cases h5 : decide ((0 : Int) ≤ sv) with
            | false => simp only [h0, h1, h2, h3, h4, h5, bs]; exact ⟨_, _, rfl, ret_is (by kernel_rfl) rfl (by kernel_rfl) (by kernel_rfl) rfl ⟨by kernel_rfl, by kernel_rfl, by kernel_rfl, by kernel_rfl, trivial⟩⟩
            | true =>
              cases h6 : decide (sv ≤ (2 : Int)) with
              | false => simp only [h0, h1, h2, h3, h4, h5, h6, bs]; exact ⟨_, _, rfl, ret_is (by kernel_rfl) rfl (by kernel_rfl) (by kernel_rfl) rfl ⟨by kernel_rfl, by kernel_rfl, by kernel_rfl, by kernel_rfl, trivial⟩⟩
              | true =>
                cases h7 : decide ((1 : Int) ≤ gen) with
                | false => simp only [h0, h1, h2, h3, h4, h5, h6, h7, bs]; exact ⟨_, _, rfl, ret_is (by kernel_rfl) rfl (by kernel_rfl) (by kernel_rfl) rfl ⟨by kernel_rfl, by kernel_rfl, by kernel_rfl, by kernel_rfl, trivial⟩⟩
                | true =>
                  simp only [h0, h1, h2, h3, h4, h5, h6, h7, bs]; exact ⟨_, _, rfl, ret_is (by kernel_rfl) rfl (by kernel_rfl) (by kernel_rfl) rfl ⟨by kernel_rfl, by kernel_rfl, by kernel_rfl, by kernel_rfl, trivial⟩⟩
theorem apply_bad (c : CS) (s : SS) (b : Int) (n : Nat) (d : List Nat) (sv gen : Int) (h : mayA b (Int.ofNat n) d sv gen = false) : Con Tryd.prog 35 [.p 0 0, .i .i64 b, .agg [.i .i64 (Int.ofNat n), .s d], .i .i64 sv, .i .i64 gen] [some (c.ro false), some s.o] (.i .i64 2) [.set (c.ro false), .set s.o] := by
  refine con_of_run [] [] ((Apply_vc c false s b n d sv gen _).mpr ?_)
  cases h0 : decide ((0 : Int) ≤ b) with
  | false => simp only [h0, bs]; exact ⟨_, _, rfl, ret_is (by kernel_rfl) rfl (by kernel_rfl) (by kernel_rfl) rfl ⟨by kernel_rfl, by kernel_rfl, by kernel_rfl, by kernel_rfl, trivial⟩⟩
  | true =>
    cases h1 : decide (b ≤ (127 : Int)) with
    | false => simp only [h0, h1, bs]; exact ⟨_, _, rfl, ret_is (by kernel_rfl) rfl (by kernel_rfl) (by kernel_rfl) rfl ⟨by kernel_rfl, by kernel_rfl, by kernel_rfl, by kernel_rfl, trivial⟩⟩
    | true =>
      cases h2 : decide ((1 : Int) ≤ Int.ofNat n) with
      | false => simp only [h0, h1, h2, bs]; exact ⟨_, _, rfl, ret_is (by kernel_rfl) rfl (by kernel_rfl) (by kernel_rfl) rfl ⟨by kernel_rfl, by kernel_rfl, by kernel_rfl, by kernel_rfl, trivial⟩⟩
      | true =>
        cases h3 : decide (Int.ofNat n ≤ (1099511627776 : Int)) with
        | false => simp only [h0, h1, h2, h3, bs]; exact ⟨_, _, rfl, ret_is (by kernel_rfl) rfl (by kernel_rfl) (by kernel_rfl) rfl ⟨by kernel_rfl, by kernel_rfl, by kernel_rfl, by kernel_rfl, trivial⟩⟩
        | true =>
          cases h4 : decide (Int.ofNat d.length ≤ (44 : Int)) with
          | false => simp only [h0, h1, h2, h3, h4, bs]; exact ⟨_, _, rfl, ret_is (by kernel_rfl) rfl (by kernel_rfl) (by kernel_rfl) rfl ⟨by kernel_rfl, by kernel_rfl, by kernel_rfl, by kernel_rfl, trivial⟩⟩
          | true =>
            cases h5 : decide ((0 : Int) ≤ sv) with
            | false => simp only [h0, h1, h2, h3, h4, h5, bs]; exact ⟨_, _, rfl, ret_is (by kernel_rfl) rfl (by kernel_rfl) (by kernel_rfl) rfl ⟨by kernel_rfl, by kernel_rfl, by kernel_rfl, by kernel_rfl, trivial⟩⟩
            | true =>
              cases h6 : decide (sv ≤ (2 : Int)) with
              | false => simp only [h0, h1, h2, h3, h4, h5, h6, bs]; exact ⟨_, _, rfl, ret_is (by kernel_rfl) rfl (by kernel_rfl) (by kernel_rfl) rfl ⟨by kernel_rfl, by kernel_rfl, by kernel_rfl, by kernel_rfl, trivial⟩⟩
              | true =>
                cases h7 : decide ((1 : Int) ≤ gen) with
                | false => simp only [h0, h1, h2, h3, h4, h5, h6, h7, bs]; exact ⟨_, _, rfl, ret_is (by kernel_rfl) rfl (by kernel_rfl) (by kernel_rfl) rfl ⟨by kernel_rfl, by kernel_rfl, by kernel_rfl, by kernel_rfl, trivial⟩⟩
                | true =>
                  cases h8 : decide (gen ≤ (1099511627776 : Int)) with
                  | false => simp only [h0, h1, h2, h3, h4, h5, h6, h7, h8, bs]; exact ⟨_, _, rfl, ret_is (by kernel_rfl) rfl (by kernel_rfl) (by kernel_rfl) rfl ⟨by kernel_rfl, by kernel_rfl, by kernel_rfl, by kernel_rfl, trivial⟩⟩
                  | true =>
                    exact absurd h (by simp only [mayA, h0, h1, h2, h3, h4, h5, h6, h7, h8, Bool.and_self, Bool.true_and, reduceCtorEq, not_false_eq_true, Bool.true_eq_false])
theorem mayA_all {b x : Int} {d : List Nat} {sv gen : Int} (h : mayA b x d sv gen = true) :
    decide ((0 : Int) ≤ b) = true ∧ decide (b ≤ (127 : Int)) = true ∧ decide ((1 : Int) ≤ x) = true ∧ decide (x ≤ (1099511627776 : Int)) = true ∧ decide (Int.ofNat d.length ≤ (44 : Int)) = true ∧ decide ((0 : Int) ≤ sv) = true ∧ decide (sv ≤ (2 : Int)) = true ∧ decide ((1 : Int) ≤ gen) = true ∧ decide (gen ≤ (1099511627776 : Int)) = true := by
  unfold mayA at h
  simpa only [Bool.and_eq_true] using h
theorem apply_good {c : CS} {s : SS} {m : Nat} (h : Inv c s m) (ht : Txt c) (hm : m < 1073741823) (b : Int) (n : Nat) (d : List Nat) (sv gen : Int) (hd : ∀ x ∈ d, x < 256) (hy : mayA b (Int.ofNat n) d sv gen = true) :
    Act 35 [.p 0 0, .i .i64 b, .agg [.i .i64 (Int.ofNat n), .s d], .i .i64 sv, .i .i64 gen] (applyW c false b (Int.ofNat n) d sv gen) c false s b (btx n d) := by
  have hw : applyW c false b (Int.ofNat n) d sv gen = (bif decide (gen < fnc c sv) then 22 else bif decide (Int.ofNat n = Int.ofNat (bQ c b)) && natsEq d (bD c b) then 0 else bif decide (Int.ofNat n ≤ Int.ofNat (bQ c b)) then 25 else -1) := by unfold applyW; rw [hy]; rfl
  obtain ⟨h0, h1, h2, h3, h4, h5, h6, h7, h8⟩ := mayA_all hy
  have k1 := meta_con c false s ht
  have k2 := block_con c false s b ht
  have hsv : (0 : Int) ≤ sv ∧ sv < 3 := by have a := of_decide_eq_true h5; have b := of_decide_eq_true h6; omega
  have eb : (decide (Int.ofNat n = Int.ofNat (bQ c b)) && (natsEq d (bD c b) && true)) = (decide (Int.ofNat n = Int.ofNat (bQ c b)) && natsEq d (bD c b)) := by rw [Bool.and_true]
  rw [hw]
  cases g0 : decide (gen < fnc c sv) with
  | true =>
    have g0' : decide (gen < List.getD [Int.ofNat (mV c 2), Int.ofNat (mV c 3), Int.ofNat (mV c 4)] sv.toNat 0) = true := g0
    refine .no (by rfl) (con_of_run [] [] ((Apply_vc c false s b n d sv gen _).mpr ?_))
    simp only [h0, h1, h2, h3, h4, h5, h6, h7, h8, g0', bs]
    exact ⟨k1, hsv, _, _, rfl, ret_is (by kernel_rfl) rfl (by kernel_rfl) (by kernel_rfl) rfl ⟨by kernel_rfl, by kernel_rfl, by kernel_rfl, by kernel_rfl, trivial⟩⟩
  | false =>
    have g0' : decide (gen < List.getD [Int.ofNat (mV c 2), Int.ofNat (mV c 3), Int.ofNat (mV c 4)] sv.toNat 0) = false := g0
    cases g1 : (decide (Int.ofNat n = Int.ofNat (bQ c b)) && natsEq d (bD c b)) with
    | true =>
      refine .no (by rfl) (con_of_run [] [] ((Apply_vc c false s b n d sv gen _).mpr ?_))
      simp only [h0, h1, h2, h3, h4, h5, h6, h7, h8, g0', eb, g1, bs]
      exact ⟨k1, hsv, k2, _, _, rfl, ret_is (by kernel_rfl) rfl (by kernel_rfl) (by kernel_rfl) rfl ⟨by kernel_rfl, by kernel_rfl, by kernel_rfl, by kernel_rfl, trivial⟩⟩
    | false =>
      cases g2 : decide (Int.ofNat n ≤ Int.ofNat (bQ c b)) with
      | true =>
        refine .no (by rfl) (con_of_run [] [] ((Apply_vc c false s b n d sv gen _).mpr ?_))
        simp only [h0, h1, h2, h3, h4, h5, h6, h7, h8, g0', eb, g1, g2, bs]
        exact ⟨k1, hsv, k2, _, _, rfl, ret_is (by kernel_rfl) rfl (by kernel_rfl) (by kernel_rfl) rfl ⟨by kernel_rfl, by kernel_rfl, by kernel_rfl, by kernel_rfl, trivial⟩⟩
      | false =>
        have hn : n ≤ 1099511627776 := by have := of_decide_eq_true h3; simp at this; omega
        have hl : d.length ≤ 1000000 := by have := of_decide_eq_true h4; simp at this; omega
        refine .yes (by rfl) (con_of_run [] [] ((Apply_vc c false s b n d sv gen _).mpr ?_))
        simp only [h0, h1, h2, h3, h4, h5, h6, h7, h8, g0', eb, g1, g2, bs]
        exact ⟨k1, hsv, k2, blockText_con n d (by omega) hl, rpd_con h hm false b _ (btx_lt (by omega) hd), _, _, rfl, ret_is (by kernel_rfl) rfl (by kernel_rfl) (by kernel_rfl) rfl ⟨by kernel_rfl, by kernel_rfl, by kernel_rfl, by kernel_rfl, trivial⟩⟩
theorem apply_con {c : CS} {s : SS} {m : Nat} (h : Inv c s m) (ht : Txt c) (hm : m < 1073741823) (rd : Bool) (b x : Int) (d : List Nat) (sv gen : Int) (hd : ∀ x ∈ d, x < 256) :
    Act 35 [.p 0 0, .i .i64 b, .agg [.i .i64 x, .s d], .i .i64 sv, .i .i64 gen] (applyW c rd b x d sv gen) c rd s b (btx x.toNat d) := by
  cases hx : decide ((1 : Int) ≤ x) with
  | false =>
    have hmay : mayA b x d sv gen = false := by unfold mayA; rw [hx]; simp only [Bool.false_and, Bool.and_false]
    cases rd with
    | true => exact .no (by unfold applyW; rfl) (con_of_run [] [] ((ApplyZ_vc c true s b x d sv gen hx _).mpr (by cases h0 : decide ((0 : Int) ≤ b) <;> cases h1 : decide (b ≤ (127 : Int)) <;> simp only [h0, h1, hx, bs] <;> exact ⟨_, _, rfl, ret_is (by kernel_rfl) rfl (by kernel_rfl) (by kernel_rfl) rfl ⟨by kernel_rfl, by kernel_rfl, by kernel_rfl, by kernel_rfl, trivial⟩⟩)))
    | false =>
      have e : applyW c false b x d sv gen = 2 := by unfold applyW; rw [hmay]; rfl
      rw [e]
      exact .no (by rfl) (con_of_run [] [] ((ApplyZ_vc c false s b x d sv gen hx _).mpr (by cases h0 : decide ((0 : Int) ≤ b) <;> cases h1 : decide (b ≤ (127 : Int)) <;> simp only [h0, h1, hx, bs] <;> exact ⟨_, _, rfl, ret_is (by kernel_rfl) rfl (by kernel_rfl) (by kernel_rfl) rfl ⟨by kernel_rfl, by kernel_rfl, by kernel_rfl, by kernel_rfl, trivial⟩⟩)))
  | true =>
    obtain ⟨n, rfl⟩ : ∃ n : Nat, x = Int.ofNat n := ⟨x.toNat, by have := of_decide_eq_true hx; simp; omega⟩
    cases rd with
    | true => exact .no (by unfold applyW; rfl) (apply_dead c s b n d sv gen)
    | false =>
      cases hy : mayA b (Int.ofNat n) d sv gen with
      | true => exact apply_good h ht hm b n d sv gen hd hy
      | false =>
        have e : applyW c false b (Int.ofNat n) d sv gen = 2 := by unfold applyW; rw [hy]; rfl
        rw [e]
        exact .no (by rfl) (apply_bad c s b n d sv gen hy)
end Go.Proofs.Cl
