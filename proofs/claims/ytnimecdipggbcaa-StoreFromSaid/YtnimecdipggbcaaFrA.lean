/- Runs over unknown values, told by the kernel: part FrA. -/
import Derived.Test.YtnimecdipggbcaaStA
set_option linter.unusedSimpArgs false
set_option linter.unusedVariables false
/- Sectors that are handed in. -/
namespace Go.Proofs.St
open Go Go.Sim
noncomputable def z0 {α : Type} (a b : T α) : T α := T.n none a b
noncomputable def z1 {α : Type} (v : α) (a b : T α) : T α := T.n (some v) a b
noncomputable def zl {α : Type} (v : α) : T α := T.n (some v) T.e T.e
/-- Bytes, and lists of bytes, as they are told of a slice. -/
noncomputable def bF (b : Nat → Nat) : Nat → Nat → CV := fun k _ => .i .u8 (Int.ofNat (b k))
noncomputable def imF (ll : Nat → Nat) (bb : Nat → Nat → Nat) : Nat → Nat → CV := fun i _ => .sv 1 (ll i) fun k _ => .i .u8 (Int.ofNat (bb i k))
end Go.Proofs.St

set_option maxRecDepth 20000
namespace Go.Proofs.St
open Go Go.Sim Go.Proofs.Ytnimecdipggbcaa

theorem copiedR_vc (n k : Nat) (bs : Nat → Nat) (ff : Nat → Nat → CV) (K : Res → Orc → Prop) : runK Try.prog 1000000 (.code (loopAt Try.prog 38 0) 22 (mkT [(0, .sv 1 n (bF bs)),
  (3, .lr 0 1 0 n false), (4, .i .i64 (Int.ofNat k))]) (mkH [some (.rows 5 1 n ff)])) (Orc.s Orc.z Orc.z) K = ((decide (Int.ofNat k < Int.ofNat n) = true → ((0 : Int) ≤ Int.ofNat k
  ∧ Int.ofNat k < ↑n) ∧ True ∧ ((0 : Int) ≤ Int.ofNat k ∧ Int.ofNat k < ↑n) ∧ k < n ∧ ((-9223372036854775808 : Int) ≤ Int.ofNat k + (1 : Int) ∧ Int.ofNat k + (1 : Int) ≤
  (9223372036854775807 : Int)) ∧ K (Res.st XO.nrm (z1 (AV.sv 1 n (bF bs)) (z0 (z1 (AV.lr 0 1 0 n false) (z0 (zl (AV.i .i64 (Int.ofNat k))) T.e) (z1 (AV.b (decide (Int.ofNat k <
  Int.ofNat n))) (zl (AV.i .u8 (Int.ofNat (bs k)))) T.e)) (z0 (z1 (AV.sv 1 n (bF bs)) (zl (AV.i .i64 (Int.ofNat k))) T.e) (zl (AV.i .i64 (Int.ofNat k + (1 : Int)))))) (z0 (z1 (AV.i
  .i64 (Int.ofNat k + (1 : Int))) (z1 (AV.i .i64 (Int.ofNat k)) (zl (AV.sv 1 n (bF bs))) T.e) (z1 (AV.i .i64 (Int.ofNat k)) (zl (AV.pr 0 1 k 0)) T.e)) (z0 (z1 (AV.i .i64 (Int.ofNat
  n)) (zl (AV.pv 1 (bF bs k))) T.e) (zl (AV.lr 0 1 0 n false))))) { tree := zl (AObj.rows 5 1 n (setRow ff k 0 [CV.i .u8 (Int.ofNat (bs k))])), next := 1, log := [0] }) Orc.z) ∧
  (decide (Int.ofNat k < Int.ofNat n) = false → K (Res.st (XO.exit 0) (z1 (AV.sv 1 n (bF bs)) (z0 (z1 (AV.lr 0 1 0 n false) T.e (zl (AV.b (decide (Int.ofNat k < Int.ofNat n))))) (z0
  (zl (AV.sv 1 n (bF bs))) T.e)) (z0 (z1 (AV.i .i64 (Int.ofNat k)) (zl (AV.i .i64 (Int.ofNat k))) T.e) (z0 (zl (AV.i .i64 (Int.ofNat n))) T.e))) { tree := zl (AObj.rows 5 1 n ff), next := 1, log := [] })
  Orc.z)) := by kernel_rfl

theorem copied_vc (n : Nat) (bs : Nat → Nat) (K : Res → Orc → Prop) : runK Try.prog 1000000 (.call 38 [.sv 1 n (bF bs)] (mkH [])) (Orc.s (Orc.lop [0] [0, 3, 4] 0 (XO.exit 0) [(3,
  AV.lr 0 1 0 n false)] [some (AObj.rows 5 1 n (bF bs))] Orc.z) Orc.z) K = (((0 : Int) ≤ Int.ofNat n ∧ Int.ofNat n ≤ Int.ofNat n ∧ Int.ofNat n ≤ (1073741824 : Int)) ∧ LDoes Try.prog
  (loopAt Try.prog 38 0) 22 0 (mkT [(0, AV.sv 1 n (bF bs)), (3, AV.lr 0 1 0 n false), (4, AV.i .i64 (0 : Int))]) [some (AObj.rows 5 1 n fun x j => List.getD [CV.i .u8 (0 : Int)] j
  CV.p0)] (XO.exit 0) (mkT [(3, AV.lr 0 1 0 n false)]) [some (AObj.rows 5 1 n (bF bs))] ∧ K (Res.rv (AV.lr 1 1 0 n false) { tree := z0 (zl (AObj.rows 5 1 n (bF bs))) T.e, next := 2, log := [1, 0, 0] })
  Orc.z) := by kernel_rfl

/-! ### the reference's copy of bytes -/

noncomputable def cpF (b : Nat → Nat) (k : Nat) : Nat → Nat → CV := fun i _ => .i .u8 (bif Nat.blt i k then Int.ofNat (b i) else 0)
theorem cp_step (b : Nat → Nat) (n k : Nat) : OEq (some (.rows 5 1 n (setRow (cpF b k) k 0 [.i .u8 (Int.ofNat (b k))]))) (some (.rows 5 1 n (cpF b (k + 1)))) := by
  refine .rows fun i j hi hj => ?_
  have : j = 0 := by omega
  subst this
  show CV.i .u8 (bif Nat.beq i k then Int.ofNat (b k) else (bif Nat.blt i k then Int.ofNat (b i) else 0)) = CV.i .u8 (bif Nat.blt i (k + 1) then Int.ofNat (b i) else 0)
  by_cases h : i = k
  · subst h
    rw [Nat.beq_refl, cond_true, show Nat.blt i (i + 1) = true by rw [Nat.blt_eq]; omega, cond_true]
  · rw [show Nat.beq i k = false by rw [Bool.eq_false_iff, ne_eq, Nat.beq_eq]; exact h, cond_false]
    by_cases h2 : i < k
    · rw [show Nat.blt i k = true by rw [Nat.blt_eq]; exact h2, show Nat.blt i (k + 1) = true by rw [Nat.blt_eq]; omega]
    · rw [show Nat.blt i k = false by rw [Bool.eq_false_iff, ne_eq, Nat.blt_eq]; exact h2, show Nat.blt i (k + 1) = false by rw [Bool.eq_false_iff, ne_eq, Nat.blt_eq]; omega]
theorem copiedL_lp (n : Nat) (bs : Nat → Nat) (hn : n ≤ 1073741824) : LDoes Try.prog (loopAt Try.prog 38 0) 22 0 (mkT [(0, .sv 1 n (bF bs)), (3, .lr 0 1 0 n false), (4, .i .i64 0)]) [some (.rows 5 1 n (cpF bs 0))] (.exit 0) (mkT [(3, .lr 0 1 0 n false)]) [some (.rows 5 1 n (bF bs))] := by
  refine loop_indE (D := Nat) (l' := [(3, .lr 0 1 0 n false)]) (fun k => ([(0, .sv 1 n (bF bs)), (3, .lr 0 1 0 n false), (4, .i .i64 (Int.ofNat k))], [some (.rows 5 1 n (cpF bs k))])) (fun k => n - k) (fun k => k ≤ n) ?_ 0 (Nat.zero_le n)
  intro k hk
  refine ⟨Nat.zero_le _, 1000000, _, (copiedR_vc n k bs (cpF bs k) _).mpr ⟨fun h => ?_, fun h => ?_⟩⟩
  · have hlt : k < n := by have := of_decide_eq_true h; simp at this; omega
    exact ⟨⟨by simp, by simp; omega⟩, trivial, ⟨by simp, by simp; omega⟩, hlt, ⟨by simp <;> omega, by simp <;> omega⟩, .inl ⟨k + 1, [0], [], _, _, _, hlt, by show n - (k + 1) < n - k; omega, rfl,
      st_is [0] (objs := [some (.rows 5 1 n (setRow (cpF bs k) k 0 [.i .u8 (Int.ofNat (bs k))]))]) (by kernel_rfl) rfl rfl rfl ⟨by kernel_rfl, by kernel_rfl, trivial⟩ rfl, cp_step bs n k, trivial⟩⟩
  · have hge : ¬ k < n := by have := of_decide_eq_false h; simp at this; omega
    refine .inr ⟨[0], [], _, _, _, rfl, by simp, st_is [0] (objs := [some (.rows 5 1 n (cpF bs k))]) (by kernel_rfl) rfl rfl rfl ⟨by kernel_rfl, by kernel_rfl, trivial⟩ rfl, .rows fun i j hi hj => ?_, trivial⟩
    show CV.i .u8 (bif Nat.blt i k then Int.ofNat (bs i) else 0) = CV.i .u8 (Int.ofNat (bs i))
    rw [show Nat.blt i k = true by rw [Nat.blt_eq]; omega, cond_true]

theorem copied_con (n : Nat) (bs : Nat → Nat) (hn : n ≤ 1073741824) : Con Try.prog 38 [.sv 1 n (bF bs)] [] (.sv 1 n (bF bs)) [] :=
  con_of_run [1] [] ((copied_vc n bs _).mpr ⟨⟨by simp, Int.le_refl _, by simp; omega⟩, (copiedL_lp n bs hn).oeq ⟨.rows fun i j hi hj => by
    have : j = 0 := by omega
    subst this
    show CV.i .u8 (bif Nat.blt i 0 then Int.ofNat (bs i) else 0) = _
    rw [show Nat.blt i 0 = false by rw [Bool.eq_false_iff, ne_eq, Nat.blt_eq]; omega]; exact Eq.refl _, trivial⟩ ⟨.inl rfl, trivial⟩, _, _, rfl, ret_fz [1] ((1 = 1 ∧ 0 + n ≤ n) ∧ True) (by kernel_rfl) (by kernel_rfl) ⟨⟨rfl, by omega⟩, trivial⟩ (by kernel_rfl) rfl (by kernel_rfl) (by kernel_rfl) rfl trivial⟩)

/-! ### two images are compared -/

theorem sameR_vc (n m k : Nat) (ll mm : Nat → Nat) (bb cb : Nat → Nat → Nat) (K : Res → Orc → Prop) : runK Try.prog 1000000 (.code (loopAt Try.prog 31 0) 28 (mkT [(0, .sv 1 n (imF
  ll bb)), (1, .sv 1 m (imF mm cb)), (5, .i .i64 (Int.ofNat k))]) (mkH [])) (Orc.s (Orc.s Orc.z Orc.z) Orc.z) K = ((decide (Int.ofNat k < Int.ofNat n) = true → ((0 : Int) ≤
  Int.ofNat k ∧ Int.ofNat k < ↑n) ∧ True ∧ (U8s (ll k) fun k_1 x => CV.i .u8 (Int.ofNat (bb k k_1))) ∧ ((0 : Int) ≤ Int.ofNat k ∧ Int.ofNat k < ↑m) ∧ True ∧ (U8s (mm k) fun k_1 x =>
  CV.i .u8 (Int.ofNat (cb k k_1))) ∧ ((!natsEq (bytesF (ll k) fun k_1 x => CV.i .u8 (Int.ofNat (bb k k_1))) (bytesF (mm k) fun k_1 x => CV.i .u8 (Int.ofNat (cb k k_1)))) = true → K
  (Res.st XO.ret (z1 (AV.sv 1 n (imF ll bb)) (z1 (AV.sv 1 m (imF mm cb)) (z0 (z0 T.e (zl (AV.i .i64 (Int.ofNat k)))) (z1 (AV.i .i64 (Int.ofNat k)) (zl (AV.pv 1 (imF ll bb k))) (zl
  (AV.b !natsEq (bytesF (ll k) fun k_1 x => CV.i .u8 (Int.ofNat (bb k k_1))) (bytesF (mm k) fun k_1 x => CV.i .u8 (Int.ofNat (cb k k_1))))))) (z1 (AV.i .i64 (Int.ofNat k)) (z0 (zl
  (AV.sv 1 n (imF ll bb))) (zl (AV.sv 1 (mm k) fun k_1 x => CV.i .u8 (Int.ofNat (cb k k_1))))) (z1 (AV.i .i64 (Int.ofNat n)) (zl (AV.s (bytesF (ll k) fun k_1 x => CV.i .u8
  (Int.ofNat (bb k k_1))))) T.e))) (z0 (z1 (AV.b false) (z0 T.e (zl (AV.pv 1 (imF mm cb k)))) (z1 (AV.sv 1 n (imF ll bb)) (zl (AV.sv 1 (ll k) fun k_1 x => CV.i .u8 (Int.ofNat (bb k
  k_1)))) T.e)) (z0 (z0 (zl (AV.i .i64 (Int.ofNat k))) (zl (AV.s (bytesF (mm k) fun k_1 x => CV.i .u8 (Int.ofNat (cb k k_1)))))) (z1 (AV.b (decide (Int.ofNat k < Int.ofNat n))) (zl
  (AV.sv 1 m (imF mm cb))) T.e)))) { tree := T.e, next := 0, log := [] }) Orc.z) ∧ ((!natsEq (bytesF (ll k) fun k_1 x => CV.i .u8 (Int.ofNat (bb k k_1))) (bytesF (mm k) fun k_1 x =>
  CV.i .u8 (Int.ofNat (cb k k_1)))) = false → ((-9223372036854775808 : Int) ≤ Int.ofNat k + (1 : Int) ∧ Int.ofNat k + (1 : Int) ≤ (9223372036854775807 : Int)) ∧ K (Res.st XO.nrm (z1
  (AV.sv 1 n (imF ll bb)) (z1 (AV.sv 1 m (imF mm cb)) (z0 (z0 (zl (AV.i .i64 (Int.ofNat k))) (zl (AV.i .i64 (Int.ofNat k)))) (z1 (AV.i .i64 (Int.ofNat k)) (zl (AV.pv 1 (imF ll bb
  k))) (zl (AV.b !natsEq (bytesF (ll k) fun k_1 x => CV.i .u8 (Int.ofNat (bb k k_1))) (bytesF (mm k) fun k_1 x => CV.i .u8 (Int.ofNat (cb k k_1))))))) (z1 (AV.i .i64 (Int.ofNat k +
  (1 : Int))) (z0 (zl (AV.sv 1 n (imF ll bb))) (zl (AV.sv 1 (mm k) fun k_1 x => CV.i .u8 (Int.ofNat (cb k k_1))))) (z1 (AV.i .i64 (Int.ofNat n)) (zl (AV.s (bytesF (ll k) fun k_1 x
  => CV.i .u8 (Int.ofNat (bb k k_1))))) T.e))) (z0 (z0 (z0 (zl (AV.i .i64 (Int.ofNat k + (1 : Int)))) (zl (AV.pv 1 (imF mm cb k)))) (z1 (AV.sv 1 n (imF ll bb)) (zl (AV.sv 1 (ll k)
  fun k_1 x => CV.i .u8 (Int.ofNat (bb k k_1)))) T.e)) (z0 (z0 (zl (AV.i .i64 (Int.ofNat k))) (zl (AV.s (bytesF (mm k) fun k_1 x => CV.i .u8 (Int.ofNat (cb k k_1)))))) (z1 (AV.b
  (decide (Int.ofNat k < Int.ofNat n))) (zl (AV.sv 1 m (imF mm cb))) T.e)))) { tree := T.e, next := 0, log := [] }) Orc.z)) ∧ (decide (Int.ofNat k < Int.ofNat n) = false → K (Res.st
  (XO.exit 0) (z1 (AV.sv 1 n (imF ll bb)) (z1 (AV.sv 1 m (imF mm cb)) (z0 T.e (zl (AV.i .i64 (Int.ofNat k)))) (z1 (AV.i .i64 (Int.ofNat k)) T.e (zl (AV.i .i64 (Int.ofNat n))))) (z0
  (z0 T.e (zl (AV.sv 1 n (imF ll bb)))) (z0 T.e (zl (AV.b (decide (Int.ofNat k < Int.ofNat n))))))) { tree := T.e, next := 0, log := [] }) Orc.z)) := by kernel_rfl

theorem same_vc (n m : Nat) (ll mm : Nat → Nat) (bb cb : Nat → Nat → Nat) (K : Res → Orc → Prop) : runK Try.prog 1000000 (.call 31 [.sv 1 n (imF ll bb), .sv 1 m (imF mm cb)] (mkH
  [])) (Orc.s Orc.z (Orc.lop [] [0, 1, 5] 0 (XO.exit 0) [] [] Orc.z)) K = (((!decide (Int.ofNat n = Int.ofNat m)) = true → K (Res.rv (AV.b false) { tree := T.e, next := 0, log := [] })
  Orc.z) ∧ ((!decide (Int.ofNat n = Int.ofNat m)) = false → LDoes Try.prog (loopAt Try.prog 31 0) 28 0 (mkT [(0, AV.sv 1 n (imF ll bb)), (1, AV.sv 1 m (imF mm cb)), (5, AV.i .i64 (0
  : Int))]) [] (XO.exit 0) (mkT []) [] ∧ K (Res.rv (AV.b true) { tree := T.e, next := 0, log := [] }) Orc.z)) := by kernel_rfl

theorem im_u8 (n : Nat) (b : Nat → Nat) : U8s n fun k _ => .i .u8 (Int.ofNat (b k)) := fun k hk => ⟨b k, rfl⟩

theorem nats_same (a : List Nat) : natsEq a a = true := (natsEq_iff a a).2 rfl
theorem bytes_same {n : Nat} {b c : Nat → Nat} (h : ∀ k, k < n → c k = b k) : bytesF n (fun k _ => .i .u8 (Int.ofNat (b k))) = bytesF n (fun k _ => .i .u8 (Int.ofNat (c k))) := by
  unfold bytesF
  refine List.map_congr_left fun k hk => ?_
  show Go.Sim.byteOf (CV.i .u8 (Int.ofNat (b k))) = Go.Sim.byteOf (CV.i .u8 (Int.ofNat (c k)))
  rw [h k (List.mem_range.1 hk)]
theorem sameG_lp (n : Nat) (ll mm : Nat → Nat) (bb cb : Nat → Nat → Nat) (hn : n ≤ 512) (he : ∀ i, i < n → mm i = ll i ∧ ∀ k, k < ll i → cb i k = bb i k) :
    LDoes Try.prog (loopAt Try.prog 31 0) 28 0 (mkT [(0, .sv 1 n (imF ll bb)), (1, .sv 1 n (imF mm cb)), (5, .i .i64 0)]) [] (.exit 0) (mkT []) [] := by
  refine loop_ind (D := Nat) (l' := []) (fun k => ([(0, .sv 1 n (imF ll bb)), (1, .sv 1 n (imF mm cb)), (5, .i .i64 (Int.ofNat k))], [])) (fun k => n - k) (fun k => k ≤ n) ?_ 0 (Nat.zero_le n)
  intro k hk
  refine ⟨Nat.zero_le _, 1000000, _, (sameR_vc n n k ll mm bb cb _).mpr ⟨fun h => ?_, fun h => ?_⟩⟩
  · have hlt : k < n := by have := of_decide_eq_true h; simp at this; omega
    obtain ⟨e1, e2⟩ := he k hlt
    have u1 := im_u8 (ll k) (bb k)
    have u2 := im_u8 (mm k) (cb k)
    have ne : (!natsEq (bytesF (ll k) fun q _ => CV.i .u8 (Int.ofNat (bb k q))) (bytesF (mm k) fun q _ => CV.i .u8 (Int.ofNat (cb k q)))) = false := by
      rw [e1, ← bytes_same e2, nats_same]; rfl
    exact ⟨⟨by simp, by simp; omega⟩, trivial, u1, ⟨by simp, by simp; omega⟩, trivial, u2, fun h => (by rw [ne] at h; cases h), fun _ => ⟨⟨by simp <;> omega, by simp <;> omega⟩, .inl ⟨k + 1, [], [], _, _, hlt, by show n - (k + 1) < n - k; omega, rfl,
      st_is [] (by kernel_rfl) rfl rfl rfl trivial rfl⟩⟩⟩
  · exact .inr ⟨[], [], _, _, rfl, by simp, st_is [] (by kernel_rfl) rfl rfl rfl trivial rfl⟩
/-- Equal images are the same. -/
theorem same_con (n : Nat) (ll mm : Nat → Nat) (bb cb : Nat → Nat → Nat) (hn : n ≤ 512) (he : ∀ i, i < n → mm i = ll i ∧ ∀ k, k < ll i → cb i k = bb i k) :
    Con Try.prog 31 [.sv 1 n (imF ll bb), .sv 1 n (imF mm cb)] [] (.b true) [] :=
  con_plain rfl ((same_vc n n ll mm bb cb _).mpr ⟨fun h => absurd h (by simp), fun _ => ⟨sameG_lp n ll mm bb cb hn he, _, _, rfl, rfl⟩⟩)

/-! ### the reference's From -/

theorem rfrom0_vc (n : Nat) (ll : Nat → Nat) (bb : Nat → Nat → Nat) (K : Res → Orc → Prop) : runK Try.prog 1000000 (.code (loopAt Try.prog 33 0) 51 (mkT [(0, .sv 1 n (imF ll bb)),
  (4, .p 0 0), (5, .i .i64 0)]) (mkH [some (.cells 50 5 [] (setAll .e 0 [.l0, .l0, .i .i64 0, .i .i64 (-1), .b false]))])) (Orc.s (Orc.s (Orc.t (Orc.t (Orc.t (Orc.t (Orc.t (Orc.t
  (Orc.s Orc.z (Orc.cal [] (AV.sv 1 (ll 0) fun k x => CV.i .u8 (Int.ofNat (bb 0 k))) [] Orc.z)))))))) (Orc.f (Orc.f (Orc.f (Orc.f (Orc.f (Orc.f (Orc.c (Orc.cal [] (AV.sv 1 (ll 0)
  fun k x => CV.i .u8 (Int.ofNat (bb 0 k))) [] Orc.z))))))))) Orc.z) K = ((decide ((0 : Int) < Int.ofNat n) = true → ((0 : Int) ≤ (0 : Int) ∧ (0 : Int) < ↑n) ∧ True ∧ ((!decide
  (Int.ofNat (ll 0) = (64 : Int))) = true → (!decide (Int.ofNat (ll 0) = (64 : Int))) = true ∧ (!decide (Int.ofNat (ll 0) = (64 : Int))) = true ∧ ((0 : Int) ≤ (0 : Int) ∧ (0 : Int)
  < ↑n) ∧ (!decide (Int.ofNat (ll 0) = (64 : Int))) = true ∧ True ∧ (!decide (Int.ofNat (ll 0) = (64 : Int))) = true ∧ (!decide (Int.ofNat (ll 0) = (64 : Int))) = true ∧ (!decide
  (Int.ofNat (ll 0) = (64 : Int))) = true ∧ ((!decide (Int.ofNat (ll 0) = (0 : Int))) = true → K (Res.st XO.ret (z1 (AV.sv 1 n (imF ll bb)) (z0 (z1 (AV.i .i64 (2 : Int)) (z0 (z0 (zl
  (AV.pv 1 (imF ll bb 0))) T.e) (zl (AV.i .i64 (0 : Int)))) (z0 (z1 (AV.b (decide ((0 : Int) < Int.ofNat n))) (zl (AV.b !decide (Int.ofNat (ll 0) = (0 : Int)))) T.e) (zl (AV.b
  !decide (Int.ofNat (ll 0) = (64 : Int)))))) (z1 (AV.i .i64 (0 : Int)) (z0 (z1 (AV.sv 1 n (imF ll bb)) (zl (AV.i .i64 (Int.ofNat (ll 0)))) T.e) (zl (AV.sv 1 (ll 0) fun k x => CV.i
  .u8 (Int.ofNat (bb 0 k))))) (z0 T.e (zl (AV.sv 1 n (imF ll bb)))))) (z1 AV.p0 (z1 (AV.p 0 0) (z0 (z1 (AV.i .i64 (0 : Int)) (zl (AV.sv 1 (ll 0) fun k x => CV.i .u8 (Int.ofNat (bb 0
  k)))) T.e) (zl (AV.pv 1 (imF ll bb 0)))) (z0 T.e (zl (AV.b !decide (Int.ofNat (ll 0) = (64 : Int)))))) (z0 (z0 (z1 (AV.i .i64 (Int.ofNat n)) (zl (AV.b !decide (Int.ofNat (ll 0) =
  (0 : Int)))) T.e) (zl (AV.i .i64 (Int.ofNat (ll 0))))) (z0 (zl (AV.sv 1 n (imF ll bb))) (zl (AV.i .i64 (0 : Int))))))) { tree := zl (AObj.cells 50 5 [] (z1 AV.l0 (z1 AV.l0 (zl (AV.i .i64 (-1 : Int))) T.e) (z1 (AV.i .i64 (0 : Int)) (zl (AV.b false)) T.e))), next := 1, log := [] })
  Orc.z) ∧ ((!decide (Int.ofNat (ll 0) = (0 : Int))) = false → True ∧ ((0 : Int) ≤ (0 : Int) ∧ (0 : Int) < ↑n) ∧ True ∧ Con Try.prog 38 [AV.sv 1 (ll 0) fun k x => CV.i .u8
  (Int.ofNat (bb 0 k))] [] (AV.sv 1 (ll 0) fun k x => CV.i .u8 (Int.ofNat (bb 0 k))) [] ∧ True ∧ ((-9223372036854775808 : Int) ≤ (1 : Int) ∧ (1 : Int) ≤ (9223372036854775807 : Int))
  ∧ K (Res.st XO.nrm (z1 (AV.sv 1 n (imF ll bb)) (z0 (z0 (z0 (z0 (zl (AV.pv 1 (imF ll bb 0))) (zl (AV.l 2 0 1 1 1 false))) (z1 (AV.i .i64 (0 : Int)) (zl (AV.p 0 0)) T.e)) (z0 (z1
  (AV.b (decide ((0 : Int) < Int.ofNat n))) (zl (AV.b !decide (Int.ofNat (ll 0) = (0 : Int)))) T.e) (z1 (AV.b !decide (Int.ofNat (ll 0) = (64 : Int))) (zl (AV.pv 1 (imF ll bb 0)))
  T.e))) (z1 (AV.i .i64 (1 : Int)) (z0 (z1 (AV.sv 1 n (imF ll bb)) (zl (AV.i .i64 (Int.ofNat (ll 0)))) (zl (AV.p 0 0))) (z1 (AV.sv 1 (ll 0) fun k x => CV.i .u8 (Int.ofNat (bb 0 k)))
  (zl (AV.sv 1 n (imF ll bb))) T.e)) (z0 (z1 (AV.i .i64 (1 : Int)) (zl (AV.p 0 0)) T.e) (z1 (AV.sv 1 n (imF ll bb)) (zl (AV.sv 1 (ll 0) fun k x => CV.i .u8 (Int.ofNat (bb 0 k))))
  T.e)))) (z0 (z1 (AV.p 0 0) (z0 (z1 (AV.i .i64 (0 : Int)) (zl (AV.sv 1 (ll 0) fun k x => CV.i .u8 (Int.ofNat (bb 0 k)))) (zl (AV.p 0 0))) (z1 (AV.pv 1 (imF ll bb 0)) (zl AV.l0)
  T.e)) (z0 (z1 (AV.i .i64 (0 : Int)) (zl (AV.p 0 0)) T.e) (z1 (AV.b !decide (Int.ofNat (ll 0) = (64 : Int))) (zl (AV.sv 1 (ll 0) fun k x => CV.i .u8 (Int.ofNat (bb 0 k)))) T.e)))
  (z0 (z0 (z1 (AV.i .i64 (Int.ofNat n)) (zl (AV.b !decide (Int.ofNat (ll 0) = (0 : Int)))) T.e) (z1 (AV.i .i64 (Int.ofNat (ll 0))) (zl (AV.i .i64 (0 : Int))) T.e)) (z0 (z1 (AV.sv 1
  n (imF ll bb)) (zl (AV.p 0 0)) T.e) (z1 (AV.i .i64 (0 : Int)) (zl (AV.l 1 0 1 1 1 true)) T.e))))) { tree := z1 (AObj.cells 50 5 [] (z1 (AV.l 2 0 1 1 1 false) (z1 AV.l0 (zl (AV.i .i64 (-1 : Int))) T.e) (z1 (AV.i .i64 (0 : Int)) (zl (AV.b false)) T.e))) (zl (AObj.cells 35 1 [] (zl (AV.sv 1 (ll 0) fun k x => CV.i .u8 (Int.ofNat (bb 0 k)))))) (zl (AObj.cells 35 1 [] (zl (AV.sv 1 (ll 0) fun k x => CV.i .u8 (Int.ofNat (bb 0 k)))))), next := 3, log := [0, 2, 1] })
  Orc.z)) ∧ ((!decide (Int.ofNat (ll 0) = (64 : Int))) = false → (!decide (Int.ofNat (ll 0) = (64 : Int))) = false ∧ (!decide (Int.ofNat (ll 0) = (64 : Int))) = false ∧ (!decide
  (Int.ofNat (ll 0) = (64 : Int))) = false ∧ (!decide (Int.ofNat (ll 0) = (64 : Int))) = false ∧ (!decide (Int.ofNat (ll 0) = (64 : Int))) = false ∧ (!decide (Int.ofNat (ll 0) = (64
  : Int))) = false ∧ True ∧ ((0 : Int) ≤ (0 : Int) ∧ (0 : Int) < ↑n) ∧ True ∧ Con Try.prog 38 [AV.sv 1 (ll 0) fun k x => CV.i .u8 (Int.ofNat (bb 0 k))] [] (AV.sv 1 (ll 0) fun k x =>
  CV.i .u8 (Int.ofNat (bb 0 k))) [] ∧ True ∧ ((-9223372036854775808 : Int) ≤ (1 : Int) ∧ (1 : Int) ≤ (9223372036854775807 : Int)) ∧ K (Res.st XO.nrm (z1 (AV.sv 1 n (imF ll bb)) (z0
  (z0 (z0 (z0 (zl (AV.tup [])) (zl (AV.l 2 0 1 1 1 false))) (z1 (AV.i .i64 (0 : Int)) (zl (AV.p 0 0)) T.e)) (z0 (z1 (AV.b (decide ((0 : Int) < Int.ofNat n))) (zl (AV.b false)) T.e)
  (z1 (AV.b !decide (Int.ofNat (ll 0) = (64 : Int))) (zl (AV.pv 1 (imF ll bb 0))) T.e))) (z1 (AV.i .i64 (1 : Int)) (z0 (z1 (AV.sv 1 n (imF ll bb)) (zl (AV.tup [])) (zl (AV.p 0 0)))
  (z1 (AV.sv 1 (ll 0) fun k x => CV.i .u8 (Int.ofNat (bb 0 k))) (zl (AV.sv 1 n (imF ll bb))) T.e)) (z0 (z1 (AV.i .i64 (1 : Int)) (zl (AV.p 0 0)) T.e) (z1 (AV.tup []) (zl (AV.sv 1
  (ll 0) fun k x => CV.i .u8 (Int.ofNat (bb 0 k)))) T.e)))) (z0 (z1 (AV.p 0 0) (z0 (z1 (AV.i .i64 (0 : Int)) (zl (AV.tup [])) (zl (AV.p 0 0))) (z1 (AV.pv 1 (imF ll bb 0)) (zl AV.l0)
  T.e)) (z0 (z1 (AV.i .i64 (0 : Int)) (zl (AV.p 0 0)) T.e) (z1 (AV.b !decide (Int.ofNat (ll 0) = (64 : Int))) (zl (AV.sv 1 (ll 0) fun k x => CV.i .u8 (Int.ofNat (bb 0 k)))) T.e)))
  (z0 (z0 (z1 (AV.i .i64 (Int.ofNat n)) (zl (AV.tup [])) T.e) (z1 (AV.i .i64 (Int.ofNat (ll 0))) (zl (AV.i .i64 (0 : Int))) T.e)) (z0 (z1 (AV.sv 1 n (imF ll bb)) (zl (AV.p 0 0))
  T.e) (z1 (AV.tup []) (zl (AV.l 1 0 1 1 1 true)) T.e))))) { tree := z1 (AObj.cells 50 5 [] (z1 (AV.l 2 0 1 1 1 false) (z1 AV.l0 (zl (AV.i .i64 (-1 : Int))) T.e) (z1 (AV.i .i64 (0 : Int)) (zl (AV.b false)) T.e))) (zl (AObj.cells 35 1 [] (zl (AV.sv 1 (ll 0) fun k x => CV.i .u8 (Int.ofNat (bb 0 k)))))) (zl (AObj.cells 35 1 [] (zl (AV.sv 1 (ll 0) fun k x => CV.i .u8 (Int.ofNat (bb 0 k)))))), next := 3, log := [0, 2, 1] })
  Orc.z)) ∧ (decide ((0 : Int) < Int.ofNat n) = false → K (Res.st (XO.exit 0) (z1 (AV.sv 1 n (imF ll bb)) (z0 (z0 T.e (z0 (zl (AV.b (decide ((0 : Int) < Int.ofNat n)))) T.e)) (z1
  (AV.i .i64 (0 : Int)) (z0 (zl (AV.sv 1 n (imF ll bb))) T.e) T.e)) (z0 (z1 (AV.p 0 0) (z0 (zl (AV.i .i64 (0 : Int))) T.e) T.e) (z0 (z0 (zl (AV.i .i64 (Int.ofNat n))) T.e) T.e))) { tree := zl (AObj.cells 50 5 [] (z1 AV.l0 (z1 AV.l0 (zl (AV.i .i64 (-1 : Int))) T.e) (z1 (AV.i .i64 (0 : Int)) (zl (AV.b false)) T.e))), next := 1, log := [] })
  Orc.z)) := by kernel_rfl

theorem rfromR_vc (n k : Nat) (ll : Nat → Nat) (bb : Nat → Nat → Nat) (ff : Nat → Nat → CV) (K : Res → Orc → Prop) : runK Try.prog 1000000 (.code (loopAt Try.prog 33 0) 51 (mkT
  [(0, .sv 1 n (imF ll bb)), (4, .p 0 0), (5, .i .i64 (Int.ofNat k))]) (mkH [some (.cells 50 5 [] (setAll .e 0 [.lr 1 1 0 k false, .l0, .i .i64 0, .i .i64 (-1), .b false])), some
  (.rows 35 1 k ff)])) (Orc.s (Orc.s (Orc.t (Orc.t (Orc.t (Orc.t (Orc.t (Orc.t (Orc.s Orc.z (Orc.cal [] (AV.sv 1 (ll k) fun k_1 x => CV.i .u8 (Int.ofNat (bb k k_1))) []
  Orc.z)))))))) (Orc.f (Orc.f (Orc.f (Orc.f (Orc.f (Orc.f (Orc.c (Orc.cal [] (AV.sv 1 (ll k) fun k_1 x => CV.i .u8 (Int.ofNat (bb k k_1))) [] Orc.z))))))))) Orc.z) K = ((decide
  (Int.ofNat k < Int.ofNat n) = true → ((0 : Int) ≤ Int.ofNat k ∧ Int.ofNat k < ↑n) ∧ True ∧ ((!decide (Int.ofNat (ll k) = (64 : Int))) = true → (!decide (Int.ofNat (ll k) = (64 :
  Int))) = true ∧ (!decide (Int.ofNat (ll k) = (64 : Int))) = true ∧ ((0 : Int) ≤ Int.ofNat k ∧ Int.ofNat k < ↑n) ∧ (!decide (Int.ofNat (ll k) = (64 : Int))) = true ∧ True ∧
  (!decide (Int.ofNat (ll k) = (64 : Int))) = true ∧ (!decide (Int.ofNat (ll k) = (64 : Int))) = true ∧ (!decide (Int.ofNat (ll k) = (64 : Int))) = true ∧ ((!decide (Int.ofNat (ll
  k) = (0 : Int))) = true → K (Res.st XO.ret (z1 (AV.sv 1 n (imF ll bb)) (z0 (z1 (AV.i .i64 (2 : Int)) (z0 (z0 (zl (AV.pv 1 (imF ll bb k))) T.e) (zl (AV.i .i64 (Int.ofNat k)))) (z0
  (z1 (AV.b (decide (Int.ofNat k < Int.ofNat n))) (zl (AV.b !decide (Int.ofNat (ll k) = (0 : Int)))) T.e) (zl (AV.b !decide (Int.ofNat (ll k) = (64 : Int)))))) (z1 (AV.i .i64
  (Int.ofNat k)) (z0 (z1 (AV.sv 1 n (imF ll bb)) (zl (AV.i .i64 (Int.ofNat (ll k)))) T.e) (zl (AV.sv 1 (ll k) fun k_1 x => CV.i .u8 (Int.ofNat (bb k k_1))))) (z0 T.e (zl (AV.sv 1 n
  (imF ll bb)))))) (z1 AV.p0 (z1 (AV.p 0 0) (z0 (z1 (AV.i .i64 (Int.ofNat k)) (zl (AV.sv 1 (ll k) fun k_1 x => CV.i .u8 (Int.ofNat (bb k k_1)))) T.e) (zl (AV.pv 1 (imF ll bb k))))
  (z0 T.e (zl (AV.b !decide (Int.ofNat (ll k) = (64 : Int)))))) (z0 (z0 (z1 (AV.i .i64 (Int.ofNat n)) (zl (AV.b !decide (Int.ofNat (ll k) = (0 : Int)))) T.e) (zl (AV.i .i64
  (Int.ofNat (ll k))))) (z0 (zl (AV.sv 1 n (imF ll bb))) (zl (AV.i .i64 (Int.ofNat k))))))) { tree := z1 (AObj.cells 50 5 [] (z1 (AV.lr 1 1 0 k false) (z1 AV.l0 (zl (AV.i .i64 (-1 : Int))) T.e) (z1 (AV.i .i64 (0 : Int)) (zl (AV.b false)) T.e))) (zl (AObj.rows 35 1 k ff)) T.e, next := 2, log := [] })
  Orc.z) ∧ ((!decide (Int.ofNat (ll k) = (0 : Int))) = false → True ∧ ((0 : Int) ≤ Int.ofNat k ∧ Int.ofNat k < ↑n) ∧ True ∧ Con Try.prog 38 [AV.sv 1 (ll k) fun k_1 x => CV.i .u8
  (Int.ofNat (bb k k_1))] [] (AV.sv 1 (ll k) fun k_1 x => CV.i .u8 (Int.ofNat (bb k k_1))) [] ∧ (0 + k ≤ k ∧ True ∧ k + 1 ≤ 140737488355328 ∧ (3 * (k + 1) + 1536) * 24 ≤
  562949953421312) ∧ True ∧ ((-9223372036854775808 : Int) ≤ Int.ofNat k + (1 : Int) ∧ Int.ofNat k + (1 : Int) ≤ (9223372036854775807 : Int)) ∧ K (Res.st XO.nrm (z1 (AV.sv 1 n (imF
  ll bb)) (z0 (z0 (z0 (z0 (zl (AV.pv 1 (imF ll bb k))) (zl (AV.lr 3 1 0 (addN k 1) false))) (z1 (AV.i .i64 (Int.ofNat k)) (zl (AV.p 0 0)) T.e)) (z0 (z1 (AV.b (decide (Int.ofNat k <
  Int.ofNat n))) (zl (AV.b !decide (Int.ofNat (ll k) = (0 : Int)))) T.e) (z1 (AV.b !decide (Int.ofNat (ll k) = (64 : Int))) (zl (AV.pv 1 (imF ll bb k))) T.e))) (z1 (AV.i .i64
  (Int.ofNat k + (1 : Int))) (z0 (z1 (AV.sv 1 n (imF ll bb)) (zl (AV.i .i64 (Int.ofNat (ll k)))) (zl (AV.p 0 0))) (z1 (AV.sv 1 (ll k) fun k_1 x => CV.i .u8 (Int.ofNat (bb k k_1)))
  (zl (AV.sv 1 n (imF ll bb))) T.e)) (z0 (z1 (AV.i .i64 (Int.ofNat k + (1 : Int))) (zl (AV.p 0 0)) T.e) (z1 (AV.sv 1 n (imF ll bb)) (zl (AV.sv 1 (ll k) fun k_1 x => CV.i .u8
  (Int.ofNat (bb k k_1)))) T.e)))) (z0 (z1 (AV.p 0 0) (z0 (z1 (AV.i .i64 (Int.ofNat k)) (zl (AV.sv 1 (ll k) fun k_1 x => CV.i .u8 (Int.ofNat (bb k k_1)))) (zl (AV.p 0 0))) (z1
  (AV.pv 1 (imF ll bb k)) (zl (AV.lr 1 1 0 k false)) T.e)) (z0 (z1 (AV.i .i64 (Int.ofNat k)) (zl (AV.p 0 0)) T.e) (z1 (AV.b !decide (Int.ofNat (ll k) = (64 : Int))) (zl (AV.sv 1 (ll
  k) fun k_1 x => CV.i .u8 (Int.ofNat (bb k k_1)))) T.e))) (z0 (z0 (z1 (AV.i .i64 (Int.ofNat n)) (zl (AV.b !decide (Int.ofNat (ll k) = (0 : Int)))) T.e) (z1 (AV.i .i64 (Int.ofNat
  (ll k))) (zl (AV.i .i64 (Int.ofNat k))) T.e)) (z0 (z1 (AV.sv 1 n (imF ll bb)) (zl (AV.p 0 0)) T.e) (z1 (AV.i .i64 (Int.ofNat k)) (zl (AV.l 2 0 1 1 1 true)) T.e))))) { tree := z1 (AObj.cells 50 5 [] (z1 (AV.lr 3 1 0 (addN k 1) false) (z1 AV.l0 (zl (AV.i .i64 (-1 : Int))) T.e) (z1 (AV.i .i64 (0 : Int)) (zl (AV.b false)) T.e))) (z0 (zl (AObj.rows 35 1 (addN k 1) (appZ k ff fun x j => List.getD [CV.sv 1 (ll k) fun k_1 x => CV.i .u8 (Int.ofNat (bb k k_1))] j CV.p0))) T.e) (zl (AObj.cells 35 1 [] (zl (AV.sv 1 (ll k) fun k_1 x => CV.i .u8 (Int.ofNat (bb k k_1)))))), next := 4, log := [0, 3, 1, 2] })
  Orc.z)) ∧ ((!decide (Int.ofNat (ll k) = (64 : Int))) = false → (!decide (Int.ofNat (ll k) = (64 : Int))) = false ∧ (!decide (Int.ofNat (ll k) = (64 : Int))) = false ∧ (!decide
  (Int.ofNat (ll k) = (64 : Int))) = false ∧ (!decide (Int.ofNat (ll k) = (64 : Int))) = false ∧ (!decide (Int.ofNat (ll k) = (64 : Int))) = false ∧ (!decide (Int.ofNat (ll k) = (64
  : Int))) = false ∧ True ∧ ((0 : Int) ≤ Int.ofNat k ∧ Int.ofNat k < ↑n) ∧ True ∧ Con Try.prog 38 [AV.sv 1 (ll k) fun k_1 x => CV.i .u8 (Int.ofNat (bb k k_1))] [] (AV.sv 1 (ll k)
  fun k_1 x => CV.i .u8 (Int.ofNat (bb k k_1))) [] ∧ (0 + k ≤ k ∧ True ∧ k + 1 ≤ 140737488355328 ∧ (3 * (k + 1) + 1536) * 24 ≤ 562949953421312) ∧ True ∧ ((-9223372036854775808 :
  Int) ≤ Int.ofNat k + (1 : Int) ∧ Int.ofNat k + (1 : Int) ≤ (9223372036854775807 : Int)) ∧ K (Res.st XO.nrm (z1 (AV.sv 1 n (imF ll bb)) (z0 (z0 (z0 (z0 (zl (AV.tup [])) (zl (AV.lr
  3 1 0 (addN k 1) false))) (z1 (AV.i .i64 (Int.ofNat k)) (zl (AV.p 0 0)) T.e)) (z0 (z1 (AV.b (decide (Int.ofNat k < Int.ofNat n))) (zl (AV.b false)) T.e) (z1 (AV.b !decide
  (Int.ofNat (ll k) = (64 : Int))) (zl (AV.pv 1 (imF ll bb k))) T.e))) (z1 (AV.i .i64 (Int.ofNat k + (1 : Int))) (z0 (z1 (AV.sv 1 n (imF ll bb)) (zl (AV.tup [])) (zl (AV.p 0 0)))
  (z1 (AV.sv 1 (ll k) fun k_1 x => CV.i .u8 (Int.ofNat (bb k k_1))) (zl (AV.sv 1 n (imF ll bb))) T.e)) (z0 (z1 (AV.i .i64 (Int.ofNat k + (1 : Int))) (zl (AV.p 0 0)) T.e) (z1 (AV.tup
  []) (zl (AV.sv 1 (ll k) fun k_1 x => CV.i .u8 (Int.ofNat (bb k k_1)))) T.e)))) (z0 (z1 (AV.p 0 0) (z0 (z1 (AV.i .i64 (Int.ofNat k)) (zl (AV.tup [])) (zl (AV.p 0 0))) (z1 (AV.pv 1
  (imF ll bb k)) (zl (AV.lr 1 1 0 k false)) T.e)) (z0 (z1 (AV.i .i64 (Int.ofNat k)) (zl (AV.p 0 0)) T.e) (z1 (AV.b !decide (Int.ofNat (ll k) = (64 : Int))) (zl (AV.sv 1 (ll k) fun
  k_1 x => CV.i .u8 (Int.ofNat (bb k k_1)))) T.e))) (z0 (z0 (z1 (AV.i .i64 (Int.ofNat n)) (zl (AV.tup [])) T.e) (z1 (AV.i .i64 (Int.ofNat (ll k))) (zl (AV.i .i64 (Int.ofNat k)))
  T.e)) (z0 (z1 (AV.sv 1 n (imF ll bb)) (zl (AV.p 0 0)) T.e) (z1 (AV.tup []) (zl (AV.l 2 0 1 1 1 true)) T.e))))) { tree := z1 (AObj.cells 50 5 [] (z1 (AV.lr 3 1 0 (addN k 1) false) (z1 AV.l0 (zl (AV.i .i64 (-1 : Int))) T.e) (z1 (AV.i .i64 (0 : Int)) (zl (AV.b false)) T.e))) (z0 (zl (AObj.rows 35 1 (addN k 1) (appZ k ff fun x j => List.getD [CV.sv 1 (ll k) fun k_1 x => CV.i .u8 (Int.ofNat (bb k k_1))] j CV.p0))) T.e) (zl (AObj.cells 35 1 [] (zl (AV.sv 1 (ll k) fun k_1 x => CV.i .u8 (Int.ofNat (bb k k_1)))))), next := 4, log := [0, 3, 1, 2] })
  Orc.z)) ∧ (decide (Int.ofNat k < Int.ofNat n) = false → K (Res.st (XO.exit 0) (z1 (AV.sv 1 n (imF ll bb)) (z0 (z0 T.e (z0 (zl (AV.b (decide (Int.ofNat k < Int.ofNat n)))) T.e))
  (z1 (AV.i .i64 (Int.ofNat k)) (z0 (zl (AV.sv 1 n (imF ll bb))) T.e) T.e)) (z0 (z1 (AV.p 0 0) (z0 (zl (AV.i .i64 (Int.ofNat k))) T.e) T.e) (z0 (z0 (zl (AV.i .i64 (Int.ofNat n)))
  T.e) T.e))) { tree := z1 (AObj.cells 50 5 [] (z1 (AV.lr 1 1 0 k false) (z1 AV.l0 (zl (AV.i .i64 (-1 : Int))) T.e) (z1 (AV.i .i64 (0 : Int)) (zl (AV.b false)) T.e))) (zl (AObj.rows 35 1 k ff)) T.e, next := 2, log := [] })
  Orc.z)) := by kernel_rfl

theorem rfromG_vc (n : Nat) (ll : Nat → Nat) (bb : Nat → Nat → Nat) (K : Res → Orc → Prop) : runK Try.prog 1000000 (.call 33 [.sv 1 n (imF ll bb)] (mkH [])) (Orc.s (Orc.t (Orc.t
  (Orc.f (Orc.s Orc.z (Orc.lop [0] [0, 4, 5] 0 (XO.exit 0) [(4, AV.p 0 0)] [some (AObj.cells 50 5 [] (setAll T.e 0 [AV.lr 1 1 0 n false, AV.l0, AV.i .i64 (0 : Int), AV.i .i64 (-1 :
  Int), AV.b false])), some (AObj.rows 35 1 n (imF ll bb))] Orc.z))))) (Orc.f (Orc.f (Orc.t (Orc.c Orc.z))))) K = (((!decide (Int.ofNat n < (1 : Int))) = true → (!decide (Int.ofNat
  n < (1 : Int))) = true ∧ (!decide (Int.ofNat n < (1 : Int))) = true ∧ decide (Int.ofNat n < (1 : Int)) = false ∧ (decide ((512 : Int) < Int.ofNat n) = true → K (Res.rv (AV.tup
  [AV.p0, AV.i .i64 (2 : Int)]) { tree := T.e, next := 0, log := [] }) Orc.z) ∧ (decide ((512 : Int) < Int.ofNat n) = false → LDoes Try.prog (loopAt Try.prog 33 0) 51 0 (mkT [(0,
  AV.sv 1 n (imF ll bb)), (4, AV.p 0 0), (5, AV.i .i64 (0 : Int))]) [some (AObj.cells 50 5 [] (setAll T.e 0 [AV.l0, AV.l0, AV.i .i64 (0 : Int), AV.i .i64 (-1 : Int), AV.b false]))]
  (XO.exit 0) (mkT [(4, AV.p 0 0)]) [some (AObj.cells 50 5 [] (setAll T.e 0 [AV.lr 1 1 0 n false, AV.l0, AV.i .i64 (0 : Int), AV.i .i64 (-1 : Int), AV.b false])), some (AObj.rows 35
  1 n (imF ll bb))] ∧ K (Res.rv (AV.tup [AV.p 1 0, AV.i .i64 (0 : Int)]) { tree := z0 (zl (AObj.cells 50 5 [] (z1 (AV.lr 2 1 0 n false) (z1 AV.l0 (zl (AV.i .i64 (-1 : Int))) T.e) (z1 (AV.i .i64 (0 : Int)) (zl (AV.b false)) T.e)))) (zl (AObj.rows 35 1 n (imF ll bb))), next := 3, log := [2, 1, 0, 0] })
  Orc.z)) ∧ ((!decide (Int.ofNat n < (1 : Int))) = false → (!decide (Int.ofNat n < (1 : Int))) = false ∧ (!decide (Int.ofNat n < (1 : Int))) = false ∧ decide (Int.ofNat n < (1 :
  Int)) = true ∧ K (Res.rv (AV.tup [AV.p0, AV.i .i64 (2 : Int)]) { tree := T.e, next := 0, log := [] }) Orc.z)) := by kernel_rfl

theorem rfromB_vc (n : Nat) (ll : Nat → Nat) (bb : Nat → Nat → Nat) (K : Res → Orc → Prop) : runK Try.prog 1000000 (.call 33 [.sv 1 n (imF ll bb)] (mkH [])) (Orc.s (Orc.t (Orc.t
  (Orc.f (Orc.s Orc.z (Orc.lop [0] [0, 4, 5] 0 XO.ret [(2, AV.p0), (3, AV.i .i64 (2 : Int))] [] Orc.z))))) (Orc.f (Orc.f (Orc.t (Orc.c Orc.z))))) K = (((!decide (Int.ofNat n < (1 :
  Int))) = true → (!decide (Int.ofNat n < (1 : Int))) = true ∧ (!decide (Int.ofNat n < (1 : Int))) = true ∧ decide (Int.ofNat n < (1 : Int)) = false ∧ (decide ((512 : Int) <
  Int.ofNat n) = true → K (Res.rv (AV.tup [AV.p0, AV.i .i64 (2 : Int)]) { tree := T.e, next := 0, log := [] }) Orc.z) ∧ (decide ((512 : Int) < Int.ofNat n) = false → LDoes Try.prog
  (loopAt Try.prog 33 0) 51 0 (mkT [(0, AV.sv 1 n (imF ll bb)), (4, AV.p 0 0), (5, AV.i .i64 (0 : Int))]) [some (AObj.cells 50 5 [] (setAll T.e 0 [AV.l0, AV.l0, AV.i .i64 (0 : Int),
  AV.i .i64 (-1 : Int), AV.b false]))] XO.ret (mkT [(2, AV.p0), (3, AV.i .i64 (2 : Int))]) [] ∧ K (Res.rv (AV.tup [AV.p0, AV.i .i64 (2 : Int)]) { tree := z0 T.e T.e, next := 1, log := [0, 0] })
  Orc.z)) ∧ ((!decide (Int.ofNat n < (1 : Int))) = false → (!decide (Int.ofNat n < (1 : Int))) = false ∧ (!decide (Int.ofNat n < (1 : Int))) = false ∧ decide (Int.ofNat n < (1 :
  Int)) = true ∧ K (Res.rv (AV.tup [AV.p0, AV.i .i64 (2 : Int)]) { tree := T.e, next := 0, log := [] }) Orc.z)) := by kernel_rfl

theorem app_im (ll : Nat → Nat) (bb : Nat → Nat → Nat) (k : Nat) {i j : Nat} (hi : i < k + 1) (hj : j < 1) :
    CW (appZ k (imF ll bb) (fun _ j => List.getD [CV.sv 1 (ll k) fun k_1 _ => CV.i .u8 (Int.ofNat (bb k k_1))] j .p0) i j) (imF ll bb i j) := by
  have : j = 0 := by omega
  subst this
  cases k with
  | zero =>
    have : i = 0 := by omega
    subst this
    exact .of (Eq.refl _)
  | succ k =>
    show CW (zipCV (Nat.blt i (k + 1)) (imF ll bb i 0) (CV.sv 1 (ll (k + 1)) fun k_1 _ => CV.i .u8 (Int.ofNat (bb (k + 1) k_1)))) (imF ll bb i 0)
    by_cases h : i < k + 1
    · rw [show Nat.blt i (k + 1) = true by rw [Nat.blt_eq]; exact h]
      exact .of (Eq.refl _)
    · have : i = k + 1 := by omega
      subst this
      rw [show Nat.blt (k + 1) (k + 1) = false by rw [Bool.eq_false_iff, ne_eq, Nat.blt_eq]; omega]
      exact .of (Eq.refl _)

noncomputable def rsO (v : AV) : AObj := .cells 50 5 [] (setAll .e 0 [v, .l0, .i .i64 0, .i .i64 (-1), .b false])
noncomputable def rfI (n : Nat) (ll : Nat → Nat) (bb : Nat → Nat → Nat) : Nat → List (Nat × AV) × List (Option AObj)
  | 0 => ([(0, .sv 1 n (imF ll bb)), (4, .p 0 0), (5, .i .i64 0)], [some (rsO .l0)])
  | k + 1 => ([(0, .sv 1 n (imF ll bb)), (4, .p 0 0), (5, .i .i64 (Int.ofNat (k + 1)))], [some (rsO (.lr 1 1 0 (k + 1) false)), some (.rows 35 1 (k + 1) (imF ll bb))])
theorem rs_ov (ll : Nat → Nat) (bb : Nat → Nat → Nat) : OVL [some (rsO (.l 1 0 1 1 1 false)), some (cellsO 35 [.sv 1 (ll 0) fun k _ => .i .u8 (Int.ofNat (bb 0 k))])] [some (rsO (.lr 1 1 0 1 false)), some (.rows 35 1 1 (imF ll bb))] := by
  refine ⟨.cellsD (dflt := []) (l := [.l 1 0 1 1 1 false, .l0, .i .i64 0, .i .i64 (-1), .b false]) (l' := [.lr 1 1 0 1 false, .l0, .i .i64 0, .i .i64 (-1), .b false]) ⟨⟨fun _ => rfl, fun ρ x h => h.l_lr⟩, .refl _, .refl _, .refl _, .refl _, trivial⟩, .x (OX.cellsRows (f := fun i => imF ll bb i 0) rfl fun i hi => ?_), trivial⟩
  have : i = 0 := by omega
  subst this
  refine ⟨_, rfl, fun ρ x h => ?_⟩
  cases h with | sv _ _ _ _ hc => exact hc

/-- A round of the reference's From over a sector that may be. -/
theorem rf_round (n : Nat) (ll : Nat → Nat) (bb : Nat → Nat → Nat) (hn : n ≤ 512) (k : Nat) (hk : k < n) (ok : ll k = 64 ∨ ll k = 0) (K : Res → Orc → Prop)
    (hK : ∀ σ tm1 H1 l1 objs1, StIs 0 σ [] tm1 H1 l1 objs1 → TVL l1 (rfI n ll bb (k + 1)).1 → OVL objs1 (rfI n ll bb (k + 1)).2 → ∀ o, K (.st .nrm tm1 H1) o) :
    ∃ o, runK Try.prog 1000000 (.code (loopAt Try.prog 33 0) 51 (mkT (rfI n ll bb k).1) (mkH (rfI n ll bb k).2)) o K := by
  have con := copied_con (ll k) (bb k) (by omega)
  have no : ∀ h : (!decide (Int.ofNat (ll k) = (64 : Int))) = true, (!decide (Int.ofNat (ll k) = (0 : Int))) = true → False := fun h h0 => by
    rcases ok with e | e <;> rw [e] at h h0
    · cases h
    · cases h0
  cases k with
  | zero =>
    have fin := fun tm1 H1 (st : StIs 0 [0, 2] [] tm1 H1 [(0, .sv 1 n (imF ll bb)), (4, .p 0 0), (5, .i .i64 1)] [some (rsO (.l 1 0 1 1 1 false)), some (cellsO 35 [.sv 1 (ll 0) fun k _ => .i .u8 (Int.ofNat (bb 0 k))])]) =>
      hK [0, 2] tm1 H1 _ _ st (.refl _) (rs_ov ll bb)
    refine ⟨_, (rfrom0_vc n ll bb K).mpr ⟨fun _ => ⟨⟨by decide, by simp; omega⟩, trivial, fun h => ⟨h, h, ⟨by decide, by simp; omega⟩, h, trivial, h, h, h, fun h0 => (no h h0).elim, fun h0 => ⟨trivial, ⟨by decide, by simp; omega⟩, trivial, con, trivial, by decide, ?_⟩⟩, fun h => ⟨h, h, h, h, h, h, trivial, ⟨by decide, by simp; omega⟩, trivial, con, trivial, by decide, ?_⟩⟩, fun h => absurd (of_decide_eq_false h) (by simp; omega)⟩⟩
    · exact fin _ _ (st_is [0, 2] (by kernel_rfl) rfl rfl rfl ⟨by kernel_rfl, by kernel_rfl, by kernel_rfl, by kernel_rfl, trivial⟩ rfl) _
    · exact fin _ _ (st_is [0, 2] (by kernel_rfl) rfl rfl rfl ⟨by kernel_rfl, by kernel_rfl, by kernel_rfl, by kernel_rfl, trivial⟩ rfl) _
  | succ k =>
    have fin := fun tm1 H1 (st : StIs 0 [0, 3] [] tm1 H1 [(0, .sv 1 n (imF ll bb)), (4, .p 0 0), (5, .i .i64 (Int.ofNat (k + 1 + 1)))] [some (rsO (.lr 1 1 0 (k + 1 + 1) false)), some (.rows 35 1 (k + 1 + 1) (appZ (k + 1) (imF ll bb) (fun _ j => List.getD [CV.sv 1 (ll (k + 1)) fun k_1 _ => CV.i .u8 (Int.ofNat (bb (k + 1) k_1))] j .p0)))]) =>
      hK [0, 3] tm1 H1 _ _ st (.refl _) ⟨.refl _, .rowsW fun i j hi hj => app_im ll bb (k + 1) hi hj, trivial⟩
    have sz : 0 + (k + 1) ≤ k + 1 ∧ True ∧ k + 1 + 1 ≤ 140737488355328 ∧ (3 * (k + 1 + 1) + 1536) * 24 ≤ 562949953421312 := ⟨by omega, trivial, by omega, by omega⟩
    have r1 : (0 : Int) ≤ Int.ofNat (k + 1) ∧ Int.ofNat (k + 1) < (n : Int) := ⟨by simp <;> omega, by simp <;> omega⟩
    have r2 : (-9223372036854775808 : Int) ≤ Int.ofNat (k + 1) + (1 : Int) ∧ Int.ofNat (k + 1) + (1 : Int) ≤ (9223372036854775807 : Int) := ⟨by simp <;> omega, by simp <;> omega⟩
    refine ⟨_, (rfromR_vc n (k + 1) ll bb (imF ll bb) K).mpr ⟨fun _ => ⟨r1, trivial, fun h => ⟨h, h, r1, h, trivial, h, h, h, fun h0 => (no h h0).elim, fun h0 => ⟨trivial, r1, trivial, con, sz, trivial, r2, ?_⟩⟩, fun h => ⟨h, h, h, h, h, h, trivial, r1, trivial, con, sz, trivial, r2, ?_⟩⟩, fun h => absurd (of_decide_eq_false h) (by simp; omega)⟩⟩
    · exact fin _ _ (st_is [0, 3] (by kernel_rfl) rfl rfl rfl ⟨by kernel_rfl, by kernel_rfl, by kernel_rfl, by kernel_rfl, trivial⟩ rfl) _
    · exact fin _ _ (st_is [0, 3] (by kernel_rfl) rfl rfl rfl ⟨by kernel_rfl, by kernel_rfl, by kernel_rfl, by kernel_rfl, trivial⟩ rfl) _

theorem rfromG_lp (n : Nat) (ll : Nat → Nat) (bb : Nat → Nat → Nat) (h1 : 1 ≤ n) (hn : n ≤ 512) (ok : ∀ i, i < n → ll i = 64 ∨ ll i = 0) :
    LDoes Try.prog (loopAt Try.prog 33 0) 51 0 (mkT (rfI n ll bb 0).1) (rfI n ll bb 0).2 (.exit 0) (mkT [(4, .p 0 0)]) [some (rsO (.lr 1 1 0 n false)), some (.rows 35 1 n (imF ll bb))] := by
  refine loop_indV (D := Nat) (l' := [(4, .p 0 0)]) (rfI n ll bb) (fun k => n - k) (fun k => k ≤ n) ?_ 0 (Nat.zero_le n)
  intro k hk
  refine ⟨Nat.zero_le _, 1000000, ?_⟩
  by_cases hlt : k < n
  · exact rf_round n ll bb hn k hlt (ok k hlt) _ fun σ tm1 H1 l1 objs1 st tv ov o => .inl ⟨k + 1, σ, [], _, _, l1, objs1, hlt, by show n - (k + 1) < n - k; omega, rfl, st, tv, ov⟩
  · have : k = n := by omega
    subst this
    cases k with
    | zero => omega
    | succ k =>
      exact ⟨_, (rfromR_vc (k + 1) (k + 1) ll bb (imF ll bb) _).mpr ⟨fun h => absurd (of_decide_eq_true h) (by simp), fun _ => .inr ⟨[0, 1], [], _, _, [(4, .p 0 0)], [some (rsO (.lr 1 1 0 (k + 1) false)), some (.rows 35 1 (k + 1) (imF ll bb))], rfl, by simp, st_is [0, 1] (by kernel_rfl) rfl rfl rfl ⟨by kernel_rfl, by kernel_rfl, by kernel_rfl, by kernel_rfl, trivial⟩ rfl, .refl _, .refl _⟩⟩⟩
theorem rfromB_lp (n : Nat) (ll : Nat → Nat) (bb : Nat → Nat → Nat) (hn : n ≤ 512) (q : Nat) (hq : q < n) (ok : ∀ i, i < q → ll i = 64 ∨ ll i = 0) (bad : ll q ≠ 64 ∧ ll q ≠ 0) :
    LDoes Try.prog (loopAt Try.prog 33 0) 51 0 (mkT (rfI n ll bb 0).1) (rfI n ll bb 0).2 .ret (mkT [(2, .p0), (3, .i .i64 2)]) [] := by
  refine loop_indV (D := Nat) (l' := [(2, .p0), (3, .i .i64 2)]) (rfI n ll bb) (fun k => n - k) (fun k => k ≤ q) ?_ 0 (Nat.zero_le q)
  intro k hk
  refine ⟨Nat.zero_le _, 1000000, ?_⟩
  by_cases hlt : k < q
  · exact rf_round n ll bb hn k (by omega) (ok k hlt) _ fun σ tm1 H1 l1 objs1 st tv ov o => .inl ⟨k + 1, σ, [], _, _, l1, objs1, hlt, by show n - (k + 1) < n - k; omega, rfl, st, tv, ov⟩
  · have : k = q := by omega
    subst this
    have d64 : decide (Int.ofNat (ll k) = (64 : Int)) = false := by simp; omega
    have d0 : decide (Int.ofNat (ll k) = (0 : Int)) = false := by simp; omega
    have n64 : (!decide (Int.ofNat (ll k) = (64 : Int))) = false → False := fun h => by rw [d64] at h; cases h
    have n0 : (!decide (Int.ofNat (ll k) = (0 : Int))) = false → False := fun h => by rw [d0] at h; cases h
    cases k with
    | zero =>
      exact ⟨_, (rfrom0_vc n ll bb _).mpr ⟨fun _ => ⟨⟨by decide, by simp; omega⟩, trivial, fun h => ⟨h, h, ⟨by decide, by simp; omega⟩, h, trivial, h, h, h, fun h0 => .inr ⟨[], [], _, _, [(2, .p0), (3, .i .i64 2)], [], rfl, by simp, st_is [] (by kernel_rfl) rfl rfl rfl trivial rfl, .refl _, .refl _⟩, fun h0 => (n0 h0).elim⟩, fun h => (n64 h).elim⟩, fun h => absurd (of_decide_eq_false h) (by simp; omega)⟩⟩
    | succ k =>
      have r1 : (0 : Int) ≤ Int.ofNat (k + 1) ∧ Int.ofNat (k + 1) < (n : Int) := ⟨by simp <;> omega, by simp <;> omega⟩
      exact ⟨_, (rfromR_vc n (k + 1) ll bb (imF ll bb) _).mpr ⟨fun _ => ⟨r1, trivial, fun h => ⟨h, h, r1, h, trivial, h, h, h, fun h0 => .inr ⟨[], [], _, _, [(2, .p0), (3, .i .i64 2)], [], rfl, by simp, st_is [] (by kernel_rfl) rfl rfl rfl trivial rfl, .refl _, .refl _⟩, fun h0 => (n0 h0).elim⟩, fun h => (n64 h).elim⟩, fun h => absurd (of_decide_eq_false h) (by simp; omega)⟩⟩
/-- The reference's From. -/
theorem rfrom_con (n : Nat) (ll : Nat → Nat) (bb : Nat → Nat → Nat) (h1 : 1 ≤ n) (hn : n ≤ 512) (ok : ∀ i, i < n → ll i = 64 ∨ ll i = 0) :
    Con Try.prog 33 [.sv 1 n (imF ll bb)] [] (.tup [.p 0 0, .i .i64 0]) [.set (rsO (.lr 1 1 0 n false)), .set (.rows 35 1 n (imF ll bb))] :=
  con_of_run [] [1, 2] ((rfromG_vc n ll bb _).mpr ⟨fun h => ⟨h, h, by simp; omega, fun h2 => absurd (of_decide_eq_true h2) (by simp; omega), fun _ => ⟨rfromG_lp n ll bb h1 hn ok, _, _, rfl, ret_is (by kernel_rfl) rfl (by kernel_rfl) (by kernel_rfl) rfl ⟨by kernel_rfl, by kernel_rfl, by kernel_rfl, by kernel_rfl, trivial⟩⟩⟩, fun h => absurd h (by simp; omega)⟩)
theorem rfromBad_con (n : Nat) (ll : Nat → Nat) (bb : Nat → Nat → Nat) (bad : n < 1 ∨ 512 < n ∨ ∃ q, q < n ∧ (∀ i, i < q → ll i = 64 ∨ ll i = 0) ∧ ll q ≠ 64 ∧ ll q ≠ 0) : Con Try.prog 33 [.sv 1 n (imF ll bb)] [] (.tup [.p0, .i .i64 2]) [] :=
  con_plain rfl ((rfromB_vc n ll bb _).mpr ⟨fun h => ⟨h, h, by simpa using h, fun _ => ⟨_, _, rfl, rfl⟩, fun h2 => ⟨by
    have h0 : ¬ n < 1 := by have := h; simp at this; omega
    have h2 : ¬ 512 < n := by have := of_decide_eq_false h2; simp at this; omega
    rcases bad with b | b | ⟨q, q1, q2, q3⟩
    · exact absurd b h0
    · exact absurd b h2
    · exact rfromB_lp n ll bb (by omega) q q1 q2 q3, _, _, rfl, rfl⟩⟩, fun h => ⟨h, h, by simpa using h, _, _, rfl, rfl⟩⟩)

end Go.Proofs.St

set_option maxRecDepth 20000
namespace Go.Proofs.St
open Go Go.Sim Go.Proofs.Ytnimecdipggbcaa

/-! ### From of any sectors -/

theorem sfromR_vc (n k : Nat) (ll : Nat → Nat) (bb : Nat → Nat → Nat) (s : SS) (K : Res → Orc → Prop) : runK Try.prog 1000000 (.code (loopAt Try.prog 10 0) 47 (mkT [(4, .p 0 0),
  (17, .sv 1 n (imF ll bb)), (18, .i .i64 (Int.ofNat n)), (19, .i .i64 (Int.ofNat k))]) (mkH [some s.o])) (Orc.s (Orc.s (Orc.s Orc.z Orc.z) (Orc.s Orc.z (Orc.s Orc.z Orc.z))) Orc.z)
  K = ((decide (Int.ofNat k < Int.ofNat n) = true → ((0 : Int) ≤ Int.ofNat k ∧ Int.ofNat k < ↑n) ∧ True ∧ (decide (Int.ofNat (ll k) = (0 : Int)) = true → True ∧ ((0 : Int) ≤
  Int.ofNat k ∧ Int.ofNat k < (512 : Int)) ∧ True ∧ k < 512 ∧ ((-9223372036854775808 : Int) ≤ Int.ofNat k + (1 : Int) ∧ Int.ofNat k + (1 : Int) ≤ (9223372036854775807 : Int)) ∧ K
  (Res.st XO.nrm (z0 (z0 (z0 (z1 (AV.sv 1 (ll k) fun k_1 x => CV.i .u8 (Int.ofNat (bb k k_1))) (z0 (zl (AV.ps 0 1 65 512 k)) T.e) (zl (AV.sv 1 (ll k) fun k_1 x => CV.i .u8
  (Int.ofNat (bb k k_1))))) (z0 (zl (AV.i .i64 (Int.ofNat k + (1 : Int)))) (zl (AV.p 0 0)))) (z0 (z0 (zl (AV.sv 1 n (imF ll bb))) (zl (AV.i .i64 (Int.ofNat (ll k))))) (z0 (zl (AV.i
  .i64 (Int.ofNat k))) (z1 (AV.p 0 0) (zl (AV.i .i64 (Int.ofNat k + (1 : Int)))) T.e)))) (z0 (z1 (AV.p 0 0) (z0 (z0 (zl (AV.ps 0 65 65 512 k)) T.e) (zl (AV.sv 1 (ll k) fun k_1 x =>
  CV.i .u8 (Int.ofNat (bb k k_1))))) (z0 (zl (AV.b (decide (Int.ofNat k < Int.ofNat n)))) (zl (AV.i .i64 (Int.ofNat k))))) (z1 (AV.i .i64 (Int.ofNat k)) (z0 (zl (AV.i .i64
  (Int.ofNat n))) (zl (AV.b (decide (Int.ofNat (ll k) = (0 : Int)))))) (z0 (zl (AV.pv 1 (imF ll bb k))) (zl (AV.p 0 1)))))) { tree := zl (AObj.segs 73 33799 [{ st := 0, sz := 1, n := 1, f := oneF (CV.i .i64 (Int.ofNat (SS.n s))) }, { st := 1, sz := 65, n := 512, f := setRow (fun i j => match Nat.blt j 64 with | true => CV.i .u8 (SS.dur s i j) | false => CV.b (SS.torn s i)) k 64 [CV.b true] }, { st := 33281, sz := 1, n := 1, f := oneF (CV.opv (pB (SS.P s)) 66 (pW (SS.P s))) }, { st := 33282, sz := 1, n := 512, f := latF (lB (SS.P s)) (lW (SS.P s)) }, { st := 33794, sz := 5, n := 1, f := tailF (Int.ofNat (List.length (SS.P s))) (Int.ofNat (SS.wr s)) (SS.off s) (SS.armed s) (Int.ofNat (SS.left s)) }]), next := 1, log := [0] })
  Orc.z) ∧ (decide (Int.ofNat (ll k) = (0 : Int)) = false → ((!decide (Int.ofNat (ll k) = (64 : Int))) = true → K (Res.st XO.ret (z0 (z0 (z1 (AV.i .i64 (2 : Int)) (z1 (AV.sv 1 (ll
  k) fun k_1 x => CV.i .u8 (Int.ofNat (bb k k_1))) T.e (zl (AV.sv 1 (ll k) fun k_1 x => CV.i .u8 (Int.ofNat (bb k k_1))))) (z0 (z1 (AV.i .i64 (Int.ofNat k)) (zl (AV.b !decide
  (Int.ofNat (ll k) = (64 : Int)))) T.e) T.e)) (z0 (z0 (z1 (AV.sv 1 n (imF ll bb)) (zl (AV.sv 1 (ll k) fun k_1 x => CV.i .u8 (Int.ofNat (bb k k_1)))) T.e) (zl (AV.i .i64 (Int.ofNat
  (ll k))))) (z0 (zl (AV.i .i64 (Int.ofNat k))) T.e))) (z1 AV.p0 (z1 (AV.p 0 0) (z0 T.e (zl (AV.sv 1 (ll k) fun k_1 x => CV.i .u8 (Int.ofNat (bb k k_1))))) (z0 (zl (AV.b (decide
  (Int.ofNat k < Int.ofNat n)))) T.e)) (z1 (AV.i .i64 (Int.ofNat k)) (z0 (z1 (AV.i .i64 (Int.ofNat n)) (zl (AV.i .i64 (Int.ofNat (ll k)))) T.e) (zl (AV.b (decide (Int.ofNat (ll k) =
  (0 : Int)))))) (z0 (zl (AV.pv 1 (imF ll bb k))) T.e)))) { tree := zl (AObj.segs 73 33799 [{ st := 0, sz := 1, n := 1, f := oneF (CV.i .i64 (Int.ofNat (SS.n s))) }, { st := 1, sz := 65, n := 512, f := durF (SS.dur s) (SS.torn s) }, { st := 33281, sz := 1, n := 1, f := oneF (CV.opv (pB (SS.P s)) 66 (pW (SS.P s))) }, { st := 33282, sz := 1, n := 512, f := latF (lB (SS.P s)) (lW (SS.P s)) }, { st := 33794, sz := 5, n := 1, f := tailF (Int.ofNat (List.length (SS.P s))) (Int.ofNat (SS.wr s)) (SS.off s) (SS.armed s) (Int.ofNat (SS.left s)) }]), next := 1, log := [] })
  Orc.z) ∧ ((!decide (Int.ofNat (ll k) = (64 : Int))) = false → (64 ≤ ll k ∧ 0 < ll k) ∧ True ∧ True ∧ ((0 : Int) ≤ Int.ofNat k ∧ Int.ofNat k < (512 : Int)) ∧ True ∧ k < 512 ∧
  ((-9223372036854775808 : Int) ≤ Int.ofNat k + (1 : Int) ∧ Int.ofNat k + (1 : Int) ≤ (9223372036854775807 : Int)) ∧ K (Res.st XO.nrm (z0 (z0 (z0 (z1 (AV.sv 1 (ll k) fun k_1 x =>
  CV.i .u8 (Int.ofNat (bb k k_1))) T.e (z1 (AV.sv 1 (ll k) fun k_1 x => CV.i .u8 (Int.ofNat (bb k k_1))) (zl (AV.pv 64 fun j => CV.i .u8 (Int.ofNat (bb k j)))) T.e)) (z0 (z1 (AV.i
  .i64 (Int.ofNat k + (1 : Int))) (zl (AV.b !decide (Int.ofNat (ll k) = (64 : Int)))) T.e) (z0 (zl (AV.ps 0 1 65 512 k)) T.e))) (z0 (z0 (z1 (AV.sv 1 n (imF ll bb)) (zl (AV.sv 1 (ll
  k) fun k_1 x => CV.i .u8 (Int.ofNat (bb k k_1)))) T.e) (z1 (AV.i .i64 (Int.ofNat (ll k))) (zl (AV.p 0 0)) T.e)) (z0 (z1 (AV.i .i64 (Int.ofNat k)) (zl (AV.i .i64 (Int.ofNat k)))
  T.e) (z0 (zl (AV.i .i64 (Int.ofNat k + (1 : Int)))) T.e)))) (z0 (z1 (AV.p 0 0) (z0 T.e (z1 (AV.sv 1 (ll k) fun k_1 x => CV.i .u8 (Int.ofNat (bb k k_1))) (zl (AV.agg [AV.i .u8
  (Int.ofNat (bb k 0)), AV.i .u8 (Int.ofNat (bb k 1)), AV.i .u8 (Int.ofNat (bb k 2)), AV.i .u8 (Int.ofNat (bb k 3)), AV.i .u8 (Int.ofNat (bb k 4)), AV.i .u8 (Int.ofNat (bb k 5)),
  AV.i .u8 (Int.ofNat (bb k 6)), AV.i .u8 (Int.ofNat (bb k 7)), AV.i .u8 (Int.ofNat (bb k 8)), AV.i .u8 (Int.ofNat (bb k 9)), AV.i .u8 (Int.ofNat (bb k 10)), AV.i .u8 (Int.ofNat (bb
  k 11)), AV.i .u8 (Int.ofNat (bb k 12)), AV.i .u8 (Int.ofNat (bb k 13)), AV.i .u8 (Int.ofNat (bb k 14)), AV.i .u8 (Int.ofNat (bb k 15)), AV.i .u8 (Int.ofNat (bb k 16)), AV.i .u8
  (Int.ofNat (bb k 17)), AV.i .u8 (Int.ofNat (bb k 18)), AV.i .u8 (Int.ofNat (bb k 19)), AV.i .u8 (Int.ofNat (bb k 20)), AV.i .u8 (Int.ofNat (bb k 21)), AV.i .u8 (Int.ofNat (bb k
  22)), AV.i .u8 (Int.ofNat (bb k 23)), AV.i .u8 (Int.ofNat (bb k 24)), AV.i .u8 (Int.ofNat (bb k 25)), AV.i .u8 (Int.ofNat (bb k 26)), AV.i .u8 (Int.ofNat (bb k 27)), AV.i .u8
  (Int.ofNat (bb k 28)), AV.i .u8 (Int.ofNat (bb k 29)), AV.i .u8 (Int.ofNat (bb k 30)), AV.i .u8 (Int.ofNat (bb k 31)), AV.i .u8 (Int.ofNat (bb k 32)), AV.i .u8 (Int.ofNat (bb k
  33)), AV.i .u8 (Int.ofNat (bb k 34)), AV.i .u8 (Int.ofNat (bb k 35)), AV.i .u8 (Int.ofNat (bb k 36)), AV.i .u8 (Int.ofNat (bb k 37)), AV.i .u8 (Int.ofNat (bb k 38)), AV.i .u8
  (Int.ofNat (bb k 39)), AV.i .u8 (Int.ofNat (bb k 40)), AV.i .u8 (Int.ofNat (bb k 41)), AV.i .u8 (Int.ofNat (bb k 42)), AV.i .u8 (Int.ofNat (bb k 43)), AV.i .u8 (Int.ofNat (bb k
  44)), AV.i .u8 (Int.ofNat (bb k 45)), AV.i .u8 (Int.ofNat (bb k 46)), AV.i .u8 (Int.ofNat (bb k 47)), AV.i .u8 (Int.ofNat (bb k 48)), AV.i .u8 (Int.ofNat (bb k 49)), AV.i .u8
  (Int.ofNat (bb k 50)), AV.i .u8 (Int.ofNat (bb k 51)), AV.i .u8 (Int.ofNat (bb k 52)), AV.i .u8 (Int.ofNat (bb k 53)), AV.i .u8 (Int.ofNat (bb k 54)), AV.i .u8 (Int.ofNat (bb k
  55)), AV.i .u8 (Int.ofNat (bb k 56)), AV.i .u8 (Int.ofNat (bb k 57)), AV.i .u8 (Int.ofNat (bb k 58)), AV.i .u8 (Int.ofNat (bb k 59)), AV.i .u8 (Int.ofNat (bb k 60)), AV.i .u8
  (Int.ofNat (bb k 61)), AV.i .u8 (Int.ofNat (bb k 62)), AV.i .u8 (Int.ofNat (bb k 63))])) T.e)) (z0 (z1 (AV.b (decide (Int.ofNat k < Int.ofNat n))) (zl (AV.p 0 0)) T.e) (z0 (zl
  (AV.ps 0 1 65 512 k)) T.e))) (z1 (AV.i .i64 (Int.ofNat k)) (z0 (z1 (AV.i .i64 (Int.ofNat n)) (zl (AV.i .i64 (Int.ofNat (ll k)))) T.e) (z1 (AV.b (decide (Int.ofNat (ll k) = (0 :
  Int)))) (zl (AV.p 0 1)) T.e)) (z0 (z1 (AV.pv 1 (imF ll bb k)) (zl (AV.sv 1 (ll k) fun k_1 x => CV.i .u8 (Int.ofNat (bb k k_1)))) T.e) T.e)))) { tree := zl (AObj.segs 73 33799 [{ st := 0, sz := 1, n := 1, f := oneF (CV.i .i64 (Int.ofNat (SS.n s))) }, { st := 1, sz := 65, n := 512, f := setRow (fun i j => match Nat.blt j 64 with | true => CV.i .u8 (SS.dur s i j) | false => CV.b (SS.torn s i)) k 0 [CV.i .u8 (Int.ofNat (bb k 0)), CV.i .u8 (Int.ofNat (bb k 1)), CV.i .u8 (Int.ofNat (bb k 2)), CV.i .u8 (Int.ofNat (bb k 3)), CV.i .u8 (Int.ofNat (bb k 4)), CV.i .u8 (Int.ofNat (bb k 5)), CV.i .u8 (Int.ofNat (bb k 6)), CV.i .u8 (Int.ofNat (bb k 7)), CV.i .u8 (Int.ofNat (bb k 8)), CV.i .u8 (Int.ofNat (bb k 9)), CV.i .u8 (Int.ofNat (bb k 10)), CV.i .u8 (Int.ofNat (bb k 11)), CV.i .u8 (Int.ofNat (bb k 12)), CV.i .u8 (Int.ofNat (bb k 13)), CV.i .u8 (Int.ofNat (bb k 14)), CV.i .u8 (Int.ofNat (bb k 15)), CV.i .u8 (Int.ofNat (bb k 16)), CV.i .u8 (Int.ofNat (bb k 17)), CV.i .u8 (Int.ofNat (bb k 18)), CV.i .u8 (Int.ofNat (bb k 19)), CV.i .u8 (Int.ofNat (bb k 20)), CV.i .u8 (Int.ofNat (bb k 21)), CV.i .u8 (Int.ofNat (bb k 22)), CV.i .u8 (Int.ofNat (bb k 23)), CV.i .u8 (Int.ofNat (bb k 24)), CV.i .u8 (Int.ofNat (bb k 25)), CV.i .u8 (Int.ofNat (bb k 26)), CV.i .u8 (Int.ofNat (bb k 27)), CV.i .u8 (Int.ofNat (bb k 28)), CV.i .u8 (Int.ofNat (bb k 29)), CV.i .u8 (Int.ofNat (bb k 30)), CV.i .u8 (Int.ofNat (bb k 31)), CV.i .u8 (Int.ofNat (bb k 32)), CV.i .u8 (Int.ofNat (bb k 33)), CV.i .u8 (Int.ofNat (bb k 34)), CV.i .u8 (Int.ofNat (bb k 35)), CV.i .u8 (Int.ofNat (bb k 36)), CV.i .u8 (Int.ofNat (bb k 37)), CV.i .u8 (Int.ofNat (bb k 38)), CV.i .u8 (Int.ofNat (bb k 39)), CV.i .u8 (Int.ofNat (bb k 40)), CV.i .u8 (Int.ofNat (bb k 41)), CV.i .u8 (Int.ofNat (bb k 42)), CV.i .u8 (Int.ofNat (bb k 43)), CV.i .u8 (Int.ofNat (bb k 44)), CV.i .u8 (Int.ofNat (bb k 45)), CV.i .u8 (Int.ofNat (bb k 46)), CV.i .u8 (Int.ofNat (bb k 47)), CV.i .u8 (Int.ofNat (bb k 48)), CV.i .u8 (Int.ofNat (bb k 49)), CV.i .u8 (Int.ofNat (bb k 50)), CV.i .u8 (Int.ofNat (bb k 51)), CV.i .u8 (Int.ofNat (bb k 52)), CV.i .u8 (Int.ofNat (bb k 53)), CV.i .u8 (Int.ofNat (bb k 54)), CV.i .u8 (Int.ofNat (bb k 55)), CV.i .u8 (Int.ofNat (bb k 56)), CV.i .u8 (Int.ofNat (bb k 57)), CV.i .u8 (Int.ofNat (bb k 58)), CV.i .u8 (Int.ofNat (bb k 59)), CV.i .u8 (Int.ofNat (bb k 60)), CV.i .u8 (Int.ofNat (bb k 61)), CV.i .u8 (Int.ofNat (bb k 62)), CV.i .u8 (Int.ofNat (bb k 63))] }, { st := 33281, sz := 1, n := 1, f := oneF (CV.opv (pB (SS.P s)) 66 (pW (SS.P s))) }, { st := 33282, sz := 1, n := 512, f := latF (lB (SS.P s)) (lW (SS.P s)) }, { st := 33794, sz := 5, n := 1, f := tailF (Int.ofNat (List.length (SS.P s))) (Int.ofNat (SS.wr s)) (SS.off s) (SS.armed s) (Int.ofNat (SS.left s)) }]), next := 1, log := [0] })
  Orc.z))) ∧ (decide (Int.ofNat k < Int.ofNat n) = false → K (Res.st (XO.exit 0) (z0 (z0 (z0 T.e (z0 (zl (AV.i .i64 (Int.ofNat k))) T.e)) (z0 (z0 (zl (AV.sv 1 n (imF ll bb))) T.e)
  T.e)) (z0 (z1 (AV.p 0 0) T.e (z0 (zl (AV.b (decide (Int.ofNat k < Int.ofNat n)))) T.e)) (z0 (z0 (zl (AV.i .i64 (Int.ofNat n))) T.e) T.e))) { tree := zl (AObj.segs 73 33799 [{ st := 0, sz := 1, n := 1, f := oneF (CV.i .i64 (Int.ofNat (SS.n s))) }, { st := 1, sz := 65, n := 512, f := durF (SS.dur s) (SS.torn s) }, { st := 33281, sz := 1, n := 1, f := oneF (CV.opv (pB (SS.P s)) 66 (pW (SS.P s))) }, { st := 33282, sz := 1, n := 512, f := latF (lB (SS.P s)) (lW (SS.P s)) }, { st := 33794, sz := 5, n := 1, f := tailF (Int.ofNat (List.length (SS.P s))) (Int.ofNat (SS.wr s)) (SS.off s) (SS.armed s) (Int.ofNat (SS.left s)) }]), next := 1, log := [] })
  Orc.z)) := by kernel_rfl

theorem durF_lo (dur : Nat → Nat → Int) (torn : Nat → Bool) (i : Nat) {j : Nat} (h : j < 64) : durF dur torn i j = .i .u8 (dur i j) := by
  unfold durF
  rw [show Nat.blt j 64 = true by rw [Nat.blt_eq]; exact h]
theorem torn_cw (dur : Nat → Nat → Int) (torn : Nat → Bool) (k i j : Nat) (hj : j < 65) : CW (setRow (durF dur torn) k 64 [.b true] i j) (durF dur (fun q => bif Nat.beq q k then true else torn q) i j) := by
  by_cases h : j < 64
  · have e : setRow (durF dur torn) k 64 [.b true] i j = durF dur torn i j := by
      unfold setRow
      rw [show Nat.ble 64 j = false by rw [Bool.eq_false_iff, ne_eq, Nat.ble_eq]; omega]
    rw [e, durF_lo _ _ _ h, durF_lo _ _ _ h]
    exact .of rfl
  · have : j = 64 := by omega
    subst this
    exact .of (Eq.refl _)
noncomputable def b64 (b : Nat → Int) : List CV := (List.range 64).map fun q => .i .u8 (b q)
theorem byt_cw (dur : Nat → Nat → Int) (torn : Nat → Bool) (b : Nat → Int) (k i j : Nat) (hj : j < 65) : CW (setRow (durF dur torn) k 0 (b64 b) i j) (durF (fun q => bif Nat.beq q k then b else dur q) torn i j) := by
  by_cases h : j < 64
  · have e : setRow (durF dur torn) k 0 (b64 b) i j = zipCV (Nat.beq i k) (.i .u8 (b j)) (.i .u8 (dur i j)) := by
      unfold setRow
      rw [show Nat.ble 0 j = true from Nat.ble_eq_true_of_le (Nat.zero_le j), Nat.sub_zero, show (b64 b)[j]? = some (.i .u8 (b j)) by unfold b64; rw [List.getElem?_map, List.getElem?_range h]; rfl, durF_lo _ _ _ h]
    rw [e, durF_lo _ _ _ h]
    cases Nat.beq i k <;> exact .of (Eq.refl _)
  · have : j = 64 := by omega
    subst this
    exact .of (Eq.refl _)

noncomputable def fromS (n : Nat) (ll : Nat → Nat) (bb : Nat → Nat → Nat) (k : Nat) : SS :=
  { n := n, dur := fun i => bif Nat.blt i k && Nat.beq (ll i) 64 then (fun j => Int.ofNat (bb i j)) else fun _ => 0, torn := fun i => Nat.blt i k && Nat.beq (ll i) 0, P := [], wr := 0, off := false, armed := false, left := 0 }

theorem from_ov {s s' : SS} {f : Nat → Nat → CV} (hf : ∀ i j, i < 512 → j < 65 → CW (f i j) (durF s'.dur s'.torn i j)) (hn : s'.n = s.n) (hP : s'.P = s.P) (hw : s'.wr = s.wr) (ho : s'.off = s.off) (ha : s'.armed = s.armed) (hl : s'.left = s.left) :
    OV (some (.segs 73 33799 [⟨0, 1, 1, oneF (.i .i64 (Int.ofNat s.n))⟩, ⟨1, 65, 512, f⟩, ⟨33281, 1, 1, oneF (.opv (pB s.P) 66 (pW s.P))⟩, ⟨33282, 1, 512, latF (lB s.P) (lW s.P)⟩, ⟨33794, 5, 1, tailF (Int.ofNat s.P.length) (Int.ofNat s.wr) s.off s.armed (Int.ofNat s.left)⟩])) (some s'.o) := by
  unfold SS.o
  rw [hn, hP, hw, ho, ha, hl]
  exact .segsW ⟨.refl _, ⟨rfl, rfl, rfl, fun i j hi hj => hf i j hi hj⟩, .refl _, .refl _, .refl _, trivial⟩
theorem from_s (n : Nat) (ll : Nat → Nat) (bb : Nat → Nat → Nat) (k : Nat) (h0 : ll k = 0) : (fun q => bif Nat.beq q k then true else (fromS n ll bb k).torn q) = (fromS n ll bb (k + 1)).torn ∧ (fromS n ll bb k).dur = (fromS n ll bb (k + 1)).dur := by
  constructor <;> funext q
  · show (bif Nat.beq q k then true else (Nat.blt q k && Nat.beq (ll q) 0)) = (Nat.blt q (k + 1) && Nat.beq (ll q) 0)
    by_cases e : q = k
    · subst e
      rw [Nat.beq_refl, cond_true, show Nat.blt q (q + 1) = true by rw [Nat.blt_eq]; omega, h0]; rfl
    · rw [show Nat.beq q k = false by rw [Bool.eq_false_iff, ne_eq, Nat.beq_eq]; exact e, cond_false, show Nat.blt q (k + 1) = Nat.blt q k by rw [Bool.eq_iff_iff, Nat.blt_eq, Nat.blt_eq]; omega]
  · show (bif Nat.blt q k && Nat.beq (ll q) 64 then (fun j => Int.ofNat (bb q j)) else fun _ => 0) = (bif Nat.blt q (k + 1) && Nat.beq (ll q) 64 then (fun j => Int.ofNat (bb q j)) else fun _ => 0)
    by_cases e : q = k
    · subst e
      rw [h0, show Nat.beq 0 64 = false from rfl, Bool.and_false, Bool.and_false]
    · rw [show Nat.blt q (k + 1) = Nat.blt q k by rw [Bool.eq_iff_iff, Nat.blt_eq, Nat.blt_eq]; omega]
theorem from_b (n : Nat) (ll : Nat → Nat) (bb : Nat → Nat → Nat) (k : Nat) (h0 : ll k = 64) : (fun q => bif Nat.beq q k then (fun j => Int.ofNat (bb k j)) else (fromS n ll bb k).dur q) = (fromS n ll bb (k + 1)).dur ∧ (fromS n ll bb k).torn = (fromS n ll bb (k + 1)).torn := by
  constructor <;> funext q
  · show (bif Nat.beq q k then (fun j => Int.ofNat (bb k j)) else (bif Nat.blt q k && Nat.beq (ll q) 64 then (fun j => Int.ofNat (bb q j)) else fun _ => 0)) = (bif Nat.blt q (k + 1) && Nat.beq (ll q) 64 then (fun j => Int.ofNat (bb q j)) else fun _ => 0)
    by_cases e : q = k
    · subst e
      rw [Nat.beq_refl, cond_true, show Nat.blt q (q + 1) = true by rw [Nat.blt_eq]; omega, h0]; rfl
    · rw [show Nat.beq q k = false by rw [Bool.eq_false_iff, ne_eq, Nat.beq_eq]; exact e, cond_false, show Nat.blt q (k + 1) = Nat.blt q k by rw [Bool.eq_iff_iff, Nat.blt_eq, Nat.blt_eq]; omega]
  · show (Nat.blt q k && Nat.beq (ll q) 0) = (Nat.blt q (k + 1) && Nat.beq (ll q) 0)
    by_cases e : q = k
    · subst e
      rw [h0, show Nat.beq 64 0 = false from rfl, Bool.and_false, Bool.and_false]
    · rw [show Nat.blt q (k + 1) = Nat.blt q k by rw [Bool.eq_iff_iff, Nat.blt_eq, Nat.blt_eq]; omega]

noncomputable def sfI (n : Nat) (ll : Nat → Nat) (bb : Nat → Nat → Nat) (k : Nat) : List (Nat × AV) × List (Option AObj) :=
  ([(4, .p 0 0), (17, .sv 1 n (imF ll bb)), (18, .i .i64 (Int.ofNat n)), (19, .i .i64 (Int.ofNat k))], [some (fromS n ll bb k).o])
theorem sf_round (n : Nat) (ll : Nat → Nat) (bb : Nat → Nat → Nat) (hn : n ≤ 512) (k : Nat) (hk : k < n) (ok : ll k = 64 ∨ ll k = 0) (K : Res → Orc → Prop)
    (hK : ∀ tm1 H1 objs1, StIs 0 [0] [] tm1 H1 (sfI n ll bb (k + 1)).1 objs1 → OVL objs1 (sfI n ll bb (k + 1)).2 → ∀ o, K (.st .nrm tm1 H1) o) :
    ∃ o, runK Try.prog 1000000 (.code (loopAt Try.prog 10 0) 47 (mkT (sfI n ll bb k).1) (mkH (sfI n ll bb k).2)) o K := by
  have r1 : (0 : Int) ≤ Int.ofNat k ∧ Int.ofNat k < (n : Int) := ⟨by simp, by simp; omega⟩
  have r3 : (0 : Int) ≤ Int.ofNat k ∧ Int.ofNat k < 512 := ⟨by simp, by simp; omega⟩
  have r2 : (-9223372036854775808 : Int) ≤ Int.ofNat k + (1 : Int) ∧ Int.ofNat k + (1 : Int) ≤ (9223372036854775807 : Int) := ⟨by simp <;> omega, by simp <;> omega⟩
  refine ⟨_, (sfromR_vc n k ll bb (fromS n ll bb k) K).mpr ⟨fun _ => ⟨r1, trivial, fun h0 => ⟨trivial, r3, trivial, by omega, r2, ?_⟩, fun h0 => ⟨fun h64 => ?_, fun h64 => ⟨⟨?_, ?_⟩, trivial, trivial, r3, trivial, by omega, r2, ?_⟩⟩⟩, fun h => absurd (of_decide_eq_false h) (by simp; omega)⟩⟩
  · have e : ll k = 0 := by have := of_decide_eq_true h0; simp at this; omega
    obtain ⟨e1, e2⟩ := from_s n ll bb k e
    refine hK _ _ [some (.segs 73 33799 [⟨0, 1, 1, oneF (.i .i64 (Int.ofNat n))⟩, ⟨1, 65, 512, setRow (durF (fromS n ll bb k).dur (fromS n ll bb k).torn) k 64 [.b true]⟩, ⟨33281, 1, 1, oneF (.opv (pB []) 66 (pW []))⟩, ⟨33282, 1, 512, latF (lB []) (lW [])⟩, ⟨33794, 5, 1, tailF 0 0 false false 0⟩])] (st_is [0] (by kernel_rfl) rfl rfl rfl ⟨by kernel_rfl, by kernel_rfl, trivial⟩ rfl) ⟨from_ov (s := fromS n ll bb k) (fun i j hi hj => ?_) rfl rfl rfl rfl rfl rfl, trivial⟩ _
    rw [← e1, ← e2]
    exact torn_cw _ _ k i j hj
  · rcases ok with e | e
    · rw [e] at h64; cases h64
    · rw [e] at h0; cases h0
  · simp at h64; omega
  · simp at h64; omega
  · have e : ll k = 64 := by simp at h64; omega
    obtain ⟨e1, e2⟩ := from_b n ll bb k e
    refine hK _ _ [some (.segs 73 33799 [⟨0, 1, 1, oneF (.i .i64 (Int.ofNat n))⟩, ⟨1, 65, 512, setRow (durF (fromS n ll bb k).dur (fromS n ll bb k).torn) k 0 (b64 fun q => Int.ofNat (bb k q))⟩, ⟨33281, 1, 1, oneF (.opv (pB []) 66 (pW []))⟩, ⟨33282, 1, 512, latF (lB []) (lW [])⟩, ⟨33794, 5, 1, tailF 0 0 false false 0⟩])] (st_is [0] (by kernel_rfl) rfl rfl rfl ⟨by kernel_rfl, by kernel_rfl, trivial⟩ rfl) ⟨from_ov (s := fromS n ll bb k) (fun i j hi hj => ?_) rfl rfl rfl rfl rfl rfl, trivial⟩ _
    rw [← e1, ← e2]
    exact byt_cw _ _ _ k i j hj

end Go.Proofs.St

set_option maxRecDepth 20000
namespace Go.Proofs.St
open Go Go.Sim Go.Proofs.Ytnimecdipggbcaa

noncomputable def sn (n : Nat) : SS := SS.new n
noncomputable def fr (n : Nat) (ll : Nat → Nat) (bb : Nat → Nat → Nat) : SS := fromS n ll bb n
theorem sfromG_vc (n : Nat) (ll : Nat → Nat) (bb : Nat → Nat → Nat) (K : Res → Orc → Prop) : runK Try.prog 1000000 (.call 10 [.sv 1 n (imF ll bb)] (mkH [])) (Orc.cal [] (AV.tup
  [AV.p 0 0, AV.i .i64 (0 : Int)]) [Upd.set (SS.o (sn n))] (Orc.c (Orc.lop [0] [4, 17, 18, 19] 0 (XO.exit 0) [(4, AV.p 0 0)] [some (SS.o (fr n ll bb))] Orc.z))) K = (Con Try.prog 9
  [AV.i .i64 (Int.ofNat n)] [] (AV.tup [AV.p 0 0, AV.i .i64 (0 : Int)]) [Upd.set (SS.o (sn n))] ∧ LDoes Try.prog (loopAt Try.prog 10 0) 47 0 (mkT [(4, AV.p 0 0), (17, AV.sv 1 n (imF
  ll bb)), (18, AV.i .i64 (Int.ofNat n)), (19, AV.i .i64 (0 : Int))]) [some (SS.o (sn n))] (XO.exit 0) (mkT [(4, AV.p 0 0)]) [some (SS.o (fr n ll bb))] ∧ K (Res.rv (AV.tup [AV.p 1
  0, AV.i .i64 (0 : Int)]) { tree := z0 (zl (AObj.segs 73 33799 [{ st := 0, sz := 1, n := 1, f := oneF (CV.i .i64 (Int.ofNat (SS.n (fr n ll bb)))) }, { st := 1, sz := 65, n := 512, f := durF (SS.dur (fr n ll bb)) (SS.torn (fr n ll bb)) }, { st := 33281, sz := 1, n := 1, f := oneF (CV.opv (pB (SS.P (fr n ll bb))) 66 (pW (SS.P (fr n ll bb)))) }, { st := 33282, sz := 1, n := 512, f := latF (lB (SS.P (fr n ll bb))) (lW (SS.P (fr n ll bb))) }, { st := 33794, sz := 5, n := 1, f := tailF (Int.ofNat (List.length (SS.P (fr n ll bb)))) (Int.ofNat (SS.wr (fr n ll bb))) (SS.off (fr n ll bb)) (SS.armed (fr n ll bb)) (Int.ofNat (SS.left (fr n ll bb))) }])) T.e, next := 2, log := [1, 0, 0] })
  Orc.z) := by kernel_rfl

theorem sfromB_vc (n : Nat) (ll : Nat → Nat) (bb : Nat → Nat → Nat) (K : Res → Orc → Prop) : runK Try.prog 1000000 (.call 10 [.sv 1 n (imF ll bb)] (mkH [])) (Orc.cal [] (AV.tup
  [AV.p 0 0, AV.i .i64 (0 : Int)]) [Upd.set (SS.o (sn n))] (Orc.c (Orc.lop [0] [4, 17, 18, 19] 0 XO.ret [(2, AV.p0), (3, AV.i .i64 (2 : Int))] [] Orc.z))) K = (Con Try.prog 9 [AV.i
  .i64 (Int.ofNat n)] [] (AV.tup [AV.p 0 0, AV.i .i64 (0 : Int)]) [Upd.set (SS.o (sn n))] ∧ LDoes Try.prog (loopAt Try.prog 10 0) 47 0 (mkT [(4, AV.p 0 0), (17, AV.sv 1 n (imF ll
  bb)), (18, AV.i .i64 (Int.ofNat n)), (19, AV.i .i64 (0 : Int))]) [some (SS.o (sn n))] XO.ret (mkT [(2, AV.p0), (3, AV.i .i64 (2 : Int))]) [] ∧ K (Res.rv (AV.tup [AV.p0, AV.i .i64
  (2 : Int)]) { tree := z0 T.e T.e, next := 1, log := [0, 0] }) Orc.z) := by kernel_rfl

theorem sfromX_vc (n : Nat) (ll : Nat → Nat) (bb : Nat → Nat → Nat) (K : Res → Orc → Prop) : runK Try.prog 1000000 (.call 10 [.sv 1 n (imF ll bb)] (mkH [])) (Orc.cal [] (AV.tup
  [AV.p0, AV.i .i64 (2 : Int)]) [] (Orc.c Orc.z)) K = (Con Try.prog 9 [AV.i .i64 (Int.ofNat n)] [] (AV.tup [AV.p0, AV.i .i64 (2 : Int)]) [] ∧ K (Res.rv (AV.tup [AV.p0, AV.i .i64 (2
  : Int)]) { tree := T.e, next := 0, log := [] }) Orc.z) := by kernel_rfl

theorem from_new (n : Nat) (ll : Nat → Nat) (bb : Nat → Nat → Nat) : fromS n ll bb 0 = SS.new n := by
  have e1 : (fun i => bif Nat.blt i 0 && Nat.beq (ll i) 64 then (fun j => Int.ofNat (bb i j)) else fun _ => (0 : Int)) = fun _ _ => 0 := by
    funext i
    rw [show Nat.blt i 0 = false by rw [Bool.eq_false_iff, ne_eq, Nat.blt_eq]; omega, Bool.false_and, cond_false]
  have e2 : (fun i => Nat.blt i 0 && Nat.beq (ll i) 0) = fun _ => false := by
    funext i
    rw [show Nat.blt i 0 = false by rw [Bool.eq_false_iff, ne_eq, Nat.blt_eq]; omega, Bool.false_and]
  unfold fromS SS.new
  rw [e1, e2]
theorem sfromG_lp (n : Nat) (ll : Nat → Nat) (bb : Nat → Nat → Nat) (hn : n ≤ 512) (ok : ∀ i, i < n → ll i = 64 ∨ ll i = 0) :
    LDoes Try.prog (loopAt Try.prog 10 0) 47 0 (mkT (sfI n ll bb 0).1) (sfI n ll bb 0).2 (.exit 0) (mkT [(4, .p 0 0)]) [some (fromS n ll bb n).o] := by
  refine loop_indV (D := Nat) (l' := [(4, .p 0 0)]) (sfI n ll bb) (fun k => n - k) (fun k => k ≤ n) ?_ 0 (Nat.zero_le n)
  intro k hk
  refine ⟨Nat.zero_le _, 1000000, ?_⟩
  by_cases hlt : k < n
  · exact sf_round n ll bb hn k hlt (ok k hlt) _ fun tm1 H1 objs1 st ov o => .inl ⟨k + 1, [0], [], _, _, _, objs1, hlt, by show n - (k + 1) < n - k; omega, rfl, st, .refl _, ov⟩
  · have : k = n := by omega
    subst this
    exact ⟨_, (sfromR_vc k k ll bb (fromS k ll bb k) _).mpr ⟨fun h => absurd (of_decide_eq_true h) (by simp), fun _ => .inr ⟨[0], [], _, _, [(4, .p 0 0)], [some (fromS k ll bb k).o], rfl, by simp, st_is [0] (by kernel_rfl) rfl rfl rfl ⟨by kernel_rfl, by kernel_rfl, trivial⟩ rfl, .refl _, .refl _⟩⟩⟩
theorem sfromB_lp (n : Nat) (ll : Nat → Nat) (bb : Nat → Nat → Nat) (hn : n ≤ 512) (q : Nat) (hq : q < n) (ok : ∀ i, i < q → ll i = 64 ∨ ll i = 0) (bad : ll q ≠ 64 ∧ ll q ≠ 0) :
    LDoes Try.prog (loopAt Try.prog 10 0) 47 0 (mkT (sfI n ll bb 0).1) (sfI n ll bb 0).2 .ret (mkT [(2, .p0), (3, .i .i64 2)]) [] := by
  refine loop_indV (D := Nat) (l' := [(2, .p0), (3, .i .i64 2)]) (sfI n ll bb) (fun k => n - k) (fun k => k ≤ q) ?_ 0 (Nat.zero_le q)
  intro k hk
  refine ⟨Nat.zero_le _, 1000000, ?_⟩
  by_cases hlt : k < q
  · exact sf_round n ll bb hn k (by omega) (ok k hlt) _ fun tm1 H1 objs1 st ov o => .inl ⟨k + 1, [0], [], _, _, _, objs1, hlt, by show n - (k + 1) < n - k; omega, rfl, st, .refl _, ov⟩
  · have : k = q := by omega
    subst this
    have r1 : (0 : Int) ≤ Int.ofNat k ∧ Int.ofNat k < (n : Int) := ⟨by simp, by simp; omega⟩
    exact ⟨_, (sfromR_vc n k ll bb (fromS n ll bb k) _).mpr ⟨fun _ => ⟨r1, trivial, fun h0 => absurd (of_decide_eq_true h0) (by simp; omega), fun h0 => ⟨fun h64 => .inr ⟨[], [], _, _, [(2, .p0), (3, .i .i64 2)], [], rfl, by simp, st_is [] (by kernel_rfl) rfl rfl rfl trivial rfl, .refl _, .refl _⟩, fun h64 => absurd h64 (by simp; omega)⟩⟩, fun h => absurd (of_decide_eq_false h) (by simp; omega)⟩⟩
/-- From of sectors that may be, and of others. -/
theorem from_con (n : Nat) (ll : Nat → Nat) (bb : Nat → Nat → Nat) (h1 : 1 ≤ n) (hn : n ≤ 512) (ok : ∀ i, i < n → ll i = 64 ∨ ll i = 0) :
    Con Try.prog 10 [.sv 1 n (imF ll bb)] [] (.tup [.p 0 0, .i .i64 0]) [.set (fromS n ll bb n).o] :=
  con_of_run [] [1] ((sfromG_vc n ll bb _).mpr ⟨new_con n h1 hn, by
    have h := sfromG_lp n ll bb hn ok
    unfold sfI at h
    simp only at h
    rw [from_new] at h
    exact h, _, _, rfl, ret_is (by kernel_rfl) rfl (by kernel_rfl) (by kernel_rfl) rfl ⟨by kernel_rfl, by kernel_rfl, trivial⟩⟩)
theorem fromBad_con (n : Nat) (ll : Nat → Nat) (bb : Nat → Nat → Nat) (bad : n < 1 ∨ 512 < n ∨ ∃ q, q < n ∧ (∀ i, i < q → ll i = 64 ∨ ll i = 0) ∧ ll q ≠ 64 ∧ ll q ≠ 0) : Con Try.prog 10 [.sv 1 n (imF ll bb)] [] (.tup [.p0, .i .i64 2]) [] := by
  by_cases h : 1 ≤ n ∧ n ≤ 512
  · obtain ⟨q, q1, q2, q3⟩ : ∃ q, q < n ∧ (∀ i, i < q → ll i = 64 ∨ ll i = 0) ∧ ll q ≠ 64 ∧ ll q ≠ 0 := by
      rcases bad with b | b | b
      · omega
      · omega
      · exact b
    refine con_plain rfl ((sfromB_vc n ll bb _).mpr ⟨new_con n h.1 h.2, ?_, _, _, rfl, rfl⟩)
    have h2 := sfromB_lp n ll bb h.2 q q1 q2 q3
    unfold sfI at h2
    simp only at h2
    rw [from_new] at h2
    exact h2
  · exact con_plain rfl ((sfromX_vc n ll bb _).mpr (by
      have hx := newBad_con (Int.ofNat n) (by simp; omega)
      repeat' first | exact hx | exact trivial | exact ⟨_, _, rfl, rfl⟩ | apply And.intro))

end Go.Proofs.St

set_option maxRecDepth 20000
namespace Go.Proofs.St
open Go Go.Sim Go.Proofs.Ytnimecdipggbcaa

noncomputable def im (s : SS) : Nat → Nat → CV := imgF s
theorem mineR_vc (n k : Nat) (ll : Nat → Nat) (bb : Nat → Nat → Nat) (K : Res → Orc → Prop) : runK Try.prog 1000000 (.code (loopAt Try.prog 5 0) 68 (mkT [(0, .sv 1 n (imF ll bb)),
  (3, .lr 0 1 0 k false), (12, .sv 1 n (imF ll bb)), (13, .i .i64 (Int.ofNat n)), (14, .i .i64 (Int.ofNat k))]) (mkH [some (.rows 35 1 k (imF ll bb))])) (Orc.s (Orc.s Orc.z Orc.z)
  Orc.z) K = ((decide (Int.ofNat k < Int.ofNat n) = true → ((0 : Int) ≤ Int.ofNat k ∧ Int.ofNat k < ↑n) ∧ True ∧ ((1 = 1 ∧ 0 + ll k ≤ ll k) ∧ True ∧ True ∧ 0 + ll k ≤
  140737488355328 ∧ (3 * (0 + ll k) + 1536) * 1 ≤ 562949953421312) ∧ (0 + k ≤ k ∧ True ∧ k + 1 ≤ 140737488355328 ∧ (3 * (k + 1) + 1536) * 24 ≤ 562949953421312) ∧
  ((-9223372036854775808 : Int) ≤ Int.ofNat k + (1 : Int) ∧ Int.ofNat k + (1 : Int) ≤ (9223372036854775807 : Int)) ∧ K (Res.st XO.nrm (z1 (AV.sv 1 n (imF ll bb)) (z0 (z1 (AV.lr 4 1
  0 (addN k 1) false) (z0 (zl (AV.b (decide (Int.ofNat k < Int.ofNat n)))) (zl (AV.lr 4 1 0 (addN k 1) false))) (z0 (zl (AV.l 1 0 0 0 1 true)) T.e)) (z1 (AV.sv 1 (ll k) fun k_1 x =>
  CV.i .u8 (Int.ofNat (bb k k_1))) (z0 (zl (AV.sv 1 (ll k) fun k_1 x => CV.i .u8 (Int.ofNat (bb k k_1)))) T.e) (z1 (AV.i .i64 (Int.ofNat n)) (zl (AV.sv 1 (ll k) fun k_1 x => CV.i
  .u8 (Int.ofNat (bb k k_1)))) T.e))) (z0 (z0 (z0 (zl (AV.pv 1 (imF ll bb k))) (zl (AV.i .i64 (Int.ofNat k + (1 : Int))))) (z1 (AV.sv 1 n (imF ll bb)) (zl (AV.sv 1 (ll k) fun k_1 x
  => CV.i .u8 (Int.ofNat (bb k k_1)))) T.e)) (z0 (z0 (zl (AV.lr 0 1 0 k false)) T.e) (z1 (AV.i .i64 (Int.ofNat k + (1 : Int))) (zl (AV.l 3 0 1 1 1 true)) T.e)))) { tree := z0 (z0 (zl (AObj.cells 35 1 [] (zl (AV.sv 1 (ll k) fun k_1 x => CV.i .u8 (Int.ofNat (bb k k_1)))))) T.e) (z0 (zl (AObj.rows 35 1 (addN k 1) (appZ k (fun i x => CV.sv 1 (ll i) fun k x => CV.i .u8 (Int.ofNat (bb i k))) fun x j => List.getD [CV.sv 1 (ll k) fun k_1 x => CV.i .u8 (Int.ofNat (bb k k_1))] j CV.p0))) T.e), next := 5, log := [4, 0, 3, 2, 2, 1, 1] })
  Orc.z) ∧ (decide (Int.ofNat k < Int.ofNat n) = false → K (Res.st (XO.exit 0) (z1 (AV.sv 1 n (imF ll bb)) (z0 (z1 (AV.lr 0 1 0 k false) (z0 (zl (AV.b (decide (Int.ofNat k <
  Int.ofNat n)))) T.e) T.e) (z0 T.e (zl (AV.i .i64 (Int.ofNat n))))) (z0 (z0 T.e (zl (AV.sv 1 n (imF ll bb)))) (z0 T.e (zl (AV.i .i64 (Int.ofNat k)))))) { tree := zl (AObj.rows 35 1 k (imF ll bb)), next := 1, log := [] })
  Orc.z)) := by kernel_rfl

theorem lawG_vc (n : Nat) (ll : Nat → Nat) (bb : Nat → Nat → Nat) (K : Res → Orc → Prop) : runK Try.prog 1000000 (.call 5 [.sv 1 n (imF ll bb)] (mkH [])) (Orc.cal [] (AV.b true) []
  (Orc.c (Orc.lop [] [0, 3, 12, 13, 14] 0 (XO.exit 0) [(0, AV.sv 1 n (imF ll bb)), (3, AV.sv 1 n (imF ll bb))] [] (Orc.cal [] (AV.tup [AV.p 0 0, AV.i .i64 (0 : Int)]) [Upd.set (SS.o
  (fr n ll bb))] (Orc.cal [] (AV.tup [AV.p 0 0, AV.i .i64 (0 : Int)]) [Upd.set (rsO (AV.lr 1 1 0 n false)), Upd.set (AObj.rows 35 1 n (imF ll bb))] (Orc.c (Orc.c (Orc.c (Orc.c
  (Orc.c (Orc.c (Orc.c (Orc.c (Orc.c (Orc.cal [0] (AV.sv 1 (SS.n (fr n ll bb)) (im (fr n ll bb))) [Upd.keep] (Orc.c (Orc.c (Orc.cal [] (AV.b true) [] (Orc.c (Orc.c (Orc.c (Orc.cal
  [0] (AV.i .i64 (0 : Int)) [Upd.keep] (Orc.c (Orc.c (Orc.c (Orc.c (Orc.c (Orc.c (Orc.cal [0] (AV.b false) [Upd.keep] (Orc.c (Orc.c (Orc.c (Orc.c (Orc.c (Orc.c (Orc.cal [0] (AV.i
  .i64 (0 : Int)) [Upd.keep] (Orc.c (Orc.c (Orc.c (Orc.c Orc.z)))))))))))))))))))))))))))))))))))))))) K = (Con Try.prog 11 [] [] (AV.b true) [] ∧ True ∧ LDoes Try.prog (loopAt
  Try.prog 5 0) 68 0 (mkT [(0, AV.sv 1 n (imF ll bb)), (3, AV.l0), (12, AV.sv 1 n (imF ll bb)), (13, AV.i .i64 (Int.ofNat n)), (14, AV.i .i64 (0 : Int))]) [] (XO.exit 0) (mkT [(0,
  AV.sv 1 n (imF ll bb)), (3, AV.sv 1 n (imF ll bb))]) [] ∧ Con Try.prog 10 [AV.sv 1 n (imF ll bb)] [] (AV.tup [AV.p 0 0, AV.i .i64 (0 : Int)]) [Upd.set (SS.o (fr n ll bb))] ∧ Con
  Try.prog 33 [AV.sv 1 n (imF ll bb)] [] (AV.tup [AV.p 0 0, AV.i .i64 (0 : Int)]) [Upd.set (rsO (AV.lr 1 1 0 n false)), Upd.set (AObj.rows 35 1 n (imF ll bb))] ∧ True ∧ True ∧ True
  ∧ True ∧ Con Try.prog 32 [AV.p 0 0] [some (SS.o (fr n ll bb))] (AV.sv 1 (SS.n (fr n ll bb)) (im (fr n ll bb))) [Upd.keep] ∧ Con Try.prog 31 [AV.sv 1 (SS.n (fr n ll bb)) (im (fr n
  ll bb)), AV.sv 1 n (imF ll bb)] [] (AV.b true) [] ∧ Con Try.prog 28 [AV.p 0 0] [some (SS.o (fr n ll bb))] (AV.i .i64 (0 : Int)) [Upd.keep] ∧ Con Try.prog 27 [AV.p 0 0] [some (SS.o
  (fr n ll bb))] (AV.b false) [Upd.keep] ∧ True ∧ Con Try.prog 30 [AV.p 0 0] [some (SS.o (fr n ll bb))] (AV.i .i64 (0 : Int)) [Upd.keep] ∧ K (Res.rv (AV.b true) { tree := z1 (AObj.segs 73 33799 [{ st := 0, sz := 1, n := 1, f := oneF (CV.i .i64 (Int.ofNat (SS.n (fr n ll bb)))) }, { st := 1, sz := 65, n := 512, f := durF (SS.dur (fr n ll bb)) (SS.torn (fr n ll bb)) }, { st := 33281, sz := 1, n := 1, f := oneF (CV.opv (pB (SS.P (fr n ll bb))) 66 (pW (SS.P (fr n ll bb)))) }, { st := 33282, sz := 1, n := 512, f := latF (lB (SS.P (fr n ll bb))) (lW (SS.P (fr n ll bb))) }, { st := 33794, sz := 5, n := 1, f := tailF (Int.ofNat (List.length (SS.P (fr n ll bb)))) (Int.ofNat (SS.wr (fr n ll bb))) (SS.off (fr n ll bb)) (SS.armed (fr n ll bb)) (Int.ofNat (SS.left (fr n ll bb))) }]) (zl (AObj.cells 50 5 [] (z1 (AV.lr 2 1 0 n false) (z1 AV.l0 (zl (AV.i .i64 (-1 : Int))) T.e) (z1 (AV.i .i64 (0 : Int)) (zl (AV.b false)) T.e)))) (zl (AObj.rows 35 1 n (imF ll bb))), next := 3, log := [2, 1, 0] })
  Orc.z) := by kernel_rfl

theorem lawB_vc (n : Nat) (ll : Nat → Nat) (bb : Nat → Nat → Nat) (K : Res → Orc → Prop) : runK Try.prog 1000000 (.call 5 [.sv 1 n (imF ll bb)] (mkH [])) (Orc.cal [] (AV.b true) []
  (Orc.c (Orc.lop [] [0, 3, 12, 13, 14] 0 (XO.exit 0) [(0, AV.sv 1 n (imF ll bb)), (3, AV.sv 1 n (imF ll bb))] [] (Orc.cal [] (AV.tup [AV.p0, AV.i .i64 (2 : Int)]) [] (Orc.cal []
  (AV.tup [AV.p0, AV.i .i64 (2 : Int)]) [] (Orc.c (Orc.c (Orc.c (Orc.c (Orc.c (Orc.c (Orc.c (Orc.c (Orc.c (Orc.c (Orc.c (Orc.c (Orc.c (Orc.c (Orc.c (Orc.c (Orc.c (Orc.c
  Orc.z))))))))))))))))))))))) K = (Con Try.prog 11 [] [] (AV.b true) [] ∧ True ∧ LDoes Try.prog (loopAt Try.prog 5 0) 68 0 (mkT [(0, AV.sv 1 n (imF ll bb)), (3, AV.l0), (12, AV.sv
  1 n (imF ll bb)), (13, AV.i .i64 (Int.ofNat n)), (14, AV.i .i64 (0 : Int))]) [] (XO.exit 0) (mkT [(0, AV.sv 1 n (imF ll bb)), (3, AV.sv 1 n (imF ll bb))]) [] ∧ Con Try.prog 10
  [AV.sv 1 n (imF ll bb)] [] (AV.tup [AV.p0, AV.i .i64 (2 : Int)]) [] ∧ Con Try.prog 33 [AV.sv 1 n (imF ll bb)] [] (AV.tup [AV.p0, AV.i .i64 (2 : Int)]) [] ∧ True ∧ True ∧ True ∧
  True ∧ K (Res.rv (AV.b true) { tree := T.e, next := 0, log := [] }) Orc.z) := by kernel_rfl

noncomputable def mnI (n : Nat) (ll : Nat → Nat) (bb : Nat → Nat → Nat) (k : Nat) : List (Nat × AV) × List (Option AObj) :=
  ([(0, .sv 1 n (imF ll bb)), (3, .lr 0 1 0 k false), (12, .sv 1 n (imF ll bb)), (13, .i .i64 (Int.ofNat n)), (14, .i .i64 (Int.ofNat k))], [some (.rows 35 1 k (imF ll bb))])
theorem mineK_lp (n : Nat) (ll : Nat → Nat) (bb : Nat → Nat → Nat) (hn : (3 * n + 1536) * 24 ≤ 562949953421312) (hl : ∀ i, i < n → 2 * ll i + 768 ≤ 281474976710656) :
    LDoes Try.prog (loopAt Try.prog 5 0) 68 0 (mkT (mnI n ll bb 0).1) (mnI n ll bb 0).2 (.exit 0) (mkT [(0, .sv 1 n (imF ll bb)), (3, .sv 1 n (imF ll bb))]) [] := by
  refine loop_indV (D := Nat) (l' := [(0, .sv 1 n (imF ll bb)), (3, .sv 1 n (imF ll bb))]) (mnI n ll bb) (fun k => n - k) (fun k => k ≤ n) ?_ 0 (Nat.zero_le n)
  intro k hk
  refine ⟨Nat.zero_le _, 1000000, ?_⟩
  by_cases hlt : k < n
  · have hlk := hl k hlt
    have fin := fun tm1 H1 objs1 (st : StIs 0 [4] [] tm1 H1 (mnI n ll bb (k + 1)).1 objs1) (ov : OVL objs1 (mnI n ll bb (k + 1)).2) =>
      (.inl ⟨k + 1, [4], [], _, _, _, objs1, hlt, by show n - (k + 1) < n - k; omega, rfl, st, .refl _, ov⟩ : RoundV 0 (mnI n ll bb) (fun k => n - k) (fun k => k ≤ n) (.exit 0) [(0, .sv 1 n (imF ll bb)), (3, .sv 1 n (imF ll bb))] [] k (.st .nrm tm1 H1))
    refine ⟨_, (mineR_vc n k ll bb _).mpr ⟨fun _ => ⟨⟨by simp, by simp; omega⟩, trivial, ⟨⟨rfl, by omega⟩, trivial, trivial, by omega, by omega⟩, ⟨by omega, trivial, by omega, by omega⟩, ⟨by simp <;> omega, by simp <;> omega⟩, ?_⟩, fun h => absurd (of_decide_eq_false h) (by simp; omega)⟩⟩
    cases k with
    | zero =>
      exact fin _ _ [some (.rows 35 1 1 (appZ 0 (imF ll bb) (fun _ j => List.getD [CV.sv 1 (ll 0) fun k_1 _ => CV.i .u8 (Int.ofNat (bb 0 k_1))] j .p0)))] (st_is [4] (by kernel_rfl) rfl rfl rfl ⟨by kernel_rfl, by kernel_rfl, trivial⟩ rfl) ⟨.rowsW fun i j hi hj => app_im ll bb 0 hi hj, trivial⟩
    | succ k =>
      exact fin _ _ [some (.rows 35 1 (k + 1 + 1) (appZ (k + 1) (imF ll bb) (fun _ j => List.getD [CV.sv 1 (ll (k + 1)) fun k_1 _ => CV.i .u8 (Int.ofNat (bb (k + 1) k_1))] j .p0)))] (st_is [4] (by kernel_rfl) rfl rfl rfl ⟨by kernel_rfl, by kernel_rfl, trivial⟩ rfl) ⟨.rowsW fun i j hi hj => app_im ll bb (k + 1) hi hj, trivial⟩
  · have : k = n := by omega
    subst this
    refine ⟨_, (mineR_vc k k ll bb _).mpr ⟨fun h => absurd (of_decide_eq_true h) (by simp), fun _ => .inr ⟨[], [0], _, _, [(0, .sv 1 k (imF ll bb)), (3, .sv 1 k (imF ll bb))], [], rfl, by simp,
      st_fz [] [0] ((True ∧ (1 = 1 ∧ 0 + k ≤ k) ∧ True) ∧ True) [.sv 1 k (imF ll bb), .lr 0 1 0 k false] (by kernel_rfl) (by kernel_rfl) (by kernel_rfl) ⟨⟨trivial, ⟨rfl, by omega⟩, trivial⟩, trivial⟩ (by kernel_rfl) rfl rfl rfl trivial rfl, .refl _, .refl _⟩⟩⟩
theorem mine_lp (n : Nat) (ll : Nat → Nat) (bb : Nat → Nat → Nat) (hn : (3 * n + 1536) * 24 ≤ 562949953421312) (hl : ∀ i, i < n → 2 * ll i + 768 ≤ 281474976710656) :
    LDoes Try.prog (loopAt Try.prog 5 0) 68 0 (mkT [(0, .sv 1 n (imF ll bb)), (3, .l0), (12, .sv 1 n (imF ll bb)), (13, .i .i64 (Int.ofNat n)), (14, .i .i64 0)]) [] (.exit 0) (mkT [(0, .sv 1 n (imF ll bb)), (3, .sv 1 n (imF ll bb))]) [] := by
  refine (mineK_lp n ll bb hn hl).weak ⟨rfl, .inl rfl, rfl, .inr ⟨rfl, .inl ⟨0, 1, 0, false, rfl⟩⟩, rfl, .inl rfl, rfl, .inl rfl, rfl, .inl rfl, trivial⟩ ?_
  intro o ho
  rw [List.mem_singleton.1 ho]
  exact ⟨_, rfl, rfl⟩

theorem im_fr (n : Nat) (ll : Nat → Nat) (bb : Nat → Nat → Nat) : im (fr n ll bb) = imF (fun i => bif Nat.blt i n && Nat.beq (ll i) 0 then 0 else 64) (fun i k => bif Nat.blt i n && Nat.beq (ll i) 64 then bb i k else 0) := by
  funext i j
  show CV.sv 1 (bif Nat.blt i n && Nat.beq (ll i) 0 then 0 else 64) (fun k _ => .i .u8 ((bif Nat.blt i n && Nat.beq (ll i) 64 then (fun j => Int.ofNat (bb i j)) else fun _ => 0) k)) = CV.sv 1 (bif Nat.blt i n && Nat.beq (ll i) 0 then 0 else 64) (fun k _ => .i .u8 (Int.ofNat (bif Nat.blt i n && Nat.beq (ll i) 64 then bb i k else 0)))
  cases Nat.blt i n && Nat.beq (ll i) 64 <;> rfl
theorem good_or (ll : Nat → Nat) : ∀ n, (∀ i, i < n → ll i = 64 ∨ ll i = 0) ∨ ∃ q, q < n ∧ (∀ i, i < q → ll i = 64 ∨ ll i = 0) ∧ ll q ≠ 64 ∧ ll q ≠ 0
  | 0 => .inl fun i h => absurd h (Nat.not_lt_zero i)
  | n + 1 => by
    rcases good_or ll n with h | ⟨q, h1, h2⟩
    · by_cases g : ll n = 64 ∨ ll n = 0
      · exact .inl fun i hi => by
          by_cases e : i = n
          · rw [e]; exact g
          · exact h i (by omega)
      · exact .inr ⟨n, by omega, h, fun e => g (.inl e), fun e => g (.inr e)⟩
    · exact .inr ⟨q, by omega, h2⟩
theorem law_con (n : Nat) (ll : Nat → Nat) (bb : Nat → Nat → Nat) (hn : (3 * n + 1536) * 24 ≤ 562949953421312) (hl : ∀ i, i < n → 2 * ll i + 768 ≤ 281474976710656) : Con Try.prog 5 [.sv 1 n (imF ll bb)] [] (.b true) [] := by
  have bad : (n < 1 ∨ 512 < n ∨ ∃ q, q < n ∧ (∀ i, i < q → ll i = 64 ∨ ll i = 0) ∧ ll q ≠ 64 ∧ ll q ≠ 0) → Con Try.prog 5 [.sv 1 n (imF ll bb)] [] (.b true) [] := fun b =>
    con_plain rfl ((lawB_vc n ll bb _).mpr ⟨awake_con, trivial, mine_lp n ll bb hn hl, fromBad_con n ll bb b, rfromBad_con n ll bb b, trivial, trivial, trivial, trivial, _, _, rfl, rfl⟩)
  by_cases h1 : n < 1
  · exact bad (.inl h1)
  by_cases h2 : 512 < n
  · exact bad (.inr (.inl h2))
  rcases good_or ll n with ok | b
  · have hs : Con Try.prog 31 [.sv 1 (fr n ll bb).n (im (fr n ll bb)), .sv 1 n (imF ll bb)] [] (.b true) [] := by
      rw [im_fr]
      refine same_con n _ ll _ bb (by omega) fun i hi => ?_
      have e : Nat.blt i n = true := by rw [Nat.blt_eq]; exact hi
      simp only [e, Bool.true_and]
      rcases ok i hi with o | o <;> rw [o]
      · exact ⟨rfl, fun k _ => rfl⟩
      · exact ⟨rfl, fun k hk => absurd hk (Nat.not_lt_zero k)⟩
    exact con_plain rfl ((lawG_vc n ll bb _).mpr ⟨awake_con, trivial, mine_lp n ll bb hn hl, from_con n ll bb (by omega) (by omega) ok, rfrom_con n ll bb (by omega) (by omega) ok, trivial, trivial, trivial, trivial,
      image_con (fr n ll bb) (by show n ≤ 512; omega), hs, pending2_con (fr n ll bb), off2_con (fr n ll bb), trivial, writes2_con (fr n ll bb), _, _, rfl, rfl⟩)
  · exact bad (.inr (.inr b))

end Go.Proofs.St
