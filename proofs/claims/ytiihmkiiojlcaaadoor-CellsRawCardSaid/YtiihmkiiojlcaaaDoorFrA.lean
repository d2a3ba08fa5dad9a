/- Runs over unknown values, told by the kernel: part FrA. -/
import Derived.Test.YtiihmkiiojlcaaaDoorRfA
set_option linter.unusedSimpArgs false
set_option linter.unusedVariables false
/- Sectors that are handed in. -/
namespace Go.Proofs.St
open Go Go.Sim
noncomputable def z0 {α : Type} (a b : T α) : T α := T.n none a b
noncomputable def z1 {α : Type} (v : α) (a b : T α) : T α := T.n (some v) a b
noncomputable def zl {α : Type} (v : α) : T α := T.n (some v) T.e T.e
noncomputable def bF (b : Nat → Nat) : Nat → Nat → CV := fun k _ => .i .u8 (Int.ofNat (b k))
noncomputable def imF (ll : Nat → Nat) (bb : Nat → Nat → Nat) : Nat → Nat → CV := fun i _ => .sv 1 (ll i) fun k _ => .i .u8 (Int.ofNat (bb i k))
end Go.Proofs.St
set_option maxRecDepth 20000
namespace Go.Proofs.St
open Go Go.Sim Go.Proofs Go.Proofs.YtiihmkiiojlcaaaDoor
theorem sameR_vc (n m k : Nat) (ll mm : Nat → Nat) (bb cb : Nat → Nat → Nat) (K : Res → Orc → Prop) : runK Tryd.prog 1000000 (.code (loopAt Tryd.prog 22 0) 28 (mkT [(0, .sv 1 n (imF
  ll bb)), (1, .sv 1 m (imF mm cb)), (5, .i .i64 (Int.ofNat k))]) (mkH [])) (Orc.s (Orc.s Orc.z Orc.z) Orc.z) K = ((decide (Int.ofNat k < Int.ofNat n) = true → ((0 : Int) ≤
  Int.ofNat k ∧ Int.ofNat k < ↑n) ∧ True ∧ (U8s (ll k) fun k_1 x => CV.i .u8 (Int.ofNat (bb k k_1))) ∧ ((0 : Int) ≤ Int.ofNat k ∧ Int.ofNat k < ↑m) ∧ True ∧ (U8s (mm k) fun k_1 x =>
  CV.i .u8 (Int.ofNat (cb k k_1))) ∧ ((!natsEq (bytesF (ll k) fun k_1 x => CV.i .u8 (Int.ofNat (bb k k_1))) (bytesF (mm k) fun k_1 x => CV.i .u8 (Int.ofNat (cb k k_1)))) = true → K
  (Res.st XO.ret (z1 (AV.sv 1 n (imF ll bb)) (z1 (AV.sv 1 m (imF mm cb)) (z0 (z0 T.e (zl (AV.i .i64 (Int.ofNat k)))) (z1 (AV.i .i64 (Int.ofNat k)) (zl (AV.pv 1 (imF ll bb k))) (zl
  (AV.b !natsEq (bytesF (ll k) fun k_1 x => CV.i .u8 (Int.ofNat (bb k k_1))) (bytesF (mm k) fun k_1 x => CV.i .u8 (Int.ofNat (cb k k_1))))))) (z1 (AV.i .i64 (Int.ofNat k)) (z0 (zl
  (AV.sv 1 n (imF ll bb))) (zl (AV.sv 1 (mm k) fun k_1 x => CV.i .u8 (Int.ofNat (cb k k_1))))) (z1 (AV.i .i64 (Int.ofNat n)) (zl (AV.s (bytesF (ll k) fun k_1 x => CV.i .u8
  (Int.ofNat (bb k k_1))))) T.e))) (z0 (z1 (AV.b false) (z0 T.e (zl (AV.pv 1 (imF mm cb k)))) (z1 (AV.sv 1 n (imF ll bb)) (zl (AV.sv 1 (ll k) fun k_1 x => CV.i .u8 (Int.ofNat (bb k
  k_1)))) T.e)) (z0 (z0 (zl (AV.i .i64 (Int.ofNat k))) (zl (AV.s (bytesF (mm k) fun k_1 x => CV.i .u8 (Int.ofNat (cb k k_1)))))) (z1 (AV.b (decide (Int.ofNat k < Int.ofNat n))) (zl
  (AV.sv 1 m (imF mm cb))) T.e)))) { tree := T.e, next := 0, log := [] }) Orc.z) ∧ ((!natsEq (bytesF (ll k) fun k_1 x => CV.i .u8 (Int.ofNat (bb k k_1))) (bytesF (mm k) fun k_1 x =>
  CV.i .u8 (Int.ofNat (cb k k_1)))) = false → ((-9223372036854775808 : Int) ≤ Int.ofNat k + (1 : Int) ∧ Int.ofNat k + (1 : Int) ≤ (9223372036854775807 : Int)) ∧ K (Res.st XO.nrm (z1
  (AV.sv 1 n (imF ll bb)) (z1 (AV.sv 1 m (imF mm cb)) (z0 (z0 (zl (AV.i .i64 (Int.ofNat k))) (zl (AV.i .i64 (Int.ofNat k)))) (z1 (AV.i .i64 (Int.ofNat k)) (zl (AV.pv 1 (imF ll bb
  k))) (zl (AV.b !natsEq (bytesF (ll k) fun k_1 x => CV.i .u8 (Int.ofNat (bb k k_1))) (bytesF (mm k) fun k_1 x => CV.i .u8 (Int.ofNat (cb k k_1))))))) (z1 (AV.i .i64 (Int.ofNat k +
  (1 : Int))) (z0 (zl (AV.sv 1 n (imF ll bb))) (zl (AV.sv 1 (mm k) fun k_1 x => CV.i .u8 (Int.ofNat (cb k k_1))))) (z1 (AV.i .i64 (Int.ofNat n)) (zl (AV.s (bytesF (ll k) fun k_1 x
  => CV.i .u8 (Int.ofNat (bb k k_1))))) T.e))) (z0 (z0 (z0 (zl (AV.i .i64 (Int.ofNat k + (1 : Int)))) (zl (AV.pv 1 (imF mm cb k)))) (z1 (AV.sv 1 n (imF ll bb)) (zl (AV.sv 1 (ll k)
  fun k_1 x => CV.i .u8 (Int.ofNat (bb k k_1)))) T.e)) (z0 (z0 (zl (AV.i .i64 (Int.ofNat k))) (zl (AV.s (bytesF (mm k) fun k_1 x => CV.i .u8 (Int.ofNat (cb k k_1)))))) (z1 (AV.b
  (decide (Int.ofNat k < Int.ofNat n))) (zl (AV.sv 1 m (imF mm cb))) T.e)))) { tree := T.e, next := 0, log := [] }) Orc.z)) ∧ (decide (Int.ofNat k < Int.ofNat n) = false → K (Res.st
  (XO.exit 0) (z1 (AV.sv 1 n (imF ll bb)) (z1 (AV.sv 1 m (imF mm cb)) (z0 T.e (zl (AV.i .i64 (Int.ofNat k)))) (z1 (AV.i .i64 (Int.ofNat k)) T.e (zl (AV.i .i64 (Int.ofNat n))))) (z0
  (z0 T.e (zl (AV.sv 1 n (imF ll bb)))) (z0 T.e (zl (AV.b (decide (Int.ofNat k < Int.ofNat n))))))) { tree := T.e, next := 0, log := [] }) Orc.z)) := by kernel_rfl
theorem same_vc (n m : Nat) (ll mm : Nat → Nat) (bb cb : Nat → Nat → Nat) (K : Res → Orc → Prop) : runK Tryd.prog 1000000 (.call 22 [.sv 1 n (imF ll bb), .sv 1 m (imF mm cb)] (mkH
  [])) (Orc.s Orc.z (Orc.lop [] [0, 1, 5] 0 (XO.exit 0) [] [] Orc.z)) K = (((!decide (Int.ofNat n = Int.ofNat m)) = true → K (Res.rv (AV.b false) { tree := T.e, next := 0, log := [] })
  Orc.z) ∧ ((!decide (Int.ofNat n = Int.ofNat m)) = false → LDoes Tryd.prog (loopAt Tryd.prog 22 0) 28 0 (mkT [(0, AV.sv 1 n (imF ll bb)), (1, AV.sv 1 m (imF mm cb)), (5, AV.i .i64 (0
  : Int))]) [] (XO.exit 0) (mkT []) [] ∧ K (Res.rv (AV.b true) { tree := T.e, next := 0, log := [] }) Orc.z)) := by kernel_rfl
theorem im_u8 (n : Nat) (b : Nat → Nat) : U8s n fun k _ => .i .u8 (Int.ofNat (b k)) := fun k hk => ⟨b k, rfl⟩
theorem nats_same (a : List Nat) : natsEq a a = true := (natsEq_iff a a).2 rfl
theorem bytes_same {n : Nat} {b c : Nat → Nat} (h : ∀ k, k < n → c k = b k) : bytesF n (fun k _ => .i .u8 (Int.ofNat (b k))) = bytesF n (fun k _ => .i .u8 (Int.ofNat (c k))) := by
  unfold bytesF
  refine List.map_congr_left fun k hk => ?_
  show Go.Sim.byteOf (CV.i .u8 (Int.ofNat (b k))) = Go.Sim.byteOf (CV.i .u8 (Int.ofNat (c k)))
  rw [h k (List.mem_range.1 hk)]
theorem sameG_lp (n : Nat) (ll mm : Nat → Nat) (bb cb : Nat → Nat → Nat) (hn : n ≤ 512) (he : ∀ i, i < n → mm i = ll i ∧ ∀ k, k < ll i → cb i k = bb i k) :
    LDoes Tryd.prog (loopAt Tryd.prog 22 0) 28 0 (mkT [(0, .sv 1 n (imF ll bb)), (1, .sv 1 n (imF mm cb)), (5, .i .i64 0)]) [] (.exit 0) (mkT []) [] := by
  refine loop_ind (D := Nat) (l' := []) (fun k => ([(0, .sv 1 n (imF ll bb)), (1, .sv 1 n (imF mm cb)), (5, .i .i64 (Int.ofNat k))], [])) (fun k => n - k) (fun k => k ≤ n) ?_ 0 (Nat.zero_le n)
  intro k hk
  refine ⟨Nat.zero_le _, 1000000, _, (sameR_vc n n k ll mm bb cb _).mpr ⟨fun h => ?_, fun h => ?_⟩⟩
  · have hlt : k < n := by have := of_decide_eq_true h; simp at this; omega
    obtain ⟨e1, e2⟩ := he k hlt
    have u1 := im_u8 (ll k) (bb k)
    have u2 := im_u8 (mm k) (cb k)
    have ne : (!natsEq (bytesF (ll k) fun q _ => CV.i .u8 (Int.ofNat (bb k q))) (bytesF (mm k) fun q _ => CV.i .u8 (Int.ofNat (cb k q)))) = false := by
      rw [e1, ← bytes_same e2, nats_same]; rfl
    exact ⟨⟨by simp, by simp; omega⟩, trivial, u1, ⟨by simp, by simp; omega⟩, trivial, u2, fun h => (by rw [ne] at h; cases h), fun _ => ⟨⟨by simp <;> omega, by simp <;> omega⟩, .inl ⟨k + 1, [], [], _, _, hlt, by show n - (k + 1) < n - k; omega, rfl,
      st_is [] (by kernel_rfl) rfl rfl rfl trivial rfl⟩⟩⟩
  · exact .inr ⟨[], [], _, _, rfl, by simp, st_is [] (by kernel_rfl) rfl rfl rfl trivial rfl⟩
theorem same_con (n : Nat) (ll mm : Nat → Nat) (bb cb : Nat → Nat → Nat) (hn : n ≤ 512) (he : ∀ i, i < n → mm i = ll i ∧ ∀ k, k < ll i → cb i k = bb i k) :
    Con Tryd.prog 22 [.sv 1 n (imF ll bb), .sv 1 n (imF mm cb)] [] (.b true) [] :=
  con_plain rfl ((same_vc n n ll mm bb cb _).mpr ⟨fun h => absurd h (by simp), fun _ => ⟨sameG_lp n ll mm bb cb hn he, _, _, rfl, rfl⟩⟩)
end Go.Proofs.St
/- The reference's store, told by the program's state. -/
namespace Go.Proofs.St
open Go Go.Sim Go.Proofs
noncomputable def SS.am (s : SS) : Int := bif s.armed then Int.ofNat s.left else -1
noncomputable def rsQ (A n p wr : Nat) (am : Int) (off : Bool) : AObj := .cells 51 5 [] (setAll .e 0 [.lr 1 1 0 n false, .lr A 2 0 p false, .i .i64 (Int.ofNat wr), .i .i64 am, .b off])
noncomputable def penF (aa : Nat → Nat) (bb : Nat → Nat → Int) : Nat → Nat → CV := fun k j => match j with
  | 0 => .i .i64 (Int.ofNat (aa k))
  | _ => .sv 1 64 fun q _ => .i .u8 (bb k q)
noncomputable def iF (b : Nat → Int) : Nat → Nat → CV := fun k _ => .i .u8 (b k)
noncomputable def rsA (A : Nat) (s : SS) : AObj := rsQ A s.n s.P.length s.wr s.am s.off
noncomputable def rsR (s : SS) : AObj := .rows 55 1 s.n (imgF s)
noncomputable def rsP (s : SS) : AObj := .rows 91 2 s.P.length (penF (oA s.P) (oB s.P))
noncomputable def laidM (s : SS) (m : Nat) : SS := s.laid (oA s.P) (oB s.P) m
end Go.Proofs.St
namespace Go.Proofs.St
open Go Go.Sim Go.Proofs Go.Proofs.YtiihmkiiojlcaaaDoor
theorem copiedR_vc (n k : Nat) (bs : Nat → Int) (ff : Nat → Nat → CV) (K : Res → Orc → Prop) : runK Tryd.prog 1000000 (.code (loopAt Tryd.prog 34 0) 22 (mkT [(0, .sv 1 n (iF bs)),
  (3, .lr 0 1 0 n false), (4, .i .i64 (Int.ofNat k))]) (mkH [some (.rows 5 1 n ff)])) (Orc.s Orc.z Orc.z) K = ((decide (Int.ofNat k < Int.ofNat n) = true → ((0 : Int) ≤ Int.ofNat k
  ∧ Int.ofNat k < ↑n) ∧ True ∧ ((0 : Int) ≤ Int.ofNat k ∧ Int.ofNat k < ↑n) ∧ k < n ∧ ((-9223372036854775808 : Int) ≤ Int.ofNat k + (1 : Int) ∧ Int.ofNat k + (1 : Int) ≤
  (9223372036854775807 : Int)) ∧ K (Res.st XO.nrm (z1 (AV.sv 1 n (iF bs)) (z0 (z1 (AV.lr 0 1 0 n false) (z0 (zl (AV.i .i64 (Int.ofNat k))) T.e) (z1 (AV.b (decide (Int.ofNat k <
  Int.ofNat n))) (zl (AV.i .u8 (bs k))) T.e)) (z0 (z1 (AV.sv 1 n (iF bs)) (zl (AV.i .i64 (Int.ofNat k))) T.e) (zl (AV.i .i64 (Int.ofNat k + (1 : Int)))))) (z0 (z1 (AV.i .i64
  (Int.ofNat k + (1 : Int))) (z1 (AV.i .i64 (Int.ofNat k)) (zl (AV.sv 1 n (iF bs))) T.e) (z1 (AV.i .i64 (Int.ofNat k)) (zl (AV.pr 0 1 k 0)) T.e)) (z0 (z1 (AV.i .i64 (Int.ofNat n))
  (zl (AV.pv 1 (iF bs k))) T.e) (zl (AV.lr 0 1 0 n false))))) { tree := zl (AObj.rows 5 1 n (setRow ff k 0 [CV.i .u8 (bs k)])), next := 1, log := [0] }) Orc.z) ∧ (decide (Int.ofNat
  k < Int.ofNat n) = false → K (Res.st (XO.exit 0) (z1 (AV.sv 1 n (iF bs)) (z0 (z1 (AV.lr 0 1 0 n false) T.e (zl (AV.b (decide (Int.ofNat k < Int.ofNat n))))) (z0 (zl (AV.sv 1 n (iF
  bs))) T.e)) (z0 (z1 (AV.i .i64 (Int.ofNat k)) (zl (AV.i .i64 (Int.ofNat k))) T.e) (z0 (zl (AV.i .i64 (Int.ofNat n))) T.e))) { tree := zl (AObj.rows 5 1 n ff), next := 1, log := [] })
  Orc.z)) := by kernel_rfl
theorem copied_vc (n : Nat) (bs : Nat → Int) (K : Res → Orc → Prop) : runK Tryd.prog 1000000 (.call 34 [.sv 1 n (iF bs)] (mkH [])) (Orc.s (Orc.lop [0] [0, 3, 4] 0 (XO.exit 0) [(3,
  AV.lr 0 1 0 n false)] [some (AObj.rows 5 1 n (iF bs))] Orc.z) Orc.z) K = (((0 : Int) ≤ Int.ofNat n ∧ Int.ofNat n ≤ Int.ofNat n ∧ Int.ofNat n ≤ (1073741824 : Int)) ∧ LDoes Tryd.prog
  (loopAt Tryd.prog 34 0) 22 0 (mkT [(0, AV.sv 1 n (iF bs)), (3, AV.lr 0 1 0 n false), (4, AV.i .i64 (0 : Int))]) [some (AObj.rows 5 1 n fun x j => List.getD [CV.i .u8 (0 : Int)] j
  CV.p0)] (XO.exit 0) (mkT [(3, AV.lr 0 1 0 n false)]) [some (AObj.rows 5 1 n (iF bs))] ∧ K (Res.rv (AV.lr 1 1 0 n false) { tree := z0 (zl (AObj.rows 5 1 n (iF bs))) T.e, next := 2, log := [1, 0, 0] })
  Orc.z) := by kernel_rfl
noncomputable def cpF (b : Nat → Int) (k : Nat) : Nat → Nat → CV := fun i _ => .i .u8 (bif Nat.blt i k then b i else 0)
theorem cp_step (b : Nat → Int) (n k : Nat) : OEq (some (.rows 5 1 n (setRow (cpF b k) k 0 [.i .u8 (b k)]))) (some (.rows 5 1 n (cpF b (k + 1)))) := by
  refine .rows fun i j hi hj => ?_
  have : j = 0 := by omega
  subst this
  show CV.i .u8 (bif Nat.beq i k then b k else (bif Nat.blt i k then b i else 0)) = CV.i .u8 (bif Nat.blt i (k + 1) then b i else 0)
  by_cases h : i = k
  · subst h
    rw [Nat.beq_refl, cond_true, show Nat.blt i (i + 1) = true by rw [Nat.blt_eq]; omega, cond_true]
  · rw [show Nat.beq i k = false by rw [Bool.eq_false_iff, ne_eq, Nat.beq_eq]; exact h, cond_false]
    by_cases h2 : i < k
    · rw [show Nat.blt i k = true by rw [Nat.blt_eq]; exact h2, show Nat.blt i (k + 1) = true by rw [Nat.blt_eq]; omega]
    · rw [show Nat.blt i k = false by rw [Bool.eq_false_iff, ne_eq, Nat.blt_eq]; exact h2, show Nat.blt i (k + 1) = false by rw [Bool.eq_false_iff, ne_eq, Nat.blt_eq]; omega]
theorem copiedL_lp (n : Nat) (bs : Nat → Int) (hn : n ≤ 1073741824) : LDoes Tryd.prog (loopAt Tryd.prog 34 0) 22 0 (mkT [(0, .sv 1 n (iF bs)), (3, .lr 0 1 0 n false), (4, .i .i64 0)]) [some (.rows 5 1 n (cpF bs 0))] (.exit 0) (mkT [(3, .lr 0 1 0 n false)]) [some (.rows 5 1 n (iF bs))] := by
  refine loop_indE (D := Nat) (l' := [(3, .lr 0 1 0 n false)]) (fun k => ([(0, .sv 1 n (iF bs)), (3, .lr 0 1 0 n false), (4, .i .i64 (Int.ofNat k))], [some (.rows 5 1 n (cpF bs k))])) (fun k => n - k) (fun k => k ≤ n) ?_ 0 (Nat.zero_le n)
  intro k hk
  refine ⟨Nat.zero_le _, 1000000, _, (copiedR_vc n k bs (cpF bs k) _).mpr ⟨fun h => ?_, fun h => ?_⟩⟩
  · have hlt : k < n := by have := of_decide_eq_true h; simp at this; omega
    exact ⟨⟨by simp, by simp; omega⟩, trivial, ⟨by simp, by simp; omega⟩, hlt, ⟨by simp <;> omega, by simp <;> omega⟩, .inl ⟨k + 1, [0], [], _, _, _, hlt, by show n - (k + 1) < n - k; omega, rfl,
      st_is [0] (objs := [some (.rows 5 1 n (setRow (cpF bs k) k 0 [.i .u8 (bs k)]))]) (by kernel_rfl) rfl rfl rfl ⟨by kernel_rfl, by kernel_rfl, trivial⟩ rfl, cp_step bs n k, trivial⟩⟩
  · have hge : ¬ k < n := by have := of_decide_eq_false h; simp at this; omega
    refine .inr ⟨[0], [], _, _, _, rfl, by simp, st_is [0] (objs := [some (.rows 5 1 n (cpF bs k))]) (by kernel_rfl) rfl rfl rfl ⟨by kernel_rfl, by kernel_rfl, trivial⟩ rfl, .rows fun i j hi hj => ?_, trivial⟩
    show CV.i .u8 (bif Nat.blt i k then bs i else 0) = CV.i .u8 (bs i)
    rw [show Nat.blt i k = true by rw [Nat.blt_eq]; omega, cond_true]
theorem copied_con (n : Nat) (bs : Nat → Int) (hn : n ≤ 1073741824) : Con Tryd.prog 34 [.sv 1 n (iF bs)] [] (.sv 1 n (iF bs)) [] :=
  con_of_run [1] [] ((copied_vc n bs _).mpr ⟨⟨by simp, Int.le_refl _, by simp; omega⟩, (copiedL_lp n bs hn).oeq ⟨.rows fun i j hi hj => by
    have : j = 0 := by omega
    subst this
    show CV.i .u8 (bif Nat.blt i 0 then bs i else 0) = _
    rw [show Nat.blt i 0 = false by rw [Bool.eq_false_iff, ne_eq, Nat.blt_eq]; omega]; exact Eq.refl _, trivial⟩ ⟨.inl rfl, trivial⟩, _, _, rfl, ret_fz [1] ((1 = 1 ∧ 0 + n ≤ n) ∧ True) (by kernel_rfl) (by kernel_rfl) ⟨⟨rfl, by omega⟩, trivial⟩ (by kernel_rfl) rfl (by kernel_rfl) (by kernel_rfl) rfl trivial⟩)
theorem rreadR_vc (s : SS) (i k : Int) (K : Res → Orc → Prop) : runK Tryd.prog 1000000 (.code (loopAt Tryd.prog 30 0) 68 (mkT [(0, .p 0 0), (1, .i .i64 i), (6, .i .i64 k)]) (mkH [some
  (rsA 2 s), some (rsR s), some (rsP s)])) (Orc.s (Orc.s (Orc.cal [] (AV.sv 1 64 fun k_1 x => CV.i .u8 (oB (SS.P s) (Int.toNat k) k_1)) [] Orc.z) Orc.z) Orc.z) K = ((decide ((0 :
  Int) ≤ k) = true → True ∧ ((0 : Int) ≤ k ∧ k < ↑(List.length (SS.P s))) ∧ True ∧ Int.toNat k < List.length (SS.P s) ∧ (decide (Int.ofNat (oA (SS.P s) (Int.toNat k)) = i) = true →
  True ∧ ((0 : Int) ≤ k ∧ k < ↑(List.length (SS.P s))) ∧ True ∧ Int.toNat k < List.length (SS.P s) ∧ Con Tryd.prog 34 [AV.sv 1 64 fun k_1 x => CV.i .u8 (oB (SS.P s) (Int.toNat k)
  k_1)] [] (AV.sv 1 64 fun k_1 x => CV.i .u8 (oB (SS.P s) (Int.toNat k) k_1)) [] ∧ K (Res.st XO.ret (z1 (AV.p 0 0) (z1 (AV.i .i64 i) (z0 (z0 (z0 T.e (zl (AV.pr 2 2 (Int.toNat k)
  0))) (z0 (zl (AV.i .i64 (Int.ofNat (oA (SS.P s) (Int.toNat k))))) T.e)) (z0 (z0 (zl (AV.lr 2 2 0 (List.length (SS.P s)) false)) T.e) (z0 (zl (AV.p 0 0)) T.e))) (z1 (AV.i .i64 (0 :
  Int)) (z0 (z0 (zl (AV.p 0 0)) (zl (AV.sv 1 64 fun q x => CV.i .u8 (oB (SS.P s) (Int.toNat k) q)))) (z0 (zl (AV.b (decide (Int.ofNat (oA (SS.P s) (Int.toNat k)) = i)))) T.e)) (z0
  (z0 (zl (AV.pr 2 2 (Int.toNat k) 0)) T.e) (z1 (AV.b (decide ((0 : Int) ≤ k))) (zl (AV.lr 2 2 0 (List.length (SS.P s)) false)) T.e)))) (z0 (z1 (AV.sv 1 64 fun k_1 x => CV.i .u8 (oB
  (SS.P s) (Int.toNat k) k_1)) (z0 (z0 (zl (AV.p 0 0)) (zl (AV.pr 2 2 (Int.toNat k) 1))) (z0 (zl (AV.i .i64 i)) T.e)) (z0 (z0 (zl (AV.i .i64 k)) T.e) (z1 (AV.i .i64 k) (zl (AV.p 0
  1)) T.e))) (z1 (AV.i .i64 k) (z0 (z0 (zl (AV.p 0 1)) (zl (AV.sv 1 64 fun k_1 x => CV.i .u8 (oB (SS.P s) (Int.toNat k) k_1)))) (z0 (zl (AV.p 0 0)) T.e)) (z0 (z0 (zl (AV.pr 2 2
  (Int.toNat k) 0)) T.e) (z0 (zl (AV.i .i64 k)) T.e))))) { tree := z1 (AObj.cells 51 5 [] (z1 (AV.lr 1 1 0 (SS.n s) false) (z1 (AV.lr 2 2 0 (List.length (SS.P s)) false) (zl (AV.i .i64 (SS.am s))) T.e) (z1 (AV.i .i64 (Int.ofNat (SS.wr s))) (zl (AV.b (SS.off s))) T.e))) (zl (AObj.rows 55 1 (SS.n s) (imgF s))) (zl (AObj.rows 91 2 (List.length (SS.P s)) (penF (oA (SS.P s)) (oB (SS.P s))))), next := 3, log := [] })
  Orc.z) ∧ (decide (Int.ofNat (oA (SS.P s) (Int.toNat k)) = i) = false → ((-9223372036854775808 : Int) ≤ k - (1 : Int) ∧ k - (1 : Int) ≤ (9223372036854775807 : Int)) ∧ K (Res.st
  XO.nrm (z1 (AV.p 0 0) (z1 (AV.i .i64 i) (z0 (z0 (z0 (zl (AV.i .i64 (k - (1 : Int)))) T.e) (z0 (zl (AV.i .i64 (Int.ofNat (oA (SS.P s) (Int.toNat k))))) T.e)) (z0 (z0 (zl (AV.lr 2 2
  0 (List.length (SS.P s)) false)) T.e) T.e)) (z0 (z0 (z0 (zl (AV.p 0 0)) T.e) (z0 (zl (AV.b (decide (Int.ofNat (oA (SS.P s) (Int.toNat k)) = i)))) T.e)) (z0 (z0 (zl (AV.pr 2 2
  (Int.toNat k) 0)) T.e) (zl (AV.b (decide ((0 : Int) ≤ k))))))) (z0 (z0 (z0 (z0 (zl (AV.p 0 0)) T.e) (z0 (zl (AV.i .i64 i)) T.e)) (z0 (z0 (zl (AV.i .i64 k)) T.e) (zl (AV.i .i64
  k)))) (z1 (AV.i .i64 (k - (1 : Int))) (z0 (z0 (zl (AV.p 0 1)) T.e) T.e) (z0 (z0 (zl (AV.pr 2 2 (Int.toNat k) 0)) T.e) (zl (AV.i .i64 k)))))) { tree := z1 (AObj.cells 51 5 [] (z1 (AV.lr 1 1 0 (SS.n s) false) (z1 (AV.lr 2 2 0 (List.length (SS.P s)) false) (zl (AV.i .i64 (SS.am s))) T.e) (z1 (AV.i .i64 (Int.ofNat (SS.wr s))) (zl (AV.b (SS.off s))) T.e))) (zl (AObj.rows 55 1 (SS.n s) (imgF s))) (zl (AObj.rows 91 2 (List.length (SS.P s)) (penF (oA (SS.P s)) (oB (SS.P s))))), next := 3, log := [] })
  Orc.z)) ∧ (decide ((0 : Int) ≤ k) = false → K (Res.st (XO.exit 0) (z1 (AV.p 0 0) (z1 (AV.i .i64 i) T.e (z0 T.e (z0 T.e (zl (AV.b (decide ((0 : Int) ≤ k))))))) (z0 (z0 T.e (z0 T.e
  (zl (AV.i .i64 k)))) (zl (AV.i .i64 k)))) { tree := z1 (AObj.cells 51 5 [] (z1 (AV.lr 1 1 0 (SS.n s) false) (z1 (AV.lr 2 2 0 (List.length (SS.P s)) false) (zl (AV.i .i64 (SS.am s))) T.e) (z1 (AV.i .i64 (Int.ofNat (SS.wr s))) (zl (AV.b (SS.off s))) T.e))) (zl (AObj.rows 55 1 (SS.n s) (imgF s))) (zl (AObj.rows 91 2 (List.length (SS.P s)) (penF (oA (SS.P s)) (oB (SS.P s))))), next := 3, log := [] })
  Orc.z)) := by kernel_rfl
theorem rbarR_vc (s : SS) (k : Nat) (ff : Nat → Nat → CV) (K : Res → Orc → Prop) : runK Tryd.prog 1000000 (.code (loopAt Tryd.prog 40 0) 42 (mkT [(0, .p 0 0), (3, .i .i64 (Int.ofNat
  k))]) (mkH [some (rsA 2 s), some (.rows 55 1 s.n ff), some (rsP s)])) (Orc.s (Orc.cal [] (AV.sv 1 64 fun k_1 x => CV.i .u8 (oB (SS.P s) k k_1)) [] Orc.z) Orc.z) K = (True ∧
  (decide (Int.ofNat k < Int.ofNat (List.length (SS.P s))) = true → True ∧ True ∧ ((0 : Int) ≤ Int.ofNat k ∧ Int.ofNat k < ↑(List.length (SS.P s))) ∧ True ∧ k < List.length (SS.P s)
  ∧ True ∧ ((0 : Int) ≤ Int.ofNat k ∧ Int.ofNat k < ↑(List.length (SS.P s))) ∧ True ∧ k < List.length (SS.P s) ∧ Con Tryd.prog 34 [AV.sv 1 64 fun k_1 x => CV.i .u8 (oB (SS.P s) k
  k_1)] [] (AV.sv 1 64 fun k_1 x => CV.i .u8 (oB (SS.P s) k k_1)) [] ∧ ((0 : Int) ≤ Int.ofNat (oA (SS.P s) k) ∧ Int.ofNat (oA (SS.P s) k) < ↑(SS.n s)) ∧ oA (SS.P s) k < SS.n s ∧
  ((-9223372036854775808 : Int) ≤ Int.ofNat k + (1 : Int) ∧ Int.ofNat k + (1 : Int) ≤ (9223372036854775807 : Int)) ∧ K (Res.st XO.nrm (z1 (AV.p 0 0) (z0 (z1 (AV.i .i64 (Int.ofNat k
  + (1 : Int))) (z0 (z1 (AV.i .i64 (Int.ofNat k)) (zl (AV.p 0 1)) T.e) (zl (AV.p 0 1))) (z1 (AV.p 0 1) (z1 (AV.p 0 0) (zl (AV.pr 2 2 k 1)) T.e) (zl (AV.pr 2 2 k 0)))) (z0 (z1 (AV.p
  0 0) (z1 (AV.p 0 0) (zl (AV.i .i64 (Int.ofNat k))) T.e) (zl (AV.i .i64 (Int.ofNat k)))) (z1 (AV.i .i64 (Int.ofNat (List.length (SS.P s)))) (z1 (AV.p 0 0) (zl (AV.sv 1 64 fun k_1 x
  => CV.i .u8 (oB (SS.P s) k k_1))) T.e) (zl (AV.p 0 0))))) (z0 (z0 (z1 (AV.i .i64 (Int.ofNat k)) (z1 (AV.i .i64 (Int.ofNat k + (1 : Int))) (zl (AV.lr 2 2 0 (List.length (SS.P s))
  false)) T.e) (zl (AV.lr 2 2 0 (List.length (SS.P s)) false))) (z1 (AV.lr 2 2 0 (List.length (SS.P s)) false) (z1 (AV.lr 1 1 0 (SS.n s) false) (zl (AV.sv 1 64 fun q x => CV.i .u8
  (oB (SS.P s) k q))) T.e) (zl (AV.i .i64 (Int.ofNat (oA (SS.P s) k)))))) (z0 (z1 (AV.p 0 0) (z1 (AV.p 0 0) (zl (AV.pr 2 2 k 0)) T.e) (zl (AV.pr 2 2 k 0))) (z1 (AV.b (decide
  (Int.ofNat k < Int.ofNat (List.length (SS.P s))))) (z1 (AV.p 0 0) (zl (AV.pr 1 1 (oA (SS.P s) k) 0)) T.e) (zl (AV.p 0 0)))))) { tree := z1 (AObj.cells 51 5 [] (z1 (AV.lr 1 1 0 (SS.n s) false) (z1 (AV.lr 2 2 0 (List.length (SS.P s)) false) (zl (AV.i .i64 (SS.am s))) T.e) (z1 (AV.i .i64 (Int.ofNat (SS.wr s))) (zl (AV.b (SS.off s))) T.e))) (zl (AObj.rows 55 1 (SS.n s) (setRow ff (oA (SS.P s) k) 0 [CV.sv 1 64 fun k_1 x => CV.i .u8 (oB (SS.P s) k k_1)]))) (zl (AObj.rows 91 2 (List.length (SS.P s)) (penF (oA (SS.P s)) (oB (SS.P s))))), next := 3, log := [1] })
  Orc.z) ∧ (decide (Int.ofNat k < Int.ofNat (List.length (SS.P s))) = false → K (Res.st (XO.exit 0) (z1 (AV.p 0 0) (z0 (z1 (AV.i .i64 (Int.ofNat k)) T.e (zl (AV.p 0 1))) (z0 (zl
  (AV.p 0 0)) (zl (AV.i .i64 (Int.ofNat (List.length (SS.P s))))))) (z0 (z0 (zl (AV.i .i64 (Int.ofNat k))) (zl (AV.lr 2 2 0 (List.length (SS.P s)) false))) (z0 (zl (AV.p 0 0)) (zl
  (AV.b (decide (Int.ofNat k < Int.ofNat (List.length (SS.P s))))))))) { tree := z1 (AObj.cells 51 5 [] (z1 (AV.lr 1 1 0 (SS.n s) false) (z1 (AV.lr 2 2 0 (List.length (SS.P s)) false) (zl (AV.i .i64 (SS.am s))) T.e) (z1 (AV.i .i64 (Int.ofNat (SS.wr s))) (zl (AV.b (SS.off s))) T.e))) (zl (AObj.rows 55 1 (SS.n s) ff)) (zl (AObj.rows 91 2 (List.length (SS.P s)) (penF (oA (SS.P s)) (oB (SS.P s))))), next := 3, log := [] })
  Orc.z)) := by kernel_rfl
theorem drop_s (P : PW) {m : Nat} (h : m < P.length) : P.drop (P.length - (m + 1)) = nthW P m :: P.drop (P.length - m) := by
  have e1 : P.length - 1 - m = P.length - (m + 1) := by omega
  unfold nthW
  rw [e1]
  cases h2 : P.drop (P.length - (m + 1)) with
  | nil => have := congrArg List.length h2; simp at this; omega
  | cons w Q => rw [show P.length - m = (P.length - (m + 1)) + 1 by omega, ← List.drop_drop, h2]; rfl
noncomputable def kI (m : Nat) : Int := match m with
  | 0 => -1
  | m + 1 => Int.ofNat m
theorem kI_eq : ∀ m, kI m = Int.ofNat m - 1
  | 0 => rfl
  | m + 1 => by show Int.ofNat m = Int.ofNat (m + 1) - 1; simp
noncomputable def rdI (s : SS) (i : Int) (m : Nat) : List (Nat × AV) × List (Option AObj) := ([(0, .p 0 0), (1, .i .i64 i), (6, .i .i64 (kI m))], [some (rsA 2 s), some (rsR s), some (rsP s)])
theorem pen_lt {s : SS} {m : Nat} (h : m < s.P.length) : (0 : Int) ≤ Int.ofNat m ∧ Int.ofNat m < (s.P.length : Int) := ⟨by simp, by simp; omega⟩
theorem rreadH_lp (s : SS) (q : Nat) (h : lB s.P q = true) (hl : s.P.length ≤ 1073741824) :
    LDoes Tryd.prog (loopAt Tryd.prog 30 0) 68 3 (mkT [(0, .p 0 0), (1, .i .i64 (Int.ofNat q)), (6, .i .i64 (Int.ofNat s.P.length - 1))]) [some (rsA 2 s), some (rsR s), some (rsP s)] .ret
      (mkT [(4, .sv 1 64 fun j _ => .i .u8 (lbs s.P (Int.toNat (Int.ofNat q)) j)), (5, .i .i64 0)]) [some (rsA 2 s), some (rsR s), some (rsP s)] := by
  rw [← kI_eq]
  refine loop_indV (D := Nat) (l' := [(4, .sv 1 64 fun j _ => .i .u8 (lbs s.P (Int.toNat (Int.ofNat q)) j)), (5, .i .i64 0)]) (rdI s (Int.ofNat q)) (fun m => m)
    (fun m => m ≤ s.P.length ∧ lB (s.P.drop (s.P.length - m)) q = true ∧ lbs (s.P.drop (s.P.length - m)) q = lbs s.P q) ?_ s.P.length ⟨Nat.le_refl _, by simpa using h, by simp⟩
  rintro m ⟨hm, hb, he⟩
  refine ⟨by simp [rdI], 1000000, ?_⟩
  cases m with
  | zero => simp [lB] at hb
  | succ m =>
    rw [drop_s s.P (by omega)] at hb he
    refine ⟨_, (rreadR_vc s (Int.ofNat q) (Int.ofNat m) _).mpr ⟨fun _ => ⟨trivial, pen_lt (by omega), trivial, by show m < _; omega, fun h0 => ?_, fun h0 => ?_⟩, fun h0 => absurd (of_decide_eq_false h0) (by simp)⟩⟩
    · have hq : (nthW s.P m).1 = q := by have := of_decide_eq_true h0; exact Int.ofNat.inj this
      have e2 : oB s.P m = lbs s.P q := by
        rw [← he]
        show (nthW s.P m).2 = (bif Nat.beq q (nthW s.P m).1 then (nthW s.P m).2 else lbs (s.P.drop (s.P.length - m)) q)
        rw [hq, Nat.beq_refl]; rfl
      refine ⟨trivial, pen_lt (by omega), trivial, by show m < _; omega, copied_con 64 _ (by decide), .inr ⟨[0, 1, 2], [], _, _, [(4, .sv 1 64 fun j _ => .i .u8 (oB s.P m j)), (5, .i .i64 0)], [some (rsA 2 s), some (rsR s), some (rsP s)], rfl, by simp,
        st_is [0, 1, 2] (by kernel_rfl) rfl rfl rfl (by refine ⟨?_, ?_, ?_, ?_, ?_, ?_, trivial⟩ <;> kernel_rfl) rfl, ?_, .refl _⟩⟩
      rw [e2]; exact .refl _
    · have hq : ¬ q = (nthW s.P m).1 := fun e => by have := of_decide_eq_false h0; exact this (by show Int.ofNat (nthW s.P m).1 = Int.ofNat q; rw [← e])
      have hbq : Nat.beq q (nthW s.P m).1 = false := by rw [Bool.eq_false_iff, ne_eq, Nat.beq_eq]; exact hq
      have hb' : lB (s.P.drop (s.P.length - m)) q = true := by
        have : (bif Nat.beq q (nthW s.P m).1 then true else lB (s.P.drop (s.P.length - m)) q) = true := hb
        rwa [hbq] at this
      have he' : lbs (s.P.drop (s.P.length - m)) q = lbs s.P q := by
        have : (bif Nat.beq q (nthW s.P m).1 then (nthW s.P m).2 else lbs (s.P.drop (s.P.length - m)) q) = lbs s.P q := he
        rwa [hbq] at this
      refine ⟨⟨by simp; omega, by simp; omega⟩, .inl ⟨m, [0, 1, 2], [], _, _, [(0, .p 0 0), (1, .i .i64 (Int.ofNat q)), (6, .i .i64 (Int.ofNat m - 1))], [some (rsA 2 s), some (rsR s), some (rsP s)], ⟨by omega, hb', he'⟩, Nat.lt_succ_self m, rfl,
        st_is [0, 1, 2] (by kernel_rfl) rfl rfl rfl (by refine ⟨?_, ?_, ?_, ?_, ?_, ?_, trivial⟩ <;> kernel_rfl) rfl, ?_, .refl _⟩⟩
      unfold rdI
      rw [kI_eq]; exact .refl _
theorem rreadM_lp (s : SS) (q : Nat) (h : lB s.P q = false) (hl : s.P.length ≤ 1073741824) :
    LDoes Tryd.prog (loopAt Tryd.prog 30 0) 68 3 (mkT [(0, .p 0 0), (1, .i .i64 (Int.ofNat q)), (6, .i .i64 (Int.ofNat s.P.length - 1))]) [some (rsA 2 s), some (rsR s), some (rsP s)] (.exit 0)
      (mkT [(0, .p 0 0), (1, .i .i64 (Int.ofNat q))]) [some (rsA 2 s), some (rsR s), some (rsP s)] := by
  rw [← kI_eq]
  refine loop_indV (D := Nat) (l' := [(0, .p 0 0), (1, .i .i64 (Int.ofNat q))]) (rdI s (Int.ofNat q)) (fun m => m)
    (fun m => m ≤ s.P.length ∧ lB (s.P.drop (s.P.length - m)) q = false) ?_ s.P.length ⟨Nat.le_refl _, by simpa using h⟩
  rintro m ⟨hm, hb⟩
  refine ⟨by simp [rdI], 1000000, ?_⟩
  cases m with
  | zero =>
    exact ⟨_, (rreadR_vc s (Int.ofNat q) (-1) _).mpr ⟨fun h0 => absurd (of_decide_eq_true h0) (by simp), fun _ => .inr ⟨[0, 1, 2], [], _, _, [(0, .p 0 0), (1, .i .i64 (Int.ofNat q))], [some (rsA 2 s), some (rsR s), some (rsP s)], rfl, by simp,
        st_is [0, 1, 2] (by kernel_rfl) rfl rfl rfl (by refine ⟨?_, ?_, ?_, ?_, ?_, ?_, trivial⟩ <;> kernel_rfl) rfl, .refl _, .refl _⟩⟩⟩
  | succ m =>
    rw [drop_s s.P (by omega)] at hb
    have hbq : Nat.beq q (nthW s.P m).1 = false := by
      have : (bif Nat.beq q (nthW s.P m).1 then true else lB (s.P.drop (s.P.length - m)) q) = false := hb
      cases hh : Nat.beq q (nthW s.P m).1 with
      | false => rfl
      | true => rw [hh] at this; cases this
    have hb' : lB (s.P.drop (s.P.length - m)) q = false := by
      have : (bif Nat.beq q (nthW s.P m).1 then true else lB (s.P.drop (s.P.length - m)) q) = false := hb
      rwa [hbq] at this
    refine ⟨_, (rreadR_vc s (Int.ofNat q) (Int.ofNat m) _).mpr ⟨fun _ => ⟨trivial, pen_lt (by omega), trivial, by show m < _; omega, fun h0 => ?_, fun h0 => ?_⟩, fun h0 => absurd (of_decide_eq_false h0) (by simp)⟩⟩
    · have hq : (nthW s.P m).1 = q := by have := of_decide_eq_true h0; exact Int.ofNat.inj this
      rw [hq, Nat.beq_refl] at hbq; cases hbq
    · refine ⟨⟨by simp; omega, by simp; omega⟩, .inl ⟨m, [0, 1, 2], [], _, _, [(0, .p 0 0), (1, .i .i64 (Int.ofNat q)), (6, .i .i64 (Int.ofNat m - 1))], [some (rsA 2 s), some (rsR s), some (rsP s)], ⟨by omega, hb'⟩, Nat.lt_succ_self m, rfl,
        st_is [0, 1, 2] (by kernel_rfl) rfl rfl rfl (by refine ⟨?_, ?_, ?_, ?_, ?_, ?_, trivial⟩ <;> kernel_rfl) rfl, ?_, .refl _⟩⟩
      unfold rdI
      rw [kI_eq]; exact .refl _
theorem img_lay (s : SS) (q : Nat) (b : Nat → Int) (i j : Nat) (hj : j < 1) : CW (setRow (imgF s) q 0 [.sv 1 64 fun k _ => .i .u8 (b k)] i j) (imgF (s.lay q b false) i j) := by
  have : j = 0 := by omega
  subst this
  refine (zipCV_CW (Nat.beq i q) (CV.sv 1 64 fun k _ => .i .u8 (b k)) (imgF s i 0)).trans (.of ?_)
  show (bif Nat.beq i q then CV.sv 1 64 (fun k _ => .i .u8 (b k)) else .sv 1 (bif s.torn i then 0 else 64) fun k _ => .i .u8 (s.dur i k)) = (.sv 1 (bif (bif Nat.beq i q then false else s.torn i) then 0 else 64) fun k _ => .i .u8 ((bif Nat.beq i q then b else s.dur i) k))
  cases h : Nat.beq i q with
  | true => exact Eq.refl _
  | false => exact Eq.refl _
theorem oA_lt {s : SS} (ha : ∀ w ∈ s.P, w.1 < s.n) {m : Nat} (h : m < s.P.length) : (0 : Int) ≤ Int.ofNat (oA s.P m) ∧ Int.ofNat (oA s.P m) < (s.n : Int) := by
  have hm : nthW s.P m ∈ s.P := by
    have := drop_s s.P h
    exact List.mem_of_mem_drop (by rw [this]; exact List.mem_cons_self ..)
  exact ⟨by simp, by show (((nthW s.P m).1 : Nat) : Int) < _; have := ha _ hm; omega⟩
noncomputable def rbI (s : SS) (m : Nat) : List (Nat × AV) × List (Option AObj) := ([(0, .p 0 0), (3, .i .i64 (Int.ofNat m))], [some (rsA 2 s), some (.rows 55 1 s.n (imgF (laidM s m))), some (rsP s)])
theorem rbarG_lp (s : SS) (hl : s.P.length ≤ 1073741824) (ha : ∀ w ∈ s.P, w.1 < s.n) :
    LDoes Tryd.prog (loopAt Tryd.prog 40 0) 42 3 (mkT [(0, .p 0 0), (3, .i .i64 0)]) [some (rsA 2 s), some (rsR s), some (rsP s)] (.exit 0) (mkT [(0, .p 0 0)]) [some (rsA 2 s), some (.rows 55 1 s.n (imgF (laidM s s.P.length))), some (rsP s)] := by
  refine loop_indV (D := Nat) (l' := [(0, .p 0 0)]) (rbI s) (fun m => s.P.length - m) (fun m => m ≤ s.P.length) ?_ 0 (Nat.zero_le _)
  intro m hm
  refine ⟨by simp [rbI], 1000000, _, (rbarR_vc s m (imgF (laidM s m)) _).mpr ⟨trivial, fun h0 => ?_, fun h0 => ?_⟩⟩
  · have hlt : m < s.P.length := by have := of_decide_eq_true h0; simp at this; omega
    have h1 := pen_lt hlt
    have h2 := oA_lt ha hlt
    exact ⟨trivial, trivial, h1, trivial, hlt, trivial, h1, trivial, hlt, copied_con 64 _ (by decide), h2, by have := h2.2; simp at this; omega, ⟨by simp; omega, by simp; omega⟩,
      .inl ⟨m + 1, [0, 1, 2], [], _, _, [(0, .p 0 0), (3, .i .i64 (Int.ofNat m + 1))], [some (rsA 2 s), some (.rows 55 1 s.n (setRow (imgF (laidM s m)) (oA s.P m) 0 [.sv 1 64 fun k _ => .i .u8 (oB s.P m k)])), some (rsP s)], hlt, by show s.P.length - (m + 1) < s.P.length - m; omega, rfl,
        st_is [0, 1, 2] (by kernel_rfl) rfl rfl rfl (by refine ⟨?_, ?_, ?_, ?_, ?_, ?_, trivial⟩ <;> kernel_rfl) rfl, .refl _, .refl _, .rowsW fun i j _ hj => img_lay _ _ _ i j hj, .refl _, trivial⟩⟩
  · have : m = s.P.length := by have := of_decide_eq_false h0; simp at this; omega
    subst this
    exact .inr ⟨[0, 1, 2], [], _, _, [(0, .p 0 0)], [some (rsA 2 s), some (.rows 55 1 s.n (imgF (laidM s s.P.length))), some (rsP s)], rfl, by simp,
        st_is [0, 1, 2] (by kernel_rfl) rfl rfl rfl (by refine ⟨?_, ?_, ?_, ?_, ?_, ?_, trivial⟩ <;> kernel_rfl) rfl, .refl _, .refl _⟩
theorem rreadH_vc (s : SS) (i : Int) (K : Res → Orc → Prop) : runK Tryd.prog 1000000 (.call 30 [.p 0 0, .i .i64 i] (mkH [some (rsA 2 s), some (rsR s), some (rsP s)])) (Orc.s Orc.z
  (Orc.s (Orc.t (Orc.t (Orc.t (Orc.t (Orc.t (Orc.t (Orc.f (Orc.s Orc.z (Orc.lop [0, 1, 2] [0, 1, 6] 3 XO.ret [(4, AV.sv 1 64 fun q x => CV.i .u8 (lbs (SS.P s) (Int.toNat i) q)), (5,
  AV.i .i64 (0 : Int))] [some (rsA 2 s), some (rsR s), some (rsP s)] Orc.z))))))))) (Orc.f (Orc.f (Orc.f (Orc.f (Orc.f (Orc.f (Orc.t (Orc.c Orc.z)))))))))) K = (True ∧ (SS.off s =
  true → K (Res.rv (AV.tup [AV.l0, AV.i .i64 (13 : Int)]) { tree := z1 (AObj.cells 51 5 [] (z1 (AV.lr 1 1 0 (SS.n s) false) (z1 (AV.lr 2 2 0 (List.length (SS.P s)) false) (zl (AV.i .i64 (SS.am s))) T.e) (z1 (AV.i .i64 (Int.ofNat (SS.wr s))) (zl (AV.b (SS.off s))) T.e))) (zl (AObj.rows 55 1 (SS.n s) (imgF s))) (zl (AObj.rows 91 2 (List.length (SS.P s)) (penF (oA (SS.P s)) (oB (SS.P s))))), next := 3, log := [] })
  Orc.z) ∧ (SS.off s = false → ((!decide (i < (0 : Int))) = true → (!decide (i < (0 : Int))) = true ∧ (!decide (i < (0 : Int))) = true ∧ (!decide (i < (0 : Int))) = true ∧ True ∧
  (!decide (i < (0 : Int))) = true ∧ (!decide (i < (0 : Int))) = true ∧ (!decide (i < (0 : Int))) = true ∧ decide (i < (0 : Int)) = false ∧ (decide (Int.ofNat (SS.n s) ≤ i) = true →
  K (Res.rv (AV.tup [AV.l0, AV.i .i64 (2 : Int)]) { tree := z1 (AObj.cells 51 5 [] (z1 (AV.lr 1 1 0 (SS.n s) false) (z1 (AV.lr 2 2 0 (List.length (SS.P s)) false) (zl (AV.i .i64 (SS.am s))) T.e) (z1 (AV.i .i64 (Int.ofNat (SS.wr s))) (zl (AV.b (SS.off s))) T.e))) (zl (AObj.rows 55 1 (SS.n s) (imgF s))) (zl (AObj.rows 91 2 (List.length (SS.P s)) (penF (oA (SS.P s)) (oB (SS.P s))))), next := 3, log := [] })
  Orc.z) ∧ (decide (Int.ofNat (SS.n s) ≤ i) = false → True ∧ ((-9223372036854775808 : Int) ≤ Int.ofNat (List.length (SS.P s)) - (1 : Int) ∧ Int.ofNat (List.length (SS.P s)) - (1 :
  Int) ≤ (9223372036854775807 : Int)) ∧ LDoes Tryd.prog (loopAt Tryd.prog 30 0) 68 3 (mkT [(0, AV.p 0 0), (1, AV.i .i64 i), (6, AV.i .i64 (Int.ofNat (List.length (SS.P s)) - (1 :
  Int)))]) [some (rsA 2 s), some (rsR s), some (rsP s)] XO.ret (mkT [(4, AV.sv 1 64 fun q x => CV.i .u8 (lbs (SS.P s) (Int.toNat i) q)), (5, AV.i .i64 (0 : Int))]) [some (rsA 2 s),
  some (rsR s), some (rsP s)] ∧ K (Res.rv (AV.tup [AV.sv 1 64 fun q x => CV.i .u8 (lbs (SS.P s) (Int.toNat i) q), AV.i .i64 (0 : Int)]) { tree := z1 (AObj.cells 51 5 [] (z1 (AV.lr 1 1 0 (SS.n s) false) (z1 (AV.lr 2 2 0 (List.length (SS.P s)) false) (zl (AV.i .i64 (SS.am s))) T.e) (z1 (AV.i .i64 (Int.ofNat (SS.wr s))) (zl (AV.b (SS.off s))) T.e))) (zl (AObj.rows 55 1 (SS.n s) (imgF s))) (zl (AObj.rows 91 2 (List.length (SS.P s)) (penF (oA (SS.P s)) (oB (SS.P s))))), next := 3, log := [2, 1, 0] })
  Orc.z)) ∧ ((!decide (i < (0 : Int))) = false → (!decide (i < (0 : Int))) = false ∧ (!decide (i < (0 : Int))) = false ∧ (!decide (i < (0 : Int))) = false ∧ (!decide (i < (0 :
  Int))) = false ∧ (!decide (i < (0 : Int))) = false ∧ (!decide (i < (0 : Int))) = false ∧ decide (i < (0 : Int)) = true ∧ K (Res.rv (AV.tup [AV.l0, AV.i .i64 (2 : Int)]) { tree := z1 (AObj.cells 51 5 [] (z1 (AV.lr 1 1 0 (SS.n s) false) (z1 (AV.lr 2 2 0 (List.length (SS.P s)) false) (zl (AV.i .i64 (SS.am s))) T.e) (z1 (AV.i .i64 (Int.ofNat (SS.wr s))) (zl (AV.b (SS.off s))) T.e))) (zl (AObj.rows 55 1 (SS.n s) (imgF s))) (zl (AObj.rows 91 2 (List.length (SS.P s)) (penF (oA (SS.P s)) (oB (SS.P s))))), next := 3, log := [] })
  Orc.z))) := by kernel_rfl
theorem rreadM_vc (s : SS) (i : Int) (K : Res → Orc → Prop) : runK Tryd.prog 1000000 (.call 30 [.p 0 0, .i .i64 i] (mkH [some (rsA 2 s), some (rsR s), some (rsP s)])) (Orc.s Orc.z
  (Orc.s (Orc.t (Orc.t (Orc.t (Orc.t (Orc.t (Orc.t (Orc.f (Orc.s Orc.z (Orc.lop [0, 1, 2] [0, 1, 6] 3 (XO.exit 0) [(0, AV.p 0 0), (1, AV.i .i64 i)] [some (rsA 2 s), some (rsR s),
  some (rsP s)] (Orc.s Orc.z (Orc.cal [] (AV.sv 1 (bif SS.torn s (Int.toNat i) then 0 else 64) fun k x => CV.i .u8 (SS.dur s (Int.toNat i) k)) [] Orc.z))))))))))) (Orc.f (Orc.f
  (Orc.f (Orc.f (Orc.f (Orc.f (Orc.t (Orc.c Orc.z)))))))))) K = (True ∧ (SS.off s = true → K (Res.rv (AV.tup [AV.l0, AV.i .i64 (13 : Int)]) { tree := z1 (AObj.cells 51 5 [] (z1 (AV.lr 1 1 0 (SS.n s) false) (z1 (AV.lr 2 2 0 (List.length (SS.P s)) false) (zl (AV.i .i64 (SS.am s))) T.e) (z1 (AV.i .i64 (Int.ofNat (SS.wr s))) (zl (AV.b (SS.off s))) T.e))) (zl (AObj.rows 55 1 (SS.n s) (imgF s))) (zl (AObj.rows 91 2 (List.length (SS.P s)) (penF (oA (SS.P s)) (oB (SS.P s))))), next := 3, log := [] })
  Orc.z) ∧ (SS.off s = false → ((!decide (i < (0 : Int))) = true → (!decide (i < (0 : Int))) = true ∧ (!decide (i < (0 : Int))) = true ∧ (!decide (i < (0 : Int))) = true ∧ True ∧
  (!decide (i < (0 : Int))) = true ∧ (!decide (i < (0 : Int))) = true ∧ (!decide (i < (0 : Int))) = true ∧ decide (i < (0 : Int)) = false ∧ (decide (Int.ofNat (SS.n s) ≤ i) = true →
  K (Res.rv (AV.tup [AV.l0, AV.i .i64 (2 : Int)]) { tree := z1 (AObj.cells 51 5 [] (z1 (AV.lr 1 1 0 (SS.n s) false) (z1 (AV.lr 2 2 0 (List.length (SS.P s)) false) (zl (AV.i .i64 (SS.am s))) T.e) (z1 (AV.i .i64 (Int.ofNat (SS.wr s))) (zl (AV.b (SS.off s))) T.e))) (zl (AObj.rows 55 1 (SS.n s) (imgF s))) (zl (AObj.rows 91 2 (List.length (SS.P s)) (penF (oA (SS.P s)) (oB (SS.P s))))), next := 3, log := [] })
  Orc.z) ∧ (decide (Int.ofNat (SS.n s) ≤ i) = false → True ∧ ((-9223372036854775808 : Int) ≤ Int.ofNat (List.length (SS.P s)) - (1 : Int) ∧ Int.ofNat (List.length (SS.P s)) - (1 :
  Int) ≤ (9223372036854775807 : Int)) ∧ LDoes Tryd.prog (loopAt Tryd.prog 30 0) 68 3 (mkT [(0, AV.p 0 0), (1, AV.i .i64 i), (6, AV.i .i64 (Int.ofNat (List.length (SS.P s)) - (1 :
  Int)))]) [some (rsA 2 s), some (rsR s), some (rsP s)] (XO.exit 0) (mkT [(0, AV.p 0 0), (1, AV.i .i64 i)]) [some (rsA 2 s), some (rsR s), some (rsP s)] ∧ True ∧ ((0 : Int) ≤ i ∧ i
  < ↑(SS.n s)) ∧ Int.toNat i < SS.n s ∧ (decide (Int.ofNat (bif SS.torn s (Int.toNat i) then 0 else 64) = (0 : Int)) = true → K (Res.rv (AV.tup [AV.l0, AV.i .i64 (14 : Int)]) { tree := z1 (AObj.cells 51 5 [] (z1 (AV.lr 1 1 0 (SS.n s) false) (z1 (AV.lr 2 2 0 (List.length (SS.P s)) false) (zl (AV.i .i64 (SS.am s))) T.e) (z1 (AV.i .i64 (Int.ofNat (SS.wr s))) (zl (AV.b (SS.off s))) T.e))) (zl (AObj.rows 55 1 (SS.n s) (imgF s))) (zl (AObj.rows 91 2 (List.length (SS.P s)) (penF (oA (SS.P s)) (oB (SS.P s))))), next := 3, log := [2, 1, 0] })
  Orc.z) ∧ (decide (Int.ofNat (bif SS.torn s (Int.toNat i) then 0 else 64) = (0 : Int)) = false → True ∧ ((0 : Int) ≤ i ∧ i < ↑(SS.n s)) ∧ Int.toNat i < SS.n s ∧ Con Tryd.prog 34
  [AV.sv 1 (bif SS.torn s (Int.toNat i) then 0 else 64) fun k x => CV.i .u8 (SS.dur s (Int.toNat i) k)] [] (AV.sv 1 (bif SS.torn s (Int.toNat i) then 0 else 64) fun k x => CV.i .u8
  (SS.dur s (Int.toNat i) k)) [] ∧ K (Res.rv (AV.tup [AV.sv 1 (bif SS.torn s (Int.toNat i) then 0 else 64) fun k x => CV.i .u8 (SS.dur s (Int.toNat i) k), AV.i .i64 (0 : Int)]) { tree := z1 (AObj.cells 51 5 [] (z1 (AV.lr 1 1 0 (SS.n s) false) (z1 (AV.lr 2 2 0 (List.length (SS.P s)) false) (zl (AV.i .i64 (SS.am s))) T.e) (z1 (AV.i .i64 (Int.ofNat (SS.wr s))) (zl (AV.b (SS.off s))) T.e))) (zl (AObj.rows 55 1 (SS.n s) (imgF s))) (zl (AObj.rows 91 2 (List.length (SS.P s)) (penF (oA (SS.P s)) (oB (SS.P s))))), next := 3, log := [2, 1, 0] })
  Orc.z))) ∧ ((!decide (i < (0 : Int))) = false → (!decide (i < (0 : Int))) = false ∧ (!decide (i < (0 : Int))) = false ∧ (!decide (i < (0 : Int))) = false ∧ (!decide (i < (0 :
  Int))) = false ∧ (!decide (i < (0 : Int))) = false ∧ (!decide (i < (0 : Int))) = false ∧ decide (i < (0 : Int)) = true ∧ K (Res.rv (AV.tup [AV.l0, AV.i .i64 (2 : Int)]) { tree := z1 (AObj.cells 51 5 [] (z1 (AV.lr 1 1 0 (SS.n s) false) (z1 (AV.lr 2 2 0 (List.length (SS.P s)) false) (zl (AV.i .i64 (SS.am s))) T.e) (z1 (AV.i .i64 (Int.ofNat (SS.wr s))) (zl (AV.b (SS.off s))) T.e))) (zl (AObj.rows 55 1 (SS.n s) (imgF s))) (zl (AObj.rows 91 2 (List.length (SS.P s)) (penF (oA (SS.P s)) (oB (SS.P s))))), next := 3, log := [] })
  Orc.z))) := by kernel_rfl
theorem rbar_vc (s : SS) (K : Res → Orc → Prop) : runK Tryd.prog 1000000 (.call 40 [.p 0 0] (mkH [some (rsA 2 s), some (rsR s), some (rsP s)])) (Orc.s Orc.z (Orc.lop [0, 1, 2] [0,
  3] 3 (XO.exit 0) [(0, AV.p 0 0)] [some (rsA 2 s), some (AObj.rows 55 1 (SS.n s) (imgF (laidM s (List.length (SS.P s))))), some (rsP s)] Orc.z)) K = (True ∧ (SS.off s = true → K
  (Res.rv (AV.i .i64 (13 : Int)) { tree := z1 (AObj.cells 51 5 [] (z1 (AV.lr 1 1 0 (SS.n s) false) (z1 (AV.lr 2 2 0 (List.length (SS.P s)) false) (zl (AV.i .i64 (SS.am s))) T.e) (z1 (AV.i .i64 (Int.ofNat (SS.wr s))) (zl (AV.b (SS.off s))) T.e))) (zl (AObj.rows 55 1 (SS.n s) (imgF s))) (zl (AObj.rows 91 2 (List.length (SS.P s)) (penF (oA (SS.P s)) (oB (SS.P s))))), next := 3, log := [] })
  Orc.z) ∧ (SS.off s = false → LDoes Tryd.prog (loopAt Tryd.prog 40 0) 42 3 (mkT [(0, AV.p 0 0), (3, AV.i .i64 (0 : Int))]) [some (rsA 2 s), some (rsR s), some (rsP s)] (XO.exit 0)
  (mkT [(0, AV.p 0 0)]) [some (rsA 2 s), some (AObj.rows 55 1 (SS.n s) (imgF (laidM s (List.length (SS.P s))))), some (rsP s)] ∧ True ∧ K (Res.rv (AV.i .i64 (0 : Int)) { tree := z1 (AObj.cells 51 5 [] (z1 (AV.lr 1 1 0 (SS.n s) false) (z1 AV.l0 (zl (AV.i .i64 (SS.am s))) T.e) (z1 (AV.i .i64 (Int.ofNat (SS.wr s))) (zl (AV.b (SS.off s))) T.e))) (zl (AObj.rows 55 1 (SS.n s) (imgF (laidM s (List.length (SS.P s)))))) (zl (AObj.rows 91 2 (List.length (SS.P s)) (penF (oA (SS.P s)) (oB (SS.P s))))), next := 3, log := [0, 2, 1, 0] })
  Orc.z)) := by kernel_rfl
theorem rwrite_vc (s : SS) (L : Nat) (i : Int) (bs : Nat → Int) (K : Res → Orc → Prop) : runK Tryd.prog 1000000 (.call 38 [.p 0 0, .i .i64 i, .sv 1 L (fun k _ => .i .u8 (bs k))]
  (mkH [some (rsA 2 s), some (rsR s), some (rsP s)])) (Orc.s Orc.z (Orc.s (Orc.t (Orc.t (Orc.t (Orc.t (Orc.t (Orc.t (Orc.f (Orc.s (Orc.t (Orc.t (Orc.f (Orc.s Orc.z (Orc.cal []
  (AV.sv 1 L fun k x => CV.i .u8 (bs k)) [] (Orc.s (Orc.inl Orc.z) (Orc.s Orc.z Orc.z))))))) (Orc.f (Orc.f (Orc.t (Orc.c Orc.z)))))))))))) (Orc.f (Orc.f (Orc.f (Orc.f (Orc.f (Orc.f
  (Orc.t (Orc.c (Orc.c (Orc.c (Orc.c (Orc.c Orc.z)))))))))))))) K = (True ∧ (SS.off s = true → K (Res.rv (AV.i .i64 (13 : Int)) { tree := z1 (AObj.cells 51 5 [] (z1 (AV.lr 1 1 0 (SS.n s) false) (z1 (AV.lr 2 2 0 (List.length (SS.P s)) false) (zl (AV.i .i64 (SS.am s))) T.e) (z1 (AV.i .i64 (Int.ofNat (SS.wr s))) (zl (AV.b (SS.off s))) T.e))) (zl (AObj.rows 55 1 (SS.n s) (imgF s))) (zl (AObj.rows 91 2 (List.length (SS.P s)) (penF (oA (SS.P s)) (oB (SS.P s))))), next := 3, log := [] })
  Orc.z) ∧ (SS.off s = false → ((!decide (i < (0 : Int))) = true → (!decide (i < (0 : Int))) = true ∧ (!decide (i < (0 : Int))) = true ∧ (!decide (i < (0 : Int))) = true ∧ True ∧
  (!decide (i < (0 : Int))) = true ∧ (!decide (i < (0 : Int))) = true ∧ (!decide (i < (0 : Int))) = true ∧ decide (i < (0 : Int)) = false ∧ ((!decide (Int.ofNat (SS.n s) ≤ i)) =
  true → (!decide (Int.ofNat (SS.n s) ≤ i)) = true ∧ (!decide (Int.ofNat (SS.n s) ≤ i)) = true ∧ decide (Int.ofNat (SS.n s) ≤ i) = false ∧ ((!decide (Int.ofNat L = (64 : Int))) =
  true → K (Res.rv (AV.i .i64 (2 : Int)) { tree := z1 (AObj.cells 51 5 [] (z1 (AV.lr 1 1 0 (SS.n s) false) (z1 (AV.lr 2 2 0 (List.length (SS.P s)) false) (zl (AV.i .i64 (SS.am s))) T.e) (z1 (AV.i .i64 (Int.ofNat (SS.wr s))) (zl (AV.b (SS.off s))) T.e))) (zl (AObj.rows 55 1 (SS.n s) (imgF s))) (zl (AObj.rows 91 2 (List.length (SS.P s)) (penF (oA (SS.P s)) (oB (SS.P s))))), next := 3, log := [] })
  Orc.z) ∧ ((!decide (Int.ofNat L = (64 : Int))) = false → True ∧ Con Tryd.prog 34 [AV.sv 1 L fun k x => CV.i .u8 (bs k)] [] (AV.sv 1 L fun k x => CV.i .u8 (bs k)) [] ∧ (0 +
  List.length (SS.P s) ≤ List.length (SS.P s) ∧ True ∧ List.length (SS.P s) + 1 ≤ 140737488355328 ∧ (3 * (List.length (SS.P s) + 1) + 1536) * 32 ≤ 562949953421312) ∧ True ∧ True ∧
  ((-9223372036854775808 : Int) ≤ Int.ofNat (SS.wr s) + (1 : Int) ∧ Int.ofNat (SS.wr s) + (1 : Int) ≤ (9223372036854775807 : Int)) ∧ True ∧ True ∧ (decide (SS.am s = (0 : Int)) =
  true → True ∧ True ∧ K (Res.rv (AV.i .i64 (13 : Int)) { tree := z1 (AObj.cells 51 5 [] (z1 (AV.lr 1 1 0 (SS.n s) false) (z1 (AV.lr 4 2 0 (addN (List.length (SS.P s)) 1) false) (zl (AV.i .i64 (-1 : Int))) T.e) (z1 (AV.i .i64 (Int.ofNat (SS.wr s) + (1 : Int))) (zl (AV.b true)) T.e))) (z1 (AObj.rows 55 1 (SS.n s) (imgF s)) (zl (AObj.cells 91 2 [] (z1 (AV.i .i64 i) (zl (AV.sv 1 L fun k x => CV.i .u8 (bs k))) T.e))) T.e) (z0 (zl (AObj.rows 91 2 (addN (List.length (SS.P s)) 1) (appZ (List.length (SS.P s)) (fun k j => match j with | 0 => CV.i .i64 (Int.ofNat (oA (SS.P s) k)) | x => CV.sv 1 64 fun q x => CV.i .u8 (oB (SS.P s) k q)) fun x j => List.getD [CV.i .i64 i, CV.sv 1 L fun k x => CV.i .u8 (bs k)] j CV.p0))) T.e), next := 5, log := [0, 0, 0, 0, 4, 2, 3] })
  Orc.z) ∧ (decide (SS.am s = (0 : Int)) = false → True ∧ (decide ((0 : Int) < SS.am s) = true → True ∧ ((-9223372036854775808 : Int) ≤ SS.am s - (1 : Int) ∧ SS.am s - (1 : Int) ≤
  (9223372036854775807 : Int)) ∧ True ∧ K (Res.rv (AV.i .i64 (0 : Int)) { tree := z1 (AObj.cells 51 5 [] (z1 (AV.lr 1 1 0 (SS.n s) false) (z1 (AV.lr 4 2 0 (addN (List.length (SS.P s)) 1) false) (zl (AV.i .i64 (SS.am s - (1 : Int)))) T.e) (z1 (AV.i .i64 (Int.ofNat (SS.wr s) + (1 : Int))) (zl (AV.b (SS.off s))) T.e))) (z1 (AObj.rows 55 1 (SS.n s) (imgF s)) (zl (AObj.cells 91 2 [] (z1 (AV.i .i64 i) (zl (AV.sv 1 L fun k x => CV.i .u8 (bs k))) T.e))) T.e) (z0 (zl (AObj.rows 91 2 (addN (List.length (SS.P s)) 1) (appZ (List.length (SS.P s)) (fun k j => match j with | 0 => CV.i .i64 (Int.ofNat (oA (SS.P s) k)) | x => CV.sv 1 64 fun q x => CV.i .u8 (oB (SS.P s) k q)) fun x j => List.getD [CV.i .i64 i, CV.sv 1 L fun k x => CV.i .u8 (bs k)] j CV.p0))) T.e), next := 5, log := [0, 0, 0, 4, 2, 3] })
  Orc.z) ∧ (decide ((0 : Int) < SS.am s) = false → K (Res.rv (AV.i .i64 (0 : Int)) { tree := z1 (AObj.cells 51 5 [] (z1 (AV.lr 1 1 0 (SS.n s) false) (z1 (AV.lr 4 2 0 (addN (List.length (SS.P s)) 1) false) (zl (AV.i .i64 (SS.am s))) T.e) (z1 (AV.i .i64 (Int.ofNat (SS.wr s) + (1 : Int))) (zl (AV.b (SS.off s))) T.e))) (z1 (AObj.rows 55 1 (SS.n s) (imgF s)) (zl (AObj.cells 91 2 [] (z1 (AV.i .i64 i) (zl (AV.sv 1 L fun k x => CV.i .u8 (bs k))) T.e))) T.e) (z0 (zl (AObj.rows 91 2 (addN (List.length (SS.P s)) 1) (appZ (List.length (SS.P s)) (fun k j => match j with | 0 => CV.i .i64 (Int.ofNat (oA (SS.P s) k)) | x => CV.sv 1 64 fun q x => CV.i .u8 (oB (SS.P s) k q)) fun x j => List.getD [CV.i .i64 i, CV.sv 1 L fun k x => CV.i .u8 (bs k)] j CV.p0))) T.e), next := 5, log := [0, 0, 4, 2, 3] })
  Orc.z)))) ∧ ((!decide (Int.ofNat (SS.n s) ≤ i)) = false → (!decide (Int.ofNat (SS.n s) ≤ i)) = false ∧ (!decide (Int.ofNat (SS.n s) ≤ i)) = false ∧ decide (Int.ofNat (SS.n s) ≤ i)
  = true ∧ K (Res.rv (AV.i .i64 (2 : Int)) { tree := z1 (AObj.cells 51 5 [] (z1 (AV.lr 1 1 0 (SS.n s) false) (z1 (AV.lr 2 2 0 (List.length (SS.P s)) false) (zl (AV.i .i64 (SS.am s))) T.e) (z1 (AV.i .i64 (Int.ofNat (SS.wr s))) (zl (AV.b (SS.off s))) T.e))) (zl (AObj.rows 55 1 (SS.n s) (imgF s))) (zl (AObj.rows 91 2 (List.length (SS.P s)) (penF (oA (SS.P s)) (oB (SS.P s))))), next := 3, log := [] })
  Orc.z)) ∧ ((!decide (i < (0 : Int))) = false → (!decide (i < (0 : Int))) = false ∧ (!decide (i < (0 : Int))) = false ∧ (!decide (i < (0 : Int))) = false ∧ (!decide (i < (0 :
  Int))) = false ∧ (!decide (i < (0 : Int))) = false ∧ (!decide (i < (0 : Int))) = false ∧ decide (i < (0 : Int)) = true ∧ K (Res.rv (AV.i .i64 (2 : Int)) { tree := z1 (AObj.cells 51 5 [] (z1 (AV.lr 1 1 0 (SS.n s) false) (z1 (AV.lr 2 2 0 (List.length (SS.P s)) false) (zl (AV.i .i64 (SS.am s))) T.e) (z1 (AV.i .i64 (Int.ofNat (SS.wr s))) (zl (AV.b (SS.off s))) T.e))) (zl (AObj.rows 55 1 (SS.n s) (imgF s))) (zl (AObj.rows 91 2 (List.length (SS.P s)) (penF (oA (SS.P s)) (oB (SS.P s))))), next := 3, log := [] })
  Orc.z))) := by kernel_rfl
theorem nd_t {a b : Int} (h : a < b) : (!decide (a < b)) = false := by simp [h]
theorem nd_f {a b : Int} (h : ¬ a < b) : (!decide (a < b)) = true := by simp only [decide_eq_false h]; rfl
theorem rread2_con (s : SS) (i : Int) (hl : s.P.length ≤ 1073741824) : Con Tryd.prog 30 [.p 0 0, .i .i64 i] [some (rsA 2 s), some (rsR s), some (rsP s)] (.tup [.sv 1 (s.rdN i) fun k _ => .i .u8 (s.rdB i k), .i .i64 (s.rdE i)]) [.keep, .keep, .keep] := by
  have bad : ∀ e : Int, e ≠ 0 → s.rdE i = e → Con Tryd.prog 30 [.p 0 0, .i .i64 i] [some (rsA 2 s), some (rsR s), some (rsP s)] (.tup [.l0, .i .i64 e]) [.keep, .keep, .keep] → Con Tryd.prog 30 [.p 0 0, .i .i64 i] [some (rsA 2 s), some (rsR s), some (rsP s)] (.tup [.sv 1 (s.rdN i) fun k _ => .i .u8 (s.rdB i k), .i .i64 (s.rdE i)]) [.keep, .keep, .keep] := fun e he h k => by
    rw [SS.rdN_0 (by rw [h]; exact he), h]
    exact k.post (.tup ⟨.nil _ _, .refl _, trivial⟩) (OVL.refl _)
  have hlen : (-9223372036854775808 : Int) ≤ Int.ofNat s.P.length - 1 ∧ Int.ofNat s.P.length - 1 ≤ (9223372036854775807 : Int) := ⟨by simp; omega, by simp; omega⟩
  cases ho : s.off with
  | true =>
    have e1 : s.rdE i = 13 := by unfold SS.rdE; rw [ho]
    refine bad 13 (by decide) e1 (con_of_run [] [] ((rreadM_vc s i _).mpr ⟨trivial, fun _ => ⟨_, _, rfl, ret_is (by kernel_rfl) rfl (by kernel_rfl) (by kernel_rfl) rfl (by refine ⟨?_, ?_, ?_, ?_, ?_, ?_, trivial⟩ <;> kernel_rfl)⟩, fun h => (by rw [ho] at h; cases h)⟩))
  | false =>
    by_cases h0 : i < 0
    · have e1 : s.rdE i = 2 := by unfold SS.rdE; rw [ho, show decide (0 ≤ i ∧ i < Int.ofNat s.n) = false from decide_eq_false (by omega)]
      have d := nd_t h0
      exact bad 2 (by decide) e1 (con_of_run [] [] ((rreadM_vc s i _).mpr ⟨trivial, fun h => (by rw [ho] at h; cases h), fun _ => ⟨fun h => (by rw [d] at h; cases h), fun _ => ⟨d, d, d, d, d, d, decide_eq_true h0, _, _, rfl, ret_is (by kernel_rfl) rfl (by kernel_rfl) (by kernel_rfl) rfl (by refine ⟨?_, ?_, ?_, ?_, ?_, ?_, trivial⟩ <;> kernel_rfl)⟩⟩⟩))
    · have d := nd_f h0
      by_cases h1 : Int.ofNat s.n ≤ i
      · have e1 : s.rdE i = 2 := by unfold SS.rdE; rw [ho, show decide (0 ≤ i ∧ i < Int.ofNat s.n) = false from decide_eq_false (by omega)]
        exact bad 2 (by decide) e1 (con_of_run [] [] ((rreadM_vc s i _).mpr ⟨trivial, fun h => (by rw [ho] at h; cases h), fun _ => ⟨fun _ => ⟨d, d, d, trivial, d, d, d, decide_eq_false h0, fun _ => ⟨_, _, rfl, ret_is (by kernel_rfl) rfl (by kernel_rfl) (by kernel_rfl) rfl (by refine ⟨?_, ?_, ?_, ?_, ?_, ?_, trivial⟩ <;> kernel_rfl)⟩, fun h => absurd h1 (of_decide_eq_false h)⟩, fun h => (by rw [d] at h; cases h)⟩⟩))
      · obtain ⟨q, rfl⟩ : ∃ q, i = Int.ofNat q := ⟨i.toNat, by simp; omega⟩
        have hq : q < s.n := by simp at h1; omega
        have hr : decide (0 ≤ Int.ofNat q ∧ Int.ofNat q < Int.ofNat s.n) = true := decide_eq_true ⟨by simp, by simp; omega⟩
        cases hb : lB s.P q with
        | true =>
          have e1 : s.rdE (Int.ofNat q) = 0 := by unfold SS.rdE; rw [ho, hr]; show (match lB s.P q with | true => (0 : Int) | false => _) = 0; rw [hb]
          have e2 : s.rdB (Int.ofNat q) = lbs s.P q := by unfold SS.rdB; show (match lB s.P q with | true => _ | false => _) = _; rw [hb]; rfl
          rw [SS.rdN_64 e1, e1, e2]
          exact con_of_run [] [] ((rreadH_vc s (Int.ofNat q) _).mpr ⟨trivial, fun h => (by rw [ho] at h; cases h), fun _ => ⟨fun _ => ⟨d, d, d, trivial, d, d, d, decide_eq_false h0, fun h => absurd (of_decide_eq_true h) h1, fun _ => ⟨trivial, hlen, rreadH_lp s q hb hl, _, _, rfl, ret_is (by kernel_rfl) rfl (by kernel_rfl) (by kernel_rfl) rfl (by refine ⟨?_, ?_, ?_, ?_, ?_, ?_, trivial⟩ <;> kernel_rfl)⟩⟩, fun h => (by rw [d] at h; cases h)⟩⟩)
        | false =>
          have hi : (0 : Int) ≤ Int.ofNat q ∧ Int.ofNat q < (s.n : Int) := ⟨by simp, by simp; omega⟩
          cases ht : s.torn q with
          | true =>
            have e1 : s.rdE (Int.ofNat q) = 14 := by unfold SS.rdE; rw [ho, hr]; show (match lB s.P q with | true => (0 : Int) | false => match s.torn q with | true => 14 | false => 0) = 14; rw [hb, ht]
            have dt : decide (Int.ofNat (bif s.torn (Int.toNat (Int.ofNat q)) then (0 : Nat) else (64 : Nat)) = (0 : Int)) = true := by
              show decide (Int.ofNat (bif s.torn q then (0 : Nat) else (64 : Nat)) = (0 : Int)) = true
              rw [ht]; rfl
            exact bad 14 (by decide) e1 (con_of_run [] [] ((rreadM_vc s (Int.ofNat q) _).mpr ⟨trivial, fun h => (by rw [ho] at h; cases h), fun _ => ⟨fun _ => ⟨d, d, d, trivial, d, d, d, decide_eq_false h0, fun h => absurd (of_decide_eq_true h) h1, fun _ => ⟨trivial, hlen, rreadM_lp s q hb hl, trivial, hi, hq, fun _ => ⟨_, _, rfl, ret_is (by kernel_rfl) rfl (by kernel_rfl) (by kernel_rfl) rfl (by refine ⟨?_, ?_, ?_, ?_, ?_, ?_, trivial⟩ <;> kernel_rfl)⟩, fun h => (by rw [dt] at h; cases h)⟩⟩, fun h => (by rw [d] at h; cases h)⟩⟩))
          | false =>
            have e1 : s.rdE (Int.ofNat q) = 0 := by unfold SS.rdE; rw [ho, hr]; show (match lB s.P q with | true => (0 : Int) | false => match s.torn q with | true => 14 | false => 0) = 0; rw [hb, ht]
            have e2 : s.rdB (Int.ofNat q) = s.dur q := by unfold SS.rdB; show (match lB s.P q with | true => _ | false => _) = _; rw [hb]; rfl
            have dt : decide (Int.ofNat (bif s.torn (Int.toNat (Int.ofNat q)) then (0 : Nat) else (64 : Nat)) = (0 : Int)) = false := by
              show decide (Int.ofNat (bif s.torn q then (0 : Nat) else (64 : Nat)) = (0 : Int)) = false
              rw [ht]; rfl
            rw [SS.rdN_64 e1, e1, e2]
            have key : Con Tryd.prog 30 [.p 0 0, .i .i64 (Int.ofNat q)] [some (rsA 2 s), some (rsR s), some (rsP s)] (.tup [.sv 1 (bif s.torn q then 0 else 64) fun k _ => .i .u8 (s.dur q k), .i .i64 0]) [.keep, .keep, .keep] :=
              con_of_run [] [] ((rreadM_vc s (Int.ofNat q) _).mpr ⟨trivial, fun h => (by rw [ho] at h; cases h), fun _ => ⟨fun _ => ⟨d, d, d, trivial, d, d, d, decide_eq_false h0, fun h => absurd (of_decide_eq_true h) h1, fun _ => ⟨trivial, hlen, rreadM_lp s q hb hl, trivial, hi, hq, fun h => (by rw [dt] at h; cases h), fun _ => ⟨trivial, hi, hq, copied_con _ _ (by show (bif s.torn q then 0 else 64) ≤ _; rw [ht]; decide), _, _, rfl, ret_is (by kernel_rfl) rfl (by kernel_rfl) (by kernel_rfl) rfl (by refine ⟨?_, ?_, ?_, ?_, ?_, ?_, trivial⟩ <;> kernel_rfl)⟩⟩⟩, fun h => (by rw [d] at h; cases h)⟩⟩)
            rw [ht] at key; exact key
theorem rowsLe {e : TypeId} {sz n m : Nat} {f f' : Nat → Nat → CV} (h : m ≤ n) (hf : ∀ i j, i < m → j < sz → CW (f i j) (f' i j)) : OV (some (.rows e sz n f)) (some (.rows e sz m f')) := by
  refine .x fun x' hx => ?_
  cases hx
  refine ⟨_, rfl, fun hv => ?_, ?_⟩
  · have hv : n = 0 := hv
    show m = 0
    omega
  · rintro ρ p w ⟨c, fr, h1, h2, h3, h4, h5⟩
    refine ⟨c, fr, h1, h2, h3, ?_, fun i j hi hj => ?_⟩
    · have := Nat.mul_le_mul_right sz h
      omega
    · obtain ⟨v', a, b⟩ := h5 i j (by omega) hj
      exact ⟨v', a, hf i j hi hj _ _ b⟩
theorem sv0_cw (sz : Nat) (f g : Nat → Nat → CV) : CW (.sv sz 0 f) (.sv sz 0 g) := by
  intro ro v h
  cases h with
  | sv0 => exact .sv0 _ _
  | svz _ _ a c => exact .svz _ _ a c
  | sv _ _ _ B o cap gg hc _ _ => exact .sv _ _ _ B o cap gg hc (fun i j hi _ => absurd hi (Nat.not_lt_zero _)) (fun i j hi _ => absurd hi (Nat.not_lt_zero _))
noncomputable def rsZ (n wr : Nat) (am : Int) (off : Bool) : AObj := .cells 51 5 [] (setAll .e 0 [.lr 1 1 0 n false, .l0, .i .i64 (Int.ofNat wr), .i .i64 am, .b off])
theorem rsZ_ov (n wr : Nat) (am : Int) (off : Bool) : OV (some (rsZ n wr am off)) (some (rsQ 2 n 0 wr am off)) :=
  .cellsD (dflt := []) (l := [.lr 1 1 0 n false, .l0, .i .i64 (Int.ofNat wr), .i .i64 am, .b off]) (l' := [.lr 1 1 0 n false, .lr 2 2 0 0 false, .i .i64 (Int.ofNat wr), .i .i64 am, .b off]) ⟨.refl _, .l0_lr, .refl _, .refl _, .refl _, trivial⟩
theorem laid_img (s : SS) {m : Nat} (h : m ≤ s.P.length) : imgF (laidM s m) = imgF (s.flush m) := by
  unfold laidM
  rw [laid_eq s m h]; rfl
theorem rbar2_con (s : SS) (hl : s.P.length ≤ 1073741824) (ha : ∀ w ∈ s.P, w.1 < s.n) : Con Tryd.prog 40 [.p 0 0] [some (rsA 2 s), some (rsR s), some (rsP s)] (.i .i64 s.faultE) [.set (rsA 2 s.bar), .set (rsR s.bar), .set (rsP s.bar)] := by
  cases ho : s.off with
  | true =>
    have e0 : s.faultE = 13 := by unfold SS.faultE; rw [ho]; rfl
    have e1 : s.bar = s := by unfold SS.bar; rw [ho]
    rw [e0, e1]
    have k : Con Tryd.prog 40 [.p 0 0] [some (rsA 2 s), some (rsR s), some (rsP s)] (.i .i64 13) [.keep, .keep, .keep] :=
      con_of_run [] [] ((rbar_vc s _).mpr ⟨trivial, fun _ => ⟨_, _, rfl, ret_is (by kernel_rfl) rfl (by kernel_rfl) (by kernel_rfl) rfl (by refine ⟨?_, ?_, ?_, ?_, ?_, ?_, trivial⟩ <;> kernel_rfl)⟩, fun h => (by rw [ho] at h; cases h)⟩)
    exact k.oeq (OEqL.refl _) (OEqL.refl _)
  | false =>
    have e0 : s.faultE = 0 := by unfold SS.faultE; rw [ho]; rfl
    have e1 : s.bar = s.flush s.P.length := by unfold SS.bar; rw [ho]
    rw [e0, e1]
    have k : Con Tryd.prog 40 [.p 0 0] [some (rsA 2 s), some (rsR s), some (rsP s)] (.i .i64 0) [.set (rsZ s.n s.wr s.am s.off), .set (.rows 55 1 s.n (imgF (laidM s s.P.length))), .keep] :=
      con_of_run [] [] ((rbar_vc s _).mpr ⟨trivial, fun h => (by rw [ho] at h; cases h), fun _ => ⟨rbarG_lp s hl ha, trivial, _, _, rfl, ret_is (by kernel_rfl) rfl (by kernel_rfl) (by kernel_rfl) rfl (by refine ⟨?_, ?_, ?_, ?_, ?_, ?_, trivial⟩ <;> kernel_rfl)⟩⟩)
    rw [laid_img s (Nat.le_refl _)] at k
    exact k.post (.refl _) ⟨rsZ_ov _ _ _ _, .refl _, rowsLe (Nat.zero_le _) fun i j hi _ => absurd hi (Nat.not_lt_zero _), trivial⟩
theorem appZ_cw {n : Nat} {f g f' : Nat → Nat → CV} {i j : Nat} (h1 : i < n → CW (f i j) (f' i j)) (h2 : n ≤ i → CW (g (i - n) j) (f' i j)) : CW (appZ n f g i j) (f' i j) := by
  cases n with
  | zero => exact h2 (Nat.zero_le _)
  | succ n =>
    refine (zipCV_CW (Nat.blt i (n + 1)) (f i j) (g (i - (n + 1)) j)).trans ?_
    by_cases h : i < n + 1
    · rw [show Nat.blt i (n + 1) = true by rw [Nat.blt_eq]; exact h]
      exact h1 h
    · rw [show Nat.blt i (n + 1) = false by rw [Bool.eq_false_iff, ne_eq, Nat.blt_eq]; exact h]
      exact h2 (by omega)
theorem nthW_lo (w : Nat × (Nat → Int)) (P : PW) {k : Nat} (h : k < P.length) : nthW (w :: P) k = nthW P k := by
  unfold nthW
  rw [show (w :: P).length - 1 - k = (P.length - 1 - k) + 1 by simp; omega, List.drop_succ_cons]
theorem nthW_hi (w : Nat × (Nat → Int)) (P : PW) : nthW (w :: P) P.length = w := by
  unfold nthW
  rw [show (w :: P).length - 1 - P.length = 0 by simp]; rfl
theorem pen_app (q : Nat) (bs : Nat → Int) (P : PW) {i j : Nat} (hi : i < P.length + 1) (hj : j < 2) :
    CW (appZ P.length (penF (oA P) (oB P)) (fun _ j => List.getD [CV.i .i64 (Int.ofNat q), CV.sv 1 64 fun k _ => .i .u8 (bs k)] j .p0) i j) (penF (oA ((q, bs) :: P)) (oB ((q, bs) :: P)) i j) := by
  refine appZ_cw (fun h => .of ?_) (fun h => .of ?_)
  · unfold penF oA oB
    rw [nthW_lo _ _ h]
  · have : i = P.length := by omega
    subst this
    unfold penF oA oB
    rw [nthW_hi]
    have hj : j = 0 ∨ j = 1 := by omega
    rcases hj with rfl | rfl <;> exact Eq.refl _
theorem rwriteOk_con (s : SS) (q : Nat) (bs : Nat → Int) (ok : s.Ok) (hl : s.P.length ≤ 1073741824) (ho : s.off = false) (hq : q < s.n) :
    Con Tryd.prog 38 [.p 0 0, .i .i64 (Int.ofNat q), .sv 1 64 fun k _ => .i .u8 (bs k)] [some (rsA 2 s), some (rsR s), some (rsP s)] (.i .i64 (s.wrote q bs).payE)
      [.set (rsA 3 (s.wrote q bs).pay), .keep, .gone, .set (rsP (s.wrote q bs).pay)] := by
  have d0 := nd_f (a := Int.ofNat q) (b := 0) (by simp)
  have d1 : (!decide (Int.ofNat s.n ≤ Int.ofNat q)) = true := by simp; omega
  have d1' : decide (Int.ofNat s.n ≤ Int.ofNat q) = false := by simp; omega
  have d2 : (!decide (Int.ofNat 64 = (64 : Int))) = false := by decide
  have sz : 0 + s.P.length ≤ s.P.length ∧ True ∧ s.P.length + 1 ≤ 140737488355328 ∧ (3 * (s.P.length + 1) + 1536) * 32 ≤ 562949953421312 := ⟨by omega, trivial, by omega, by omega⟩
  have hw : (-9223372036854775808 : Int) ≤ Int.ofNat s.wr + 1 ∧ Int.ofNat s.wr + 1 ≤ (9223372036854775807 : Int) := by have := ok.wr; exact ⟨by simp; omega, by simp; omega⟩
  have fin : ∀ (s' : SS) (am : Int) (off : Bool) (e : Int), s'.n = s.n → s'.P = (q, bs) :: s.P → s'.wr = s.wr + 1 → am = s'.am → off = s'.off →
      Con Tryd.prog 38 [.p 0 0, .i .i64 (Int.ofNat q), .sv 1 64 fun k _ => .i .u8 (bs k)] [some (rsA 2 s), some (rsR s), some (rsP s)] (.i .i64 e) [.set (rsQ 3 s.n (addN s.P.length 1) (s.wr + 1) am off), .keep, .gone,
        .set (.rows 91 2 (addN s.P.length 1) (appZ s.P.length (penF (oA s.P) (oB s.P)) (fun _ j => List.getD [CV.i .i64 (Int.ofNat q), CV.sv 1 64 fun k _ => .i .u8 (bs k)] j .p0)))] →
      Con Tryd.prog 38 [.p 0 0, .i .i64 (Int.ofNat q), .sv 1 64 fun k _ => .i .u8 (bs k)] [some (rsA 2 s), some (rsR s), some (rsP s)] (.i .i64 e) [.set (rsA 3 s'), .keep, .gone, .set (rsP s')] := fun s' am off e h1 h2 h3 h4 h5 k => by
    rw [addN_eq] at k
    have e1 : rsA 3 s' = rsQ 3 s.n (s.P.length + 1) (s.wr + 1) am off := by
      unfold rsA
      rw [h1, h2, h3, h4, h5]; rfl
    rw [e1]
    refine k.post (.refl _) ⟨.refl _, .refl _, .refl _, ?_, trivial⟩
    unfold rsP
    rw [h2]
    exact .rowsW fun i j hi hj => pen_app q bs s.P hi hj
  cases ha : s.armed with
  | false =>
    have e1 : (s.wrote q bs).pay = s.wrote q bs := by show (match s.armed with | false => _ | true => _) = _; rw [ha]
    have e2 : (s.wrote q bs).payE = 0 := by show (match s.armed with | false => (0 : Int) | true => _) = _; rw [ha]
    have em : s.am = -1 := by unfold SS.am; rw [ha]; rfl
    rw [e1, e2]
    refine fin (s.wrote q bs) s.am s.off 0 rfl rfl rfl rfl rfl (con_of_run [] [4] ((rwrite_vc s 64 (Int.ofNat q) bs _).mpr ⟨trivial, fun h => (by rw [ho] at h; cases h), fun _ => ⟨fun _ => ⟨d0, d0, d0, trivial, d0, d0, d0, decide_eq_false (by simp), fun _ => ⟨d1, d1, d1', fun h => (by rw [d2] at h; cases h),
      fun _ => ⟨trivial, copied_con 64 bs (by decide), sz, trivial, trivial, hw, trivial, trivial, fun h => (by rw [em] at h; cases h), fun _ => ⟨trivial, fun h => (by rw [em] at h; cases h), fun _ => ⟨_, _, rfl, ?_⟩⟩⟩⟩, fun h => (by rw [d1] at h; cases h)⟩, fun h => (by rw [d0] at h; cases h)⟩⟩))
    exact ret_is (by kernel_rfl) rfl (by kernel_rfl) (by kernel_rfl) rfl (by refine ⟨?_, ?_, ?_, ?_, ?_, ?_, trivial⟩ <;> kernel_rfl)
  | true =>
    cases hb : Nat.beq s.left 0 with
    | true =>
      have hl0 : s.left = 0 := by rwa [Nat.beq_eq] at hb
      have e1 : (s.wrote q bs).pay = { s.wrote q bs with off := true, armed := false } := by
        show (match s.armed with | false => _ | true => match Nat.beq s.left 0 with | true => _ | false => _) = _
        rw [ha, hb]
      have e2 : (s.wrote q bs).payE = 13 := by
        show (match s.armed with | false => (0 : Int) | true => match Nat.beq s.left 0 with | true => 13 | false => 0) = _
        rw [ha, hb]
      have em : s.am = 0 := by unfold SS.am; rw [ha, hl0]; rfl
      rw [e1, e2]
      refine fin { s.wrote q bs with off := true, armed := false } (-1) true 13 rfl rfl rfl rfl rfl (con_of_run [] [4] ((rwrite_vc s 64 (Int.ofNat q) bs _).mpr ⟨trivial, fun h => (by rw [ho] at h; cases h), fun _ => ⟨fun _ => ⟨d0, d0, d0, trivial, d0, d0, d0, decide_eq_false (by simp), fun _ => ⟨d1, d1, d1', fun h => (by rw [d2] at h; cases h),
        fun _ => ⟨trivial, copied_con 64 bs (by decide), sz, trivial, trivial, hw, trivial, trivial, fun _ => ⟨trivial, trivial, _, _, rfl, ?_⟩, fun h => (by rw [em] at h; cases h)⟩⟩, fun h => (by rw [d1] at h; cases h)⟩, fun h => (by rw [d0] at h; cases h)⟩⟩))
      exact ret_is (by kernel_rfl) rfl (by kernel_rfl) (by kernel_rfl) rfl (by refine ⟨?_, ?_, ?_, ?_, ?_, ?_, trivial⟩ <;> kernel_rfl)
    | false =>
      have hl0 : s.left ≠ 0 := by intro e; rw [e] at hb; cases hb
      have e1 : (s.wrote q bs).pay = { s.wrote q bs with left := s.left - 1 } := by
        show (match s.armed with | false => _ | true => match Nat.beq s.left 0 with | true => _ | false => _) = _
        rw [ha, hb]; rfl
      have e2 : (s.wrote q bs).payE = 0 := by
        show (match s.armed with | false => (0 : Int) | true => match Nat.beq s.left 0 with | true => 13 | false => 0) = _
        rw [ha, hb]
      have em : s.am = Int.ofNat s.left := by unfold SS.am; rw [ha]; rfl
      have hle := ok.left
      have e3 : s.am - 1 = SS.am { s.wrote q bs with left := s.left - 1 } := by
        rw [em]
        show Int.ofNat s.left - 1 = (bif s.armed then Int.ofNat (s.left - 1) else -1)
        rw [ha]; simp; omega
      have dz : decide (s.am = 0) = false := by rw [em]; simp; exact hl0
      have dp : decide (0 < s.am) = true := by rw [em]; simp; omega
      rw [e1, e2]
      refine fin { s.wrote q bs with left := s.left - 1 } (s.am - 1) s.off 0 rfl rfl rfl e3 rfl (con_of_run [] [4] ((rwrite_vc s 64 (Int.ofNat q) bs _).mpr ⟨trivial, fun h => (by rw [ho] at h; cases h), fun _ => ⟨fun _ => ⟨d0, d0, d0, trivial, d0, d0, d0, decide_eq_false (by simp), fun _ => ⟨d1, d1, d1', fun h => (by rw [d2] at h; cases h),
        fun _ => ⟨trivial, copied_con 64 bs (by decide), sz, trivial, trivial, hw, trivial, trivial, fun h => (by rw [dz] at h; cases h), fun _ => ⟨trivial, fun _ => ⟨trivial, ⟨by rw [em]; simp; omega, by rw [em]; simp; omega⟩, trivial, _, _, rfl, ?_⟩, fun h => (by rw [dp] at h; cases h)⟩⟩⟩, fun h => (by rw [d1] at h; cases h)⟩, fun h => (by rw [d0] at h; cases h)⟩⟩))
      exact ret_is (by kernel_rfl) rfl (by kernel_rfl) (by kernel_rfl) rfl (by refine ⟨?_, ?_, ?_, ?_, ?_, ?_, trivial⟩ <;> kernel_rfl)
theorem rwriteNo_con (s : SS) (i : Int) (L : Nat) (bs : Nat → Int) (h : s.off = true ∨ ¬ (0 ≤ i ∧ i < Int.ofNat s.n ∧ L = 64)) :
    Con Tryd.prog 38 [.p 0 0, .i .i64 i, .sv 1 L fun k _ => .i .u8 (bs k)] [some (rsA 2 s), some (rsR s), some (rsP s)] (.i .i64 (s.wrE i L)) [.keep, .keep, .keep] := by
  cases ho : s.off with
  | true =>
    have e1 : s.wrE i L = 13 := by unfold SS.wrE; rw [ho]
    rw [e1]
    exact con_of_run [] [] ((rwrite_vc s L i bs _).mpr ⟨trivial, fun _ => ⟨_, _, rfl, ret_is (by kernel_rfl) rfl (by kernel_rfl) (by kernel_rfl) rfl (by refine ⟨?_, ?_, ?_, ?_, ?_, ?_, trivial⟩ <;> kernel_rfl)⟩, fun h => (by rw [ho] at h; cases h)⟩)
  | false =>
    have hn : ¬ (0 ≤ i ∧ i < Int.ofNat s.n ∧ L = 64) := by
      rcases h with h | h
      · rw [ho] at h; cases h
      · exact h
    have e1 : s.wrE i L = 2 := by unfold SS.wrE; rw [ho, decide_eq_false hn]
    rw [e1]
    by_cases h0 : i < 0
    · have d := nd_t h0
      exact con_of_run [] [] ((rwrite_vc s L i bs _).mpr ⟨trivial, fun h => (by rw [ho] at h; cases h), fun _ => ⟨fun h => (by rw [d] at h; cases h), fun _ => ⟨d, d, d, d, d, d, decide_eq_true h0, _, _, rfl, ret_is (by kernel_rfl) rfl (by kernel_rfl) (by kernel_rfl) rfl (by refine ⟨?_, ?_, ?_, ?_, ?_, ?_, trivial⟩ <;> kernel_rfl)⟩⟩⟩)
    · have d := nd_f h0
      by_cases h1 : Int.ofNat s.n ≤ i
      · have d1 : (!decide (Int.ofNat s.n ≤ i)) = false := by rw [decide_eq_true h1]; rfl
        exact con_of_run [] [] ((rwrite_vc s L i bs _).mpr ⟨trivial, fun h => (by rw [ho] at h; cases h), fun _ => ⟨fun _ => ⟨d, d, d, trivial, d, d, d, decide_eq_false h0, fun h => (by rw [d1] at h; cases h), fun _ => ⟨d1, d1, decide_eq_true h1, _, _, rfl, ret_is (by kernel_rfl) rfl (by kernel_rfl) (by kernel_rfl) rfl (by refine ⟨?_, ?_, ?_, ?_, ?_, ?_, trivial⟩ <;> kernel_rfl)⟩⟩, fun h => (by rw [d] at h; cases h)⟩⟩)
      · have d1 : (!decide (Int.ofNat s.n ≤ i)) = true := by rw [decide_eq_false h1]; rfl
        have hL : (!decide (Int.ofNat L = (64 : Int))) = true := by
          have : ¬ L = 64 := fun e => hn ⟨by omega, by omega, e⟩
          simp; omega
        exact con_of_run [] [] ((rwrite_vc s L i bs _).mpr ⟨trivial, fun h => (by rw [ho] at h; cases h), fun _ => ⟨fun _ => ⟨d, d, d, trivial, d, d, d, decide_eq_false h0, fun _ => ⟨d1, d1, decide_eq_false h1, fun _ => ⟨_, _, rfl, ret_is (by kernel_rfl) rfl (by kernel_rfl) (by kernel_rfl) rfl (by refine ⟨?_, ?_, ?_, ?_, ?_, ?_, trivial⟩ <;> kernel_rfl)⟩, fun h => (by rw [hL] at h; cases h)⟩, fun h => (by rw [d1] at h; cases h)⟩, fun h => (by rw [d] at h; cases h)⟩⟩)
end Go.Proofs.St
namespace Go.Proofs.St
open Go Go.Sim Go.Proofs.YtiihmkiiojlcaaaDoor
theorem ncopiedR_vc (n k : Nat) (bs : Nat → Nat) (ff : Nat → Nat → CV) (K : Res → Orc → Prop) : runK Tryd.prog 1000000 (.code (loopAt Tryd.prog 34 0) 22 (mkT [(0, .sv 1 n (bF bs)),
  (3, .lr 0 1 0 n false), (4, .i .i64 (Int.ofNat k))]) (mkH [some (.rows 5 1 n ff)])) (Orc.s Orc.z Orc.z) K = ((decide (Int.ofNat k < Int.ofNat n) = true → ((0 : Int) ≤ Int.ofNat k
  ∧ Int.ofNat k < ↑n) ∧ True ∧ ((0 : Int) ≤ Int.ofNat k ∧ Int.ofNat k < ↑n) ∧ k < n ∧ ((-9223372036854775808 : Int) ≤ Int.ofNat k + (1 : Int) ∧ Int.ofNat k + (1 : Int) ≤
  (9223372036854775807 : Int)) ∧ K (Res.st XO.nrm (z1 (AV.sv 1 n (bF bs)) (z0 (z1 (AV.lr 0 1 0 n false) (z0 (zl (AV.i .i64 (Int.ofNat k))) T.e) (z1 (AV.b (decide (Int.ofNat k <
  Int.ofNat n))) (zl (AV.i .u8 (Int.ofNat (bs k)))) T.e)) (z0 (z1 (AV.sv 1 n (bF bs)) (zl (AV.i .i64 (Int.ofNat k))) T.e) (zl (AV.i .i64 (Int.ofNat k + (1 : Int)))))) (z0 (z1 (AV.i
  .i64 (Int.ofNat k + (1 : Int))) (z1 (AV.i .i64 (Int.ofNat k)) (zl (AV.sv 1 n (bF bs))) T.e) (z1 (AV.i .i64 (Int.ofNat k)) (zl (AV.pr 0 1 k 0)) T.e)) (z0 (z1 (AV.i .i64 (Int.ofNat
  n)) (zl (AV.pv 1 (bF bs k))) T.e) (zl (AV.lr 0 1 0 n false))))) { tree := zl (AObj.rows 5 1 n (setRow ff k 0 [CV.i .u8 (Int.ofNat (bs k))])), next := 1, log := [0] }) Orc.z) ∧
  (decide (Int.ofNat k < Int.ofNat n) = false → K (Res.st (XO.exit 0) (z1 (AV.sv 1 n (bF bs)) (z0 (z1 (AV.lr 0 1 0 n false) T.e (zl (AV.b (decide (Int.ofNat k < Int.ofNat n))))) (z0
  (zl (AV.sv 1 n (bF bs))) T.e)) (z0 (z1 (AV.i .i64 (Int.ofNat k)) (zl (AV.i .i64 (Int.ofNat k))) T.e) (z0 (zl (AV.i .i64 (Int.ofNat n))) T.e))) { tree := zl (AObj.rows 5 1 n ff), next := 1, log := [] })
  Orc.z)) := by kernel_rfl
theorem ncopied_vc (n : Nat) (bs : Nat → Nat) (K : Res → Orc → Prop) : runK Tryd.prog 1000000 (.call 34 [.sv 1 n (bF bs)] (mkH [])) (Orc.s (Orc.lop [0] [0, 3, 4] 0 (XO.exit 0) [(3,
  AV.lr 0 1 0 n false)] [some (AObj.rows 5 1 n (bF bs))] Orc.z) Orc.z) K = (((0 : Int) ≤ Int.ofNat n ∧ Int.ofNat n ≤ Int.ofNat n ∧ Int.ofNat n ≤ (1073741824 : Int)) ∧ LDoes Tryd.prog
  (loopAt Tryd.prog 34 0) 22 0 (mkT [(0, AV.sv 1 n (bF bs)), (3, AV.lr 0 1 0 n false), (4, AV.i .i64 (0 : Int))]) [some (AObj.rows 5 1 n fun x j => List.getD [CV.i .u8 (0 : Int)] j
  CV.p0)] (XO.exit 0) (mkT [(3, AV.lr 0 1 0 n false)]) [some (AObj.rows 5 1 n (bF bs))] ∧ K (Res.rv (AV.lr 1 1 0 n false) { tree := z0 (zl (AObj.rows 5 1 n (bF bs))) T.e, next := 2, log := [1, 0, 0] })
  Orc.z) := by kernel_rfl
noncomputable def ncpF (b : Nat → Nat) (k : Nat) : Nat → Nat → CV := fun i _ => .i .u8 (bif Nat.blt i k then Int.ofNat (b i) else 0)
theorem ncp_step (b : Nat → Nat) (n k : Nat) : OEq (some (.rows 5 1 n (setRow (ncpF b k) k 0 [.i .u8 (Int.ofNat (b k))]))) (some (.rows 5 1 n (ncpF b (k + 1)))) := by
  refine .rows fun i j hi hj => ?_
  have : j = 0 := by omega
  subst this
  show CV.i .u8 (bif Nat.beq i k then Int.ofNat (b k) else (bif Nat.blt i k then Int.ofNat (b i) else 0)) = CV.i .u8 (bif Nat.blt i (k + 1) then Int.ofNat (b i) else 0)
  by_cases h : i = k
  · subst h
    rw [Nat.beq_refl, cond_true, show Nat.blt i (i + 1) = true by rw [Nat.blt_eq]; omega, cond_true]
  · rw [show Nat.beq i k = false by rw [Bool.eq_false_iff, ne_eq, Nat.beq_eq]; exact h, cond_false]
    by_cases h2 : i < k
    · rw [show Nat.blt i k = true by rw [Nat.blt_eq]; exact h2, show Nat.blt i (k + 1) = true by rw [Nat.blt_eq]; omega]
    · rw [show Nat.blt i k = false by rw [Bool.eq_false_iff, ne_eq, Nat.blt_eq]; exact h2, show Nat.blt i (k + 1) = false by rw [Bool.eq_false_iff, ne_eq, Nat.blt_eq]; omega]
theorem ncopiedL_lp (n : Nat) (bs : Nat → Nat) (hn : n ≤ 1073741824) : LDoes Tryd.prog (loopAt Tryd.prog 34 0) 22 0 (mkT [(0, .sv 1 n (bF bs)), (3, .lr 0 1 0 n false), (4, .i .i64 0)]) [some (.rows 5 1 n (ncpF bs 0))] (.exit 0) (mkT [(3, .lr 0 1 0 n false)]) [some (.rows 5 1 n (bF bs))] := by
  refine loop_indE (D := Nat) (l' := [(3, .lr 0 1 0 n false)]) (fun k => ([(0, .sv 1 n (bF bs)), (3, .lr 0 1 0 n false), (4, .i .i64 (Int.ofNat k))], [some (.rows 5 1 n (ncpF bs k))])) (fun k => n - k) (fun k => k ≤ n) ?_ 0 (Nat.zero_le n)
  intro k hk
  refine ⟨Nat.zero_le _, 1000000, _, (ncopiedR_vc n k bs (ncpF bs k) _).mpr ⟨fun h => ?_, fun h => ?_⟩⟩
  · have hlt : k < n := by have := of_decide_eq_true h; simp at this; omega
    exact ⟨⟨by simp, by simp; omega⟩, trivial, ⟨by simp, by simp; omega⟩, hlt, ⟨by simp <;> omega, by simp <;> omega⟩, .inl ⟨k + 1, [0], [], _, _, _, hlt, by show n - (k + 1) < n - k; omega, rfl,
      st_is [0] (objs := [some (.rows 5 1 n (setRow (ncpF bs k) k 0 [.i .u8 (Int.ofNat (bs k))]))]) (by kernel_rfl) rfl rfl rfl ⟨by kernel_rfl, by kernel_rfl, trivial⟩ rfl, ncp_step bs n k, trivial⟩⟩
  · have hge : ¬ k < n := by have := of_decide_eq_false h; simp at this; omega
    refine .inr ⟨[0], [], _, _, _, rfl, by simp, st_is [0] (objs := [some (.rows 5 1 n (ncpF bs k))]) (by kernel_rfl) rfl rfl rfl ⟨by kernel_rfl, by kernel_rfl, trivial⟩ rfl, .rows fun i j hi hj => ?_, trivial⟩
    show CV.i .u8 (bif Nat.blt i k then Int.ofNat (bs i) else 0) = CV.i .u8 (Int.ofNat (bs i))
    rw [show Nat.blt i k = true by rw [Nat.blt_eq]; omega, cond_true]
theorem ncopied_con (n : Nat) (bs : Nat → Nat) (hn : n ≤ 1073741824) : Con Tryd.prog 34 [.sv 1 n (bF bs)] [] (.sv 1 n (bF bs)) [] :=
  con_of_run [1] [] ((ncopied_vc n bs _).mpr ⟨⟨by simp, Int.le_refl _, by simp; omega⟩, (ncopiedL_lp n bs hn).oeq ⟨.rows fun i j hi hj => by
    have : j = 0 := by omega
    subst this
    show CV.i .u8 (bif Nat.blt i 0 then Int.ofNat (bs i) else 0) = _
    rw [show Nat.blt i 0 = false by rw [Bool.eq_false_iff, ne_eq, Nat.blt_eq]; omega]; exact Eq.refl _, trivial⟩ ⟨.inl rfl, trivial⟩, _, _, rfl, ret_fz [1] ((1 = 1 ∧ 0 + n ≤ n) ∧ True) (by kernel_rfl) (by kernel_rfl) ⟨⟨rfl, by omega⟩, trivial⟩ (by kernel_rfl) rfl (by kernel_rfl) (by kernel_rfl) rfl trivial⟩)
theorem rfrom0_vc (n : Nat) (ll : Nat → Nat) (bb : Nat → Nat → Nat) (K : Res → Orc → Prop) : runK Tryd.prog 1000000 (.code (loopAt Tryd.prog 25 0) 51 (mkT [(0, .sv 1 n (imF ll bb)),
  (4, .p 0 0), (5, .i .i64 0)]) (mkH [some (.cells 51 5 [] (setAll .e 0 [.l0, .l0, .i .i64 0, .i .i64 (-1), .b false]))])) (Orc.s (Orc.s (Orc.t (Orc.t (Orc.t (Orc.t (Orc.t (Orc.t
  (Orc.s Orc.z (Orc.cal [] (AV.sv 1 (ll 0) fun k x => CV.i .u8 (Int.ofNat (bb 0 k))) [] Orc.z)))))))) (Orc.f (Orc.f (Orc.f (Orc.f (Orc.f (Orc.f (Orc.c (Orc.cal [] (AV.sv 1 (ll 0)
  fun k x => CV.i .u8 (Int.ofNat (bb 0 k))) [] Orc.z))))))))) Orc.z) K = ((decide ((0 : Int) < Int.ofNat n) = true → ((0 : Int) ≤ (0 : Int) ∧ (0 : Int) < ↑n) ∧ True ∧ ((!decide
  (Int.ofNat (ll 0) = (64 : Int))) = true → (!decide (Int.ofNat (ll 0) = (64 : Int))) = true ∧ (!decide (Int.ofNat (ll 0) = (64 : Int))) = true ∧ ((0 : Int) ≤ (0 : Int) ∧ (0 : Int)
  < ↑n) ∧ (!decide (Int.ofNat (ll 0) = (64 : Int))) = true ∧ True ∧ (!decide (Int.ofNat (ll 0) = (64 : Int))) = true ∧ (!decide (Int.ofNat (ll 0) = (64 : Int))) = true ∧ (!decide
  (Int.ofNat (ll 0) = (64 : Int))) = true ∧ ((!decide (Int.ofNat (ll 0) = (0 : Int))) = true → K (Res.st XO.ret (z1 (AV.sv 1 n (imF ll bb)) (z0 (z1 (AV.i .i64 (2 : Int)) (z0 (z0 (zl
  (AV.pv 1 (imF ll bb 0))) T.e) (zl (AV.i .i64 (0 : Int)))) (z0 (z1 (AV.b (decide ((0 : Int) < Int.ofNat n))) (zl (AV.b !decide (Int.ofNat (ll 0) = (0 : Int)))) T.e) (zl (AV.b
  !decide (Int.ofNat (ll 0) = (64 : Int)))))) (z1 (AV.i .i64 (0 : Int)) (z0 (z1 (AV.sv 1 n (imF ll bb)) (zl (AV.i .i64 (Int.ofNat (ll 0)))) T.e) (zl (AV.sv 1 (ll 0) fun k x => CV.i
  .u8 (Int.ofNat (bb 0 k))))) (z0 T.e (zl (AV.sv 1 n (imF ll bb)))))) (z1 AV.p0 (z1 (AV.p 0 0) (z0 (z1 (AV.i .i64 (0 : Int)) (zl (AV.sv 1 (ll 0) fun k x => CV.i .u8 (Int.ofNat (bb 0
  k)))) T.e) (zl (AV.pv 1 (imF ll bb 0)))) (z0 T.e (zl (AV.b !decide (Int.ofNat (ll 0) = (64 : Int)))))) (z0 (z0 (z1 (AV.i .i64 (Int.ofNat n)) (zl (AV.b !decide (Int.ofNat (ll 0) =
  (0 : Int)))) T.e) (zl (AV.i .i64 (Int.ofNat (ll 0))))) (z0 (zl (AV.sv 1 n (imF ll bb))) (zl (AV.i .i64 (0 : Int))))))) { tree := zl (AObj.cells 51 5 [] (z1 AV.l0 (z1 AV.l0 (zl (AV.i .i64 (-1 : Int))) T.e) (z1 (AV.i .i64 (0 : Int)) (zl (AV.b false)) T.e))), next := 1, log := [] })
  Orc.z) ∧ ((!decide (Int.ofNat (ll 0) = (0 : Int))) = false → True ∧ ((0 : Int) ≤ (0 : Int) ∧ (0 : Int) < ↑n) ∧ True ∧ Con Tryd.prog 34 [AV.sv 1 (ll 0) fun k x => CV.i .u8
  (Int.ofNat (bb 0 k))] [] (AV.sv 1 (ll 0) fun k x => CV.i .u8 (Int.ofNat (bb 0 k))) [] ∧ True ∧ ((-9223372036854775808 : Int) ≤ (1 : Int) ∧ (1 : Int) ≤ (9223372036854775807 : Int))
  ∧ K (Res.st XO.nrm (z1 (AV.sv 1 n (imF ll bb)) (z0 (z0 (z0 (z0 (zl (AV.pv 1 (imF ll bb 0))) (zl (AV.l 2 0 1 1 1 false))) (z1 (AV.i .i64 (0 : Int)) (zl (AV.p 0 0)) T.e)) (z0 (z1
  (AV.b (decide ((0 : Int) < Int.ofNat n))) (zl (AV.b !decide (Int.ofNat (ll 0) = (0 : Int)))) T.e) (z1 (AV.b !decide (Int.ofNat (ll 0) = (64 : Int))) (zl (AV.pv 1 (imF ll bb 0)))
  T.e))) (z1 (AV.i .i64 (1 : Int)) (z0 (z1 (AV.sv 1 n (imF ll bb)) (zl (AV.i .i64 (Int.ofNat (ll 0)))) (zl (AV.p 0 0))) (z1 (AV.sv 1 (ll 0) fun k x => CV.i .u8 (Int.ofNat (bb 0 k)))
  (zl (AV.sv 1 n (imF ll bb))) T.e)) (z0 (z1 (AV.i .i64 (1 : Int)) (zl (AV.p 0 0)) T.e) (z1 (AV.sv 1 n (imF ll bb)) (zl (AV.sv 1 (ll 0) fun k x => CV.i .u8 (Int.ofNat (bb 0 k))))
  T.e)))) (z0 (z1 (AV.p 0 0) (z0 (z1 (AV.i .i64 (0 : Int)) (zl (AV.sv 1 (ll 0) fun k x => CV.i .u8 (Int.ofNat (bb 0 k)))) (zl (AV.p 0 0))) (z1 (AV.pv 1 (imF ll bb 0)) (zl AV.l0)
  T.e)) (z0 (z1 (AV.i .i64 (0 : Int)) (zl (AV.p 0 0)) T.e) (z1 (AV.b !decide (Int.ofNat (ll 0) = (64 : Int))) (zl (AV.sv 1 (ll 0) fun k x => CV.i .u8 (Int.ofNat (bb 0 k)))) T.e)))
  (z0 (z0 (z1 (AV.i .i64 (Int.ofNat n)) (zl (AV.b !decide (Int.ofNat (ll 0) = (0 : Int)))) T.e) (z1 (AV.i .i64 (Int.ofNat (ll 0))) (zl (AV.i .i64 (0 : Int))) T.e)) (z0 (z1 (AV.sv 1
  n (imF ll bb)) (zl (AV.p 0 0)) T.e) (z1 (AV.i .i64 (0 : Int)) (zl (AV.l 1 0 1 1 1 true)) T.e))))) { tree := z1 (AObj.cells 51 5 [] (z1 (AV.l 2 0 1 1 1 false) (z1 AV.l0 (zl (AV.i .i64 (-1 : Int))) T.e) (z1 (AV.i .i64 (0 : Int)) (zl (AV.b false)) T.e))) (zl (AObj.cells 55 1 [] (zl (AV.sv 1 (ll 0) fun k x => CV.i .u8 (Int.ofNat (bb 0 k)))))) (zl (AObj.cells 55 1 [] (zl (AV.sv 1 (ll 0) fun k x => CV.i .u8 (Int.ofNat (bb 0 k)))))), next := 3, log := [0, 2, 1] })
  Orc.z)) ∧ ((!decide (Int.ofNat (ll 0) = (64 : Int))) = false → (!decide (Int.ofNat (ll 0) = (64 : Int))) = false ∧ (!decide (Int.ofNat (ll 0) = (64 : Int))) = false ∧ (!decide
  (Int.ofNat (ll 0) = (64 : Int))) = false ∧ (!decide (Int.ofNat (ll 0) = (64 : Int))) = false ∧ (!decide (Int.ofNat (ll 0) = (64 : Int))) = false ∧ (!decide (Int.ofNat (ll 0) = (64
  : Int))) = false ∧ True ∧ ((0 : Int) ≤ (0 : Int) ∧ (0 : Int) < ↑n) ∧ True ∧ Con Tryd.prog 34 [AV.sv 1 (ll 0) fun k x => CV.i .u8 (Int.ofNat (bb 0 k))] [] (AV.sv 1 (ll 0) fun k x =>
  CV.i .u8 (Int.ofNat (bb 0 k))) [] ∧ True ∧ ((-9223372036854775808 : Int) ≤ (1 : Int) ∧ (1 : Int) ≤ (9223372036854775807 : Int)) ∧ K (Res.st XO.nrm (z1 (AV.sv 1 n (imF ll bb)) (z0
  (z0 (z0 (z0 (zl (AV.tup [])) (zl (AV.l 2 0 1 1 1 false))) (z1 (AV.i .i64 (0 : Int)) (zl (AV.p 0 0)) T.e)) (z0 (z1 (AV.b (decide ((0 : Int) < Int.ofNat n))) (zl (AV.b false)) T.e)
  (z1 (AV.b !decide (Int.ofNat (ll 0) = (64 : Int))) (zl (AV.pv 1 (imF ll bb 0))) T.e))) (z1 (AV.i .i64 (1 : Int)) (z0 (z1 (AV.sv 1 n (imF ll bb)) (zl (AV.tup [])) (zl (AV.p 0 0)))
  (z1 (AV.sv 1 (ll 0) fun k x => CV.i .u8 (Int.ofNat (bb 0 k))) (zl (AV.sv 1 n (imF ll bb))) T.e)) (z0 (z1 (AV.i .i64 (1 : Int)) (zl (AV.p 0 0)) T.e) (z1 (AV.tup []) (zl (AV.sv 1
  (ll 0) fun k x => CV.i .u8 (Int.ofNat (bb 0 k)))) T.e)))) (z0 (z1 (AV.p 0 0) (z0 (z1 (AV.i .i64 (0 : Int)) (zl (AV.tup [])) (zl (AV.p 0 0))) (z1 (AV.pv 1 (imF ll bb 0)) (zl AV.l0)
  T.e)) (z0 (z1 (AV.i .i64 (0 : Int)) (zl (AV.p 0 0)) T.e) (z1 (AV.b !decide (Int.ofNat (ll 0) = (64 : Int))) (zl (AV.sv 1 (ll 0) fun k x => CV.i .u8 (Int.ofNat (bb 0 k)))) T.e)))
  (z0 (z0 (z1 (AV.i .i64 (Int.ofNat n)) (zl (AV.tup [])) T.e) (z1 (AV.i .i64 (Int.ofNat (ll 0))) (zl (AV.i .i64 (0 : Int))) T.e)) (z0 (z1 (AV.sv 1 n (imF ll bb)) (zl (AV.p 0 0))
  T.e) (z1 (AV.tup []) (zl (AV.l 1 0 1 1 1 true)) T.e))))) { tree := z1 (AObj.cells 51 5 [] (z1 (AV.l 2 0 1 1 1 false) (z1 AV.l0 (zl (AV.i .i64 (-1 : Int))) T.e) (z1 (AV.i .i64 (0 : Int)) (zl (AV.b false)) T.e))) (zl (AObj.cells 55 1 [] (zl (AV.sv 1 (ll 0) fun k x => CV.i .u8 (Int.ofNat (bb 0 k)))))) (zl (AObj.cells 55 1 [] (zl (AV.sv 1 (ll 0) fun k x => CV.i .u8 (Int.ofNat (bb 0 k)))))), next := 3, log := [0, 2, 1] })
  Orc.z)) ∧ (decide ((0 : Int) < Int.ofNat n) = false → K (Res.st (XO.exit 0) (z1 (AV.sv 1 n (imF ll bb)) (z0 (z0 T.e (z0 (zl (AV.b (decide ((0 : Int) < Int.ofNat n)))) T.e)) (z1
  (AV.i .i64 (0 : Int)) (z0 (zl (AV.sv 1 n (imF ll bb))) T.e) T.e)) (z0 (z1 (AV.p 0 0) (z0 (zl (AV.i .i64 (0 : Int))) T.e) T.e) (z0 (z0 (zl (AV.i .i64 (Int.ofNat n))) T.e) T.e))) { tree := zl (AObj.cells 51 5 [] (z1 AV.l0 (z1 AV.l0 (zl (AV.i .i64 (-1 : Int))) T.e) (z1 (AV.i .i64 (0 : Int)) (zl (AV.b false)) T.e))), next := 1, log := [] })
  Orc.z)) := by kernel_rfl
theorem rfromR_vc (n k : Nat) (ll : Nat → Nat) (bb : Nat → Nat → Nat) (ff : Nat → Nat → CV) (K : Res → Orc → Prop) : runK Tryd.prog 1000000 (.code (loopAt Tryd.prog 25 0) 51 (mkT
  [(0, .sv 1 n (imF ll bb)), (4, .p 0 0), (5, .i .i64 (Int.ofNat k))]) (mkH [some (.cells 51 5 [] (setAll .e 0 [.lr 1 1 0 k false, .l0, .i .i64 0, .i .i64 (-1), .b false])), some
  (.rows 55 1 k ff)])) (Orc.s (Orc.s (Orc.t (Orc.t (Orc.t (Orc.t (Orc.t (Orc.t (Orc.s Orc.z (Orc.cal [] (AV.sv 1 (ll k) fun k_1 x => CV.i .u8 (Int.ofNat (bb k k_1))) []
  Orc.z)))))))) (Orc.f (Orc.f (Orc.f (Orc.f (Orc.f (Orc.f (Orc.c (Orc.cal [] (AV.sv 1 (ll k) fun k_1 x => CV.i .u8 (Int.ofNat (bb k k_1))) [] Orc.z))))))))) Orc.z) K = ((decide
  (Int.ofNat k < Int.ofNat n) = true → ((0 : Int) ≤ Int.ofNat k ∧ Int.ofNat k < ↑n) ∧ True ∧ ((!decide (Int.ofNat (ll k) = (64 : Int))) = true → (!decide (Int.ofNat (ll k) = (64 :
  Int))) = true ∧ (!decide (Int.ofNat (ll k) = (64 : Int))) = true ∧ ((0 : Int) ≤ Int.ofNat k ∧ Int.ofNat k < ↑n) ∧ (!decide (Int.ofNat (ll k) = (64 : Int))) = true ∧ True ∧
  (!decide (Int.ofNat (ll k) = (64 : Int))) = true ∧ (!decide (Int.ofNat (ll k) = (64 : Int))) = true ∧ (!decide (Int.ofNat (ll k) = (64 : Int))) = true ∧ ((!decide (Int.ofNat (ll
  k) = (0 : Int))) = true → K (Res.st XO.ret (z1 (AV.sv 1 n (imF ll bb)) (z0 (z1 (AV.i .i64 (2 : Int)) (z0 (z0 (zl (AV.pv 1 (imF ll bb k))) T.e) (zl (AV.i .i64 (Int.ofNat k)))) (z0
  (z1 (AV.b (decide (Int.ofNat k < Int.ofNat n))) (zl (AV.b !decide (Int.ofNat (ll k) = (0 : Int)))) T.e) (zl (AV.b !decide (Int.ofNat (ll k) = (64 : Int)))))) (z1 (AV.i .i64
  (Int.ofNat k)) (z0 (z1 (AV.sv 1 n (imF ll bb)) (zl (AV.i .i64 (Int.ofNat (ll k)))) T.e) (zl (AV.sv 1 (ll k) fun k_1 x => CV.i .u8 (Int.ofNat (bb k k_1))))) (z0 T.e (zl (AV.sv 1 n
  (imF ll bb)))))) (z1 AV.p0 (z1 (AV.p 0 0) (z0 (z1 (AV.i .i64 (Int.ofNat k)) (zl (AV.sv 1 (ll k) fun k_1 x => CV.i .u8 (Int.ofNat (bb k k_1)))) T.e) (zl (AV.pv 1 (imF ll bb k))))
  (z0 T.e (zl (AV.b !decide (Int.ofNat (ll k) = (64 : Int)))))) (z0 (z0 (z1 (AV.i .i64 (Int.ofNat n)) (zl (AV.b !decide (Int.ofNat (ll k) = (0 : Int)))) T.e) (zl (AV.i .i64
  (Int.ofNat (ll k))))) (z0 (zl (AV.sv 1 n (imF ll bb))) (zl (AV.i .i64 (Int.ofNat k))))))) { tree := z1 (AObj.cells 51 5 [] (z1 (AV.lr 1 1 0 k false) (z1 AV.l0 (zl (AV.i .i64 (-1 : Int))) T.e) (z1 (AV.i .i64 (0 : Int)) (zl (AV.b false)) T.e))) (zl (AObj.rows 55 1 k ff)) T.e, next := 2, log := [] })
  Orc.z) ∧ ((!decide (Int.ofNat (ll k) = (0 : Int))) = false → True ∧ ((0 : Int) ≤ Int.ofNat k ∧ Int.ofNat k < ↑n) ∧ True ∧ Con Tryd.prog 34 [AV.sv 1 (ll k) fun k_1 x => CV.i .u8
  (Int.ofNat (bb k k_1))] [] (AV.sv 1 (ll k) fun k_1 x => CV.i .u8 (Int.ofNat (bb k k_1))) [] ∧ (0 + k ≤ k ∧ True ∧ k + 1 ≤ 140737488355328 ∧ (3 * (k + 1) + 1536) * 24 ≤
  562949953421312) ∧ True ∧ ((-9223372036854775808 : Int) ≤ Int.ofNat k + (1 : Int) ∧ Int.ofNat k + (1 : Int) ≤ (9223372036854775807 : Int)) ∧ K (Res.st XO.nrm (z1 (AV.sv 1 n (imF
  ll bb)) (z0 (z0 (z0 (z0 (zl (AV.pv 1 (imF ll bb k))) (zl (AV.lr 3 1 0 (addN k 1) false))) (z1 (AV.i .i64 (Int.ofNat k)) (zl (AV.p 0 0)) T.e)) (z0 (z1 (AV.b (decide (Int.ofNat k <
  Int.ofNat n))) (zl (AV.b !decide (Int.ofNat (ll k) = (0 : Int)))) T.e) (z1 (AV.b !decide (Int.ofNat (ll k) = (64 : Int))) (zl (AV.pv 1 (imF ll bb k))) T.e))) (z1 (AV.i .i64
  (Int.ofNat k + (1 : Int))) (z0 (z1 (AV.sv 1 n (imF ll bb)) (zl (AV.i .i64 (Int.ofNat (ll k)))) (zl (AV.p 0 0))) (z1 (AV.sv 1 (ll k) fun k_1 x => CV.i .u8 (Int.ofNat (bb k k_1)))
  (zl (AV.sv 1 n (imF ll bb))) T.e)) (z0 (z1 (AV.i .i64 (Int.ofNat k + (1 : Int))) (zl (AV.p 0 0)) T.e) (z1 (AV.sv 1 n (imF ll bb)) (zl (AV.sv 1 (ll k) fun k_1 x => CV.i .u8
  (Int.ofNat (bb k k_1)))) T.e)))) (z0 (z1 (AV.p 0 0) (z0 (z1 (AV.i .i64 (Int.ofNat k)) (zl (AV.sv 1 (ll k) fun k_1 x => CV.i .u8 (Int.ofNat (bb k k_1)))) (zl (AV.p 0 0))) (z1
  (AV.pv 1 (imF ll bb k)) (zl (AV.lr 1 1 0 k false)) T.e)) (z0 (z1 (AV.i .i64 (Int.ofNat k)) (zl (AV.p 0 0)) T.e) (z1 (AV.b !decide (Int.ofNat (ll k) = (64 : Int))) (zl (AV.sv 1 (ll
  k) fun k_1 x => CV.i .u8 (Int.ofNat (bb k k_1)))) T.e))) (z0 (z0 (z1 (AV.i .i64 (Int.ofNat n)) (zl (AV.b !decide (Int.ofNat (ll k) = (0 : Int)))) T.e) (z1 (AV.i .i64 (Int.ofNat
  (ll k))) (zl (AV.i .i64 (Int.ofNat k))) T.e)) (z0 (z1 (AV.sv 1 n (imF ll bb)) (zl (AV.p 0 0)) T.e) (z1 (AV.i .i64 (Int.ofNat k)) (zl (AV.l 2 0 1 1 1 true)) T.e))))) { tree := z1 (AObj.cells 51 5 [] (z1 (AV.lr 3 1 0 (addN k 1) false) (z1 AV.l0 (zl (AV.i .i64 (-1 : Int))) T.e) (z1 (AV.i .i64 (0 : Int)) (zl (AV.b false)) T.e))) (z0 (zl (AObj.rows 55 1 (addN k 1) (appZ k ff fun x j => List.getD [CV.sv 1 (ll k) fun k_1 x => CV.i .u8 (Int.ofNat (bb k k_1))] j CV.p0))) T.e) (zl (AObj.cells 55 1 [] (zl (AV.sv 1 (ll k) fun k_1 x => CV.i .u8 (Int.ofNat (bb k k_1)))))), next := 4, log := [0, 3, 1, 2] })
  Orc.z)) ∧ ((!decide (Int.ofNat (ll k) = (64 : Int))) = false → (!decide (Int.ofNat (ll k) = (64 : Int))) = false ∧ (!decide (Int.ofNat (ll k) = (64 : Int))) = false ∧ (!decide
  (Int.ofNat (ll k) = (64 : Int))) = false ∧ (!decide (Int.ofNat (ll k) = (64 : Int))) = false ∧ (!decide (Int.ofNat (ll k) = (64 : Int))) = false ∧ (!decide (Int.ofNat (ll k) = (64
  : Int))) = false ∧ True ∧ ((0 : Int) ≤ Int.ofNat k ∧ Int.ofNat k < ↑n) ∧ True ∧ Con Tryd.prog 34 [AV.sv 1 (ll k) fun k_1 x => CV.i .u8 (Int.ofNat (bb k k_1))] [] (AV.sv 1 (ll k)
  fun k_1 x => CV.i .u8 (Int.ofNat (bb k k_1))) [] ∧ (0 + k ≤ k ∧ True ∧ k + 1 ≤ 140737488355328 ∧ (3 * (k + 1) + 1536) * 24 ≤ 562949953421312) ∧ True ∧ ((-9223372036854775808 :
  Int) ≤ Int.ofNat k + (1 : Int) ∧ Int.ofNat k + (1 : Int) ≤ (9223372036854775807 : Int)) ∧ K (Res.st XO.nrm (z1 (AV.sv 1 n (imF ll bb)) (z0 (z0 (z0 (z0 (zl (AV.tup [])) (zl (AV.lr
  3 1 0 (addN k 1) false))) (z1 (AV.i .i64 (Int.ofNat k)) (zl (AV.p 0 0)) T.e)) (z0 (z1 (AV.b (decide (Int.ofNat k < Int.ofNat n))) (zl (AV.b false)) T.e) (z1 (AV.b !decide
  (Int.ofNat (ll k) = (64 : Int))) (zl (AV.pv 1 (imF ll bb k))) T.e))) (z1 (AV.i .i64 (Int.ofNat k + (1 : Int))) (z0 (z1 (AV.sv 1 n (imF ll bb)) (zl (AV.tup [])) (zl (AV.p 0 0)))
  (z1 (AV.sv 1 (ll k) fun k_1 x => CV.i .u8 (Int.ofNat (bb k k_1))) (zl (AV.sv 1 n (imF ll bb))) T.e)) (z0 (z1 (AV.i .i64 (Int.ofNat k + (1 : Int))) (zl (AV.p 0 0)) T.e) (z1 (AV.tup
  []) (zl (AV.sv 1 (ll k) fun k_1 x => CV.i .u8 (Int.ofNat (bb k k_1)))) T.e)))) (z0 (z1 (AV.p 0 0) (z0 (z1 (AV.i .i64 (Int.ofNat k)) (zl (AV.tup [])) (zl (AV.p 0 0))) (z1 (AV.pv 1
  (imF ll bb k)) (zl (AV.lr 1 1 0 k false)) T.e)) (z0 (z1 (AV.i .i64 (Int.ofNat k)) (zl (AV.p 0 0)) T.e) (z1 (AV.b !decide (Int.ofNat (ll k) = (64 : Int))) (zl (AV.sv 1 (ll k) fun
  k_1 x => CV.i .u8 (Int.ofNat (bb k k_1)))) T.e))) (z0 (z0 (z1 (AV.i .i64 (Int.ofNat n)) (zl (AV.tup [])) T.e) (z1 (AV.i .i64 (Int.ofNat (ll k))) (zl (AV.i .i64 (Int.ofNat k)))
  T.e)) (z0 (z1 (AV.sv 1 n (imF ll bb)) (zl (AV.p 0 0)) T.e) (z1 (AV.tup []) (zl (AV.l 2 0 1 1 1 true)) T.e))))) { tree := z1 (AObj.cells 51 5 [] (z1 (AV.lr 3 1 0 (addN k 1) false) (z1 AV.l0 (zl (AV.i .i64 (-1 : Int))) T.e) (z1 (AV.i .i64 (0 : Int)) (zl (AV.b false)) T.e))) (z0 (zl (AObj.rows 55 1 (addN k 1) (appZ k ff fun x j => List.getD [CV.sv 1 (ll k) fun k_1 x => CV.i .u8 (Int.ofNat (bb k k_1))] j CV.p0))) T.e) (zl (AObj.cells 55 1 [] (zl (AV.sv 1 (ll k) fun k_1 x => CV.i .u8 (Int.ofNat (bb k k_1)))))), next := 4, log := [0, 3, 1, 2] })
  Orc.z)) ∧ (decide (Int.ofNat k < Int.ofNat n) = false → K (Res.st (XO.exit 0) (z1 (AV.sv 1 n (imF ll bb)) (z0 (z0 T.e (z0 (zl (AV.b (decide (Int.ofNat k < Int.ofNat n)))) T.e))
  (z1 (AV.i .i64 (Int.ofNat k)) (z0 (zl (AV.sv 1 n (imF ll bb))) T.e) T.e)) (z0 (z1 (AV.p 0 0) (z0 (zl (AV.i .i64 (Int.ofNat k))) T.e) T.e) (z0 (z0 (zl (AV.i .i64 (Int.ofNat n)))
  T.e) T.e))) { tree := z1 (AObj.cells 51 5 [] (z1 (AV.lr 1 1 0 k false) (z1 AV.l0 (zl (AV.i .i64 (-1 : Int))) T.e) (z1 (AV.i .i64 (0 : Int)) (zl (AV.b false)) T.e))) (zl (AObj.rows 55 1 k ff)) T.e, next := 2, log := [] })
  Orc.z)) := by kernel_rfl
theorem rfromG_vc (n : Nat) (ll : Nat → Nat) (bb : Nat → Nat → Nat) (K : Res → Orc → Prop) : runK Tryd.prog 1000000 (.call 25 [.sv 1 n (imF ll bb)] (mkH [])) (Orc.s (Orc.t (Orc.t
  (Orc.f (Orc.s Orc.z (Orc.lop [0] [0, 4, 5] 0 (XO.exit 0) [(4, AV.p 0 0)] [some (AObj.cells 51 5 [] (setAll T.e 0 [AV.lr 1 1 0 n false, AV.l0, AV.i .i64 (0 : Int), AV.i .i64 (-1 :
  Int), AV.b false])), some (AObj.rows 55 1 n (imF ll bb))] Orc.z))))) (Orc.f (Orc.f (Orc.t (Orc.c Orc.z))))) K = (((!decide (Int.ofNat n < (1 : Int))) = true → (!decide (Int.ofNat
  n < (1 : Int))) = true ∧ (!decide (Int.ofNat n < (1 : Int))) = true ∧ decide (Int.ofNat n < (1 : Int)) = false ∧ (decide ((512 : Int) < Int.ofNat n) = true → K (Res.rv (AV.tup
  [AV.p0, AV.i .i64 (2 : Int)]) { tree := T.e, next := 0, log := [] }) Orc.z) ∧ (decide ((512 : Int) < Int.ofNat n) = false → LDoes Tryd.prog (loopAt Tryd.prog 25 0) 51 0 (mkT [(0,
  AV.sv 1 n (imF ll bb)), (4, AV.p 0 0), (5, AV.i .i64 (0 : Int))]) [some (AObj.cells 51 5 [] (setAll T.e 0 [AV.l0, AV.l0, AV.i .i64 (0 : Int), AV.i .i64 (-1 : Int), AV.b false]))]
  (XO.exit 0) (mkT [(4, AV.p 0 0)]) [some (AObj.cells 51 5 [] (setAll T.e 0 [AV.lr 1 1 0 n false, AV.l0, AV.i .i64 (0 : Int), AV.i .i64 (-1 : Int), AV.b false])), some (AObj.rows 55
  1 n (imF ll bb))] ∧ K (Res.rv (AV.tup [AV.p 1 0, AV.i .i64 (0 : Int)]) { tree := z0 (zl (AObj.cells 51 5 [] (z1 (AV.lr 2 1 0 n false) (z1 AV.l0 (zl (AV.i .i64 (-1 : Int))) T.e) (z1 (AV.i .i64 (0 : Int)) (zl (AV.b false)) T.e)))) (zl (AObj.rows 55 1 n (imF ll bb))), next := 3, log := [2, 1, 0, 0] })
  Orc.z)) ∧ ((!decide (Int.ofNat n < (1 : Int))) = false → (!decide (Int.ofNat n < (1 : Int))) = false ∧ (!decide (Int.ofNat n < (1 : Int))) = false ∧ decide (Int.ofNat n < (1 :
  Int)) = true ∧ K (Res.rv (AV.tup [AV.p0, AV.i .i64 (2 : Int)]) { tree := T.e, next := 0, log := [] }) Orc.z)) := by kernel_rfl
theorem rfromB_vc (n : Nat) (ll : Nat → Nat) (bb : Nat → Nat → Nat) (K : Res → Orc → Prop) : runK Tryd.prog 1000000 (.call 25 [.sv 1 n (imF ll bb)] (mkH [])) (Orc.s (Orc.t (Orc.t
  (Orc.f (Orc.s Orc.z (Orc.lop [0] [0, 4, 5] 0 XO.ret [(2, AV.p0), (3, AV.i .i64 (2 : Int))] [] Orc.z))))) (Orc.f (Orc.f (Orc.t (Orc.c Orc.z))))) K = (((!decide (Int.ofNat n < (1 :
  Int))) = true → (!decide (Int.ofNat n < (1 : Int))) = true ∧ (!decide (Int.ofNat n < (1 : Int))) = true ∧ decide (Int.ofNat n < (1 : Int)) = false ∧ (decide ((512 : Int) <
  Int.ofNat n) = true → K (Res.rv (AV.tup [AV.p0, AV.i .i64 (2 : Int)]) { tree := T.e, next := 0, log := [] }) Orc.z) ∧ (decide ((512 : Int) < Int.ofNat n) = false → LDoes Tryd.prog
  (loopAt Tryd.prog 25 0) 51 0 (mkT [(0, AV.sv 1 n (imF ll bb)), (4, AV.p 0 0), (5, AV.i .i64 (0 : Int))]) [some (AObj.cells 51 5 [] (setAll T.e 0 [AV.l0, AV.l0, AV.i .i64 (0 : Int),
  AV.i .i64 (-1 : Int), AV.b false]))] XO.ret (mkT [(2, AV.p0), (3, AV.i .i64 (2 : Int))]) [] ∧ K (Res.rv (AV.tup [AV.p0, AV.i .i64 (2 : Int)]) { tree := z0 T.e T.e, next := 1, log := [0, 0] })
  Orc.z)) ∧ ((!decide (Int.ofNat n < (1 : Int))) = false → (!decide (Int.ofNat n < (1 : Int))) = false ∧ (!decide (Int.ofNat n < (1 : Int))) = false ∧ decide (Int.ofNat n < (1 :
  Int)) = true ∧ K (Res.rv (AV.tup [AV.p0, AV.i .i64 (2 : Int)]) { tree := T.e, next := 0, log := [] }) Orc.z)) := by kernel_rfl
theorem app_im (ll : Nat → Nat) (bb : Nat → Nat → Nat) (k : Nat) {i j : Nat} (hi : i < k + 1) (hj : j < 1) :
    CW (appZ k (imF ll bb) (fun _ j => List.getD [CV.sv 1 (ll k) fun k_1 _ => CV.i .u8 (Int.ofNat (bb k k_1))] j .p0) i j) (imF ll bb i j) := by
  have : j = 0 := by omega
  subst this
  cases k with
  | zero =>
    have : i = 0 := by omega
    subst this
    exact .of (Eq.refl _)
  | succ k =>
    show CW (zipCV (Nat.blt i (k + 1)) (imF ll bb i 0) (CV.sv 1 (ll (k + 1)) fun k_1 _ => CV.i .u8 (Int.ofNat (bb (k + 1) k_1)))) (imF ll bb i 0)
    by_cases h : i < k + 1
    · rw [show Nat.blt i (k + 1) = true by rw [Nat.blt_eq]; exact h]
      exact .of (Eq.refl _)
    · have : i = k + 1 := by omega
      subst this
      rw [show Nat.blt (k + 1) (k + 1) = false by rw [Bool.eq_false_iff, ne_eq, Nat.blt_eq]; omega]
      exact .of (Eq.refl _)
noncomputable def rsO (v : AV) : AObj := .cells 51 5 [] (setAll .e 0 [v, .l0, .i .i64 0, .i .i64 (-1), .b false])
noncomputable def rfI (n : Nat) (ll : Nat → Nat) (bb : Nat → Nat → Nat) : Nat → List (Nat × AV) × List (Option AObj)
  | 0 => ([(0, .sv 1 n (imF ll bb)), (4, .p 0 0), (5, .i .i64 0)], [some (rsO .l0)])
  | k + 1 => ([(0, .sv 1 n (imF ll bb)), (4, .p 0 0), (5, .i .i64 (Int.ofNat (k + 1)))], [some (rsO (.lr 1 1 0 (k + 1) false)), some (.rows 55 1 (k + 1) (imF ll bb))])
theorem rs_ov (ll : Nat → Nat) (bb : Nat → Nat → Nat) : OVL [some (rsO (.l 1 0 1 1 1 false)), some (cellsO 55 [.sv 1 (ll 0) fun k _ => .i .u8 (Int.ofNat (bb 0 k))])] [some (rsO (.lr 1 1 0 1 false)), some (.rows 55 1 1 (imF ll bb))] := by
  refine ⟨.cellsD (dflt := []) (l := [.l 1 0 1 1 1 false, .l0, .i .i64 0, .i .i64 (-1), .b false]) (l' := [.lr 1 1 0 1 false, .l0, .i .i64 0, .i .i64 (-1), .b false]) ⟨⟨fun _ => rfl, fun ρ x h => h.l_lr⟩, .refl _, .refl _, .refl _, .refl _, trivial⟩, .x (OX.cellsRows (f := fun i => imF ll bb i 0) rfl fun i hi => ?_), trivial⟩
  have : i = 0 := by omega
  subst this
  refine ⟨_, rfl, fun ρ x h => ?_⟩
  cases h with | sv _ _ _ _ hc => exact hc
theorem rf_round (n : Nat) (ll : Nat → Nat) (bb : Nat → Nat → Nat) (hn : n ≤ 512) (k : Nat) (hk : k < n) (ok : ll k = 64 ∨ ll k = 0) (K : Res → Orc → Prop)
    (hK : ∀ σ tm1 H1 l1 objs1, StIs 0 σ [] tm1 H1 l1 objs1 → TVL l1 (rfI n ll bb (k + 1)).1 → OVL objs1 (rfI n ll bb (k + 1)).2 → ∀ o, K (.st .nrm tm1 H1) o) :
    ∃ o, runK Tryd.prog 1000000 (.code (loopAt Tryd.prog 25 0) 51 (mkT (rfI n ll bb k).1) (mkH (rfI n ll bb k).2)) o K := by
  have con := ncopied_con (ll k) (bb k) (by omega)
  have no : ∀ h : (!decide (Int.ofNat (ll k) = (64 : Int))) = true, (!decide (Int.ofNat (ll k) = (0 : Int))) = true → False := fun h h0 => by
    rcases ok with e | e <;> rw [e] at h h0
    · cases h
    · cases h0
  cases k with
  | zero =>
    have fin := fun tm1 H1 (st : StIs 0 [0, 2] [] tm1 H1 [(0, .sv 1 n (imF ll bb)), (4, .p 0 0), (5, .i .i64 1)] [some (rsO (.l 1 0 1 1 1 false)), some (cellsO 55 [.sv 1 (ll 0) fun k _ => .i .u8 (Int.ofNat (bb 0 k))])]) =>
      hK [0, 2] tm1 H1 _ _ st (.refl _) (rs_ov ll bb)
    refine ⟨_, (rfrom0_vc n ll bb K).mpr ⟨fun _ => ⟨⟨by decide, by simp; omega⟩, trivial, fun h => ⟨h, h, ⟨by decide, by simp; omega⟩, h, trivial, h, h, h, fun h0 => (no h h0).elim, fun h0 => ⟨trivial, ⟨by decide, by simp; omega⟩, trivial, con, trivial, by decide, ?_⟩⟩, fun h => ⟨h, h, h, h, h, h, trivial, ⟨by decide, by simp; omega⟩, trivial, con, trivial, by decide, ?_⟩⟩, fun h => absurd (of_decide_eq_false h) (by simp; omega)⟩⟩
    · exact fin _ _ (st_is [0, 2] (by kernel_rfl) rfl rfl rfl ⟨by kernel_rfl, by kernel_rfl, by kernel_rfl, by kernel_rfl, trivial⟩ rfl) _
    · exact fin _ _ (st_is [0, 2] (by kernel_rfl) rfl rfl rfl ⟨by kernel_rfl, by kernel_rfl, by kernel_rfl, by kernel_rfl, trivial⟩ rfl) _
  | succ k =>
    have fin := fun tm1 H1 (st : StIs 0 [0, 3] [] tm1 H1 [(0, .sv 1 n (imF ll bb)), (4, .p 0 0), (5, .i .i64 (Int.ofNat (k + 1 + 1)))] [some (rsO (.lr 1 1 0 (k + 1 + 1) false)), some (.rows 55 1 (k + 1 + 1) (appZ (k + 1) (imF ll bb) (fun _ j => List.getD [CV.sv 1 (ll (k + 1)) fun k_1 _ => CV.i .u8 (Int.ofNat (bb (k + 1) k_1))] j .p0)))]) =>
      hK [0, 3] tm1 H1 _ _ st (.refl _) ⟨.refl _, .rowsW fun i j hi hj => app_im ll bb (k + 1) hi hj, trivial⟩
    have sz : 0 + (k + 1) ≤ k + 1 ∧ True ∧ k + 1 + 1 ≤ 140737488355328 ∧ (3 * (k + 1 + 1) + 1536) * 24 ≤ 562949953421312 := ⟨by omega, trivial, by omega, by omega⟩
    have r1 : (0 : Int) ≤ Int.ofNat (k + 1) ∧ Int.ofNat (k + 1) < (n : Int) := ⟨by simp <;> omega, by simp <;> omega⟩
    have r2 : (-9223372036854775808 : Int) ≤ Int.ofNat (k + 1) + (1 : Int) ∧ Int.ofNat (k + 1) + (1 : Int) ≤ (9223372036854775807 : Int) := ⟨by simp <;> omega, by simp <;> omega⟩
    refine ⟨_, (rfromR_vc n (k + 1) ll bb (imF ll bb) K).mpr ⟨fun _ => ⟨r1, trivial, fun h => ⟨h, h, r1, h, trivial, h, h, h, fun h0 => (no h h0).elim, fun h0 => ⟨trivial, r1, trivial, con, sz, trivial, r2, ?_⟩⟩, fun h => ⟨h, h, h, h, h, h, trivial, r1, trivial, con, sz, trivial, r2, ?_⟩⟩, fun h => absurd (of_decide_eq_false h) (by simp; omega)⟩⟩
    · exact fin _ _ (st_is [0, 3] (by kernel_rfl) rfl rfl rfl ⟨by kernel_rfl, by kernel_rfl, by kernel_rfl, by kernel_rfl, trivial⟩ rfl) _
    · exact fin _ _ (st_is [0, 3] (by kernel_rfl) rfl rfl rfl ⟨by kernel_rfl, by kernel_rfl, by kernel_rfl, by kernel_rfl, trivial⟩ rfl) _
theorem rfromG_lp (n : Nat) (ll : Nat → Nat) (bb : Nat → Nat → Nat) (h1 : 1 ≤ n) (hn : n ≤ 512) (ok : ∀ i, i < n → ll i = 64 ∨ ll i = 0) :
    LDoes Tryd.prog (loopAt Tryd.prog 25 0) 51 0 (mkT (rfI n ll bb 0).1) (rfI n ll bb 0).2 (.exit 0) (mkT [(4, .p 0 0)]) [some (rsO (.lr 1 1 0 n false)), some (.rows 55 1 n (imF ll bb))] := by
  refine loop_indV (D := Nat) (l' := [(4, .p 0 0)]) (rfI n ll bb) (fun k => n - k) (fun k => k ≤ n) ?_ 0 (Nat.zero_le n)
  intro k hk
  refine ⟨Nat.zero_le _, 1000000, ?_⟩
  by_cases hlt : k < n
  · exact rf_round n ll bb hn k hlt (ok k hlt) _ fun σ tm1 H1 l1 objs1 st tv ov o => .inl ⟨k + 1, σ, [], _, _, l1, objs1, hlt, by show n - (k + 1) < n - k; omega, rfl, st, tv, ov⟩
  · have : k = n := by omega
    subst this
    cases k with
    | zero => omega
    | succ k =>
      exact ⟨_, (rfromR_vc (k + 1) (k + 1) ll bb (imF ll bb) _).mpr ⟨fun h => absurd (of_decide_eq_true h) (by simp), fun _ => .inr ⟨[0, 1], [], _, _, [(4, .p 0 0)], [some (rsO (.lr 1 1 0 (k + 1) false)), some (.rows 55 1 (k + 1) (imF ll bb))], rfl, by simp, st_is [0, 1] (by kernel_rfl) rfl rfl rfl ⟨by kernel_rfl, by kernel_rfl, by kernel_rfl, by kernel_rfl, trivial⟩ rfl, .refl _, .refl _⟩⟩⟩
theorem rfromB_lp (n : Nat) (ll : Nat → Nat) (bb : Nat → Nat → Nat) (hn : n ≤ 512) (q : Nat) (hq : q < n) (ok : ∀ i, i < q → ll i = 64 ∨ ll i = 0) (bad : ll q ≠ 64 ∧ ll q ≠ 0) :
    LDoes Tryd.prog (loopAt Tryd.prog 25 0) 51 0 (mkT (rfI n ll bb 0).1) (rfI n ll bb 0).2 .ret (mkT [(2, .p0), (3, .i .i64 2)]) [] := by
  refine loop_indV (D := Nat) (l' := [(2, .p0), (3, .i .i64 2)]) (rfI n ll bb) (fun k => n - k) (fun k => k ≤ q) ?_ 0 (Nat.zero_le q)
  intro k hk
  refine ⟨Nat.zero_le _, 1000000, ?_⟩
  by_cases hlt : k < q
  · exact rf_round n ll bb hn k (by omega) (ok k hlt) _ fun σ tm1 H1 l1 objs1 st tv ov o => .inl ⟨k + 1, σ, [], _, _, l1, objs1, hlt, by show n - (k + 1) < n - k; omega, rfl, st, tv, ov⟩
  · have : k = q := by omega
    subst this
    have d64 : decide (Int.ofNat (ll k) = (64 : Int)) = false := by simp; omega
    have d0 : decide (Int.ofNat (ll k) = (0 : Int)) = false := by simp; omega
    have n64 : (!decide (Int.ofNat (ll k) = (64 : Int))) = false → False := fun h => by rw [d64] at h; cases h
    have n0 : (!decide (Int.ofNat (ll k) = (0 : Int))) = false → False := fun h => by rw [d0] at h; cases h
    cases k with
    | zero =>
      exact ⟨_, (rfrom0_vc n ll bb _).mpr ⟨fun _ => ⟨⟨by decide, by simp; omega⟩, trivial, fun h => ⟨h, h, ⟨by decide, by simp; omega⟩, h, trivial, h, h, h, fun h0 => .inr ⟨[], [], _, _, [(2, .p0), (3, .i .i64 2)], [], rfl, by simp, st_is [] (by kernel_rfl) rfl rfl rfl trivial rfl, .refl _, .refl _⟩, fun h0 => (n0 h0).elim⟩, fun h => (n64 h).elim⟩, fun h => absurd (of_decide_eq_false h) (by simp; omega)⟩⟩
    | succ k =>
      have r1 : (0 : Int) ≤ Int.ofNat (k + 1) ∧ Int.ofNat (k + 1) < (n : Int) := ⟨by simp <;> omega, by simp <;> omega⟩
      exact ⟨_, (rfromR_vc n (k + 1) ll bb (imF ll bb) _).mpr ⟨fun _ => ⟨r1, trivial, fun h => ⟨h, h, r1, h, trivial, h, h, h, fun h0 => .inr ⟨[], [], _, _, [(2, .p0), (3, .i .i64 2)], [], rfl, by simp, st_is [] (by kernel_rfl) rfl rfl rfl trivial rfl, .refl _, .refl _⟩, fun h0 => (n0 h0).elim⟩, fun h => (n64 h).elim⟩, fun h => absurd (of_decide_eq_false h) (by simp; omega)⟩⟩
theorem rfrom_con (n : Nat) (ll : Nat → Nat) (bb : Nat → Nat → Nat) (h1 : 1 ≤ n) (hn : n ≤ 512) (ok : ∀ i, i < n → ll i = 64 ∨ ll i = 0) :
    Con Tryd.prog 25 [.sv 1 n (imF ll bb)] [] (.tup [.p 0 0, .i .i64 0]) [.set (rsO (.lr 1 1 0 n false)), .set (.rows 55 1 n (imF ll bb))] :=
  con_of_run [] [1, 2] ((rfromG_vc n ll bb _).mpr ⟨fun h => ⟨h, h, by simp; omega, fun h2 => absurd (of_decide_eq_true h2) (by simp; omega), fun _ => ⟨rfromG_lp n ll bb h1 hn ok, _, _, rfl, ret_is (by kernel_rfl) rfl (by kernel_rfl) (by kernel_rfl) rfl ⟨by kernel_rfl, by kernel_rfl, by kernel_rfl, by kernel_rfl, trivial⟩⟩⟩, fun h => absurd h (by simp; omega)⟩)
theorem rfromBad_con (n : Nat) (ll : Nat → Nat) (bb : Nat → Nat → Nat) (bad : n < 1 ∨ 512 < n ∨ ∃ q, q < n ∧ (∀ i, i < q → ll i = 64 ∨ ll i = 0) ∧ ll q ≠ 64 ∧ ll q ≠ 0) : Con Tryd.prog 25 [.sv 1 n (imF ll bb)] [] (.tup [.p0, .i .i64 2]) [] :=
  con_plain rfl ((rfromB_vc n ll bb _).mpr ⟨fun h => ⟨h, h, by simpa using h, fun _ => ⟨_, _, rfl, rfl⟩, fun h2 => ⟨by
    have h0 : ¬ n < 1 := by have := h; simp at this; omega
    have h2 : ¬ 512 < n := by have := of_decide_eq_false h2; simp at this; omega
    rcases bad with b | b | ⟨q, q1, q2, q3⟩
    · exact absurd b h0
    · exact absurd b h2
    · exact rfromB_lp n ll bb (by omega) q q1 q2 q3, _, _, rfl, rfl⟩⟩, fun h => ⟨h, h, by simpa using h, _, _, rfl, rfl⟩⟩)
theorem sfromR_vc (n k : Nat) (ll : Nat → Nat) (bb : Nat → Nat → Nat) (s : SS) (K : Res → Orc → Prop) : runK Tryd.prog 1000000 (.code (loopAt Tryd.prog 24 0) 47 (mkT [(4, .p 0 0),
  (17, .sv 1 n (imF ll bb)), (18, .i .i64 (Int.ofNat n)), (19, .i .i64 (Int.ofNat k))]) (mkH [some s.o])) (Orc.s (Orc.s (Orc.s Orc.z Orc.z) (Orc.s Orc.z (Orc.s Orc.z Orc.z))) Orc.z)
  K = ((decide (Int.ofNat k < Int.ofNat n) = true → ((0 : Int) ≤ Int.ofNat k ∧ Int.ofNat k < ↑n) ∧ True ∧ (decide (Int.ofNat (ll k) = (0 : Int)) = true → True ∧ ((0 : Int) ≤
  Int.ofNat k ∧ Int.ofNat k < (512 : Int)) ∧ True ∧ k < 512 ∧ ((-9223372036854775808 : Int) ≤ Int.ofNat k + (1 : Int) ∧ Int.ofNat k + (1 : Int) ≤ (9223372036854775807 : Int)) ∧ K
  (Res.st XO.nrm (z0 (z0 (z0 (z1 (AV.sv 1 (ll k) fun k_1 x => CV.i .u8 (Int.ofNat (bb k k_1))) (z0 (zl (AV.ps 0 1 65 512 k)) T.e) (zl (AV.sv 1 (ll k) fun k_1 x => CV.i .u8
  (Int.ofNat (bb k k_1))))) (z0 (zl (AV.i .i64 (Int.ofNat k + (1 : Int)))) (zl (AV.p 0 0)))) (z0 (z0 (zl (AV.sv 1 n (imF ll bb))) (zl (AV.i .i64 (Int.ofNat (ll k))))) (z0 (zl (AV.i
  .i64 (Int.ofNat k))) (z1 (AV.p 0 0) (zl (AV.i .i64 (Int.ofNat k + (1 : Int)))) T.e)))) (z0 (z1 (AV.p 0 0) (z0 (z0 (zl (AV.ps 0 65 65 512 k)) T.e) (zl (AV.sv 1 (ll k) fun k_1 x =>
  CV.i .u8 (Int.ofNat (bb k k_1))))) (z0 (zl (AV.b (decide (Int.ofNat k < Int.ofNat n)))) (zl (AV.i .i64 (Int.ofNat k))))) (z1 (AV.i .i64 (Int.ofNat k)) (z0 (zl (AV.i .i64
  (Int.ofNat n))) (zl (AV.b (decide (Int.ofNat (ll k) = (0 : Int)))))) (z0 (zl (AV.pv 1 (imF ll bb k))) (zl (AV.p 0 1)))))) { tree := zl (AObj.segs 69 33799 [{ st := 0, sz := 1, n := 1, f := oneF (CV.i .i64 (Int.ofNat (SS.n s))) }, { st := 1, sz := 65, n := 512, f := setRow (fun i j => match Nat.blt j 64 with | true => CV.i .u8 (SS.dur s i j) | false => CV.b (SS.torn s i)) k 64 [CV.b true] }, { st := 33281, sz := 1, n := 1, f := oneF (CV.opv (pB (SS.P s)) 66 (pW (SS.P s))) }, { st := 33282, sz := 1, n := 512, f := latF (lB (SS.P s)) (lW (SS.P s)) }, { st := 33794, sz := 5, n := 1, f := tailF (Int.ofNat (List.length (SS.P s))) (Int.ofNat (SS.wr s)) (SS.off s) (SS.armed s) (Int.ofNat (SS.left s)) }]), next := 1, log := [0] })
  Orc.z) ∧ (decide (Int.ofNat (ll k) = (0 : Int)) = false → ((!decide (Int.ofNat (ll k) = (64 : Int))) = true → K (Res.st XO.ret (z0 (z0 (z1 (AV.i .i64 (2 : Int)) (z1 (AV.sv 1 (ll
  k) fun k_1 x => CV.i .u8 (Int.ofNat (bb k k_1))) T.e (zl (AV.sv 1 (ll k) fun k_1 x => CV.i .u8 (Int.ofNat (bb k k_1))))) (z0 (z1 (AV.i .i64 (Int.ofNat k)) (zl (AV.b !decide
  (Int.ofNat (ll k) = (64 : Int)))) T.e) T.e)) (z0 (z0 (z1 (AV.sv 1 n (imF ll bb)) (zl (AV.sv 1 (ll k) fun k_1 x => CV.i .u8 (Int.ofNat (bb k k_1)))) T.e) (zl (AV.i .i64 (Int.ofNat
  (ll k))))) (z0 (zl (AV.i .i64 (Int.ofNat k))) T.e))) (z1 AV.p0 (z1 (AV.p 0 0) (z0 T.e (zl (AV.sv 1 (ll k) fun k_1 x => CV.i .u8 (Int.ofNat (bb k k_1))))) (z0 (zl (AV.b (decide
  (Int.ofNat k < Int.ofNat n)))) T.e)) (z1 (AV.i .i64 (Int.ofNat k)) (z0 (z1 (AV.i .i64 (Int.ofNat n)) (zl (AV.i .i64 (Int.ofNat (ll k)))) T.e) (zl (AV.b (decide (Int.ofNat (ll k) =
  (0 : Int)))))) (z0 (zl (AV.pv 1 (imF ll bb k))) T.e)))) { tree := zl (AObj.segs 69 33799 [{ st := 0, sz := 1, n := 1, f := oneF (CV.i .i64 (Int.ofNat (SS.n s))) }, { st := 1, sz := 65, n := 512, f := durF (SS.dur s) (SS.torn s) }, { st := 33281, sz := 1, n := 1, f := oneF (CV.opv (pB (SS.P s)) 66 (pW (SS.P s))) }, { st := 33282, sz := 1, n := 512, f := latF (lB (SS.P s)) (lW (SS.P s)) }, { st := 33794, sz := 5, n := 1, f := tailF (Int.ofNat (List.length (SS.P s))) (Int.ofNat (SS.wr s)) (SS.off s) (SS.armed s) (Int.ofNat (SS.left s)) }]), next := 1, log := [] })
  Orc.z) ∧ ((!decide (Int.ofNat (ll k) = (64 : Int))) = false → (64 ≤ ll k ∧ 0 < ll k) ∧ True ∧ True ∧ ((0 : Int) ≤ Int.ofNat k ∧ Int.ofNat k < (512 : Int)) ∧ True ∧ k < 512 ∧
  ((-9223372036854775808 : Int) ≤ Int.ofNat k + (1 : Int) ∧ Int.ofNat k + (1 : Int) ≤ (9223372036854775807 : Int)) ∧ K (Res.st XO.nrm (z0 (z0 (z0 (z1 (AV.sv 1 (ll k) fun k_1 x =>
  CV.i .u8 (Int.ofNat (bb k k_1))) T.e (z1 (AV.sv 1 (ll k) fun k_1 x => CV.i .u8 (Int.ofNat (bb k k_1))) (zl (AV.pv 64 fun j => CV.i .u8 (Int.ofNat (bb k j)))) T.e)) (z0 (z1 (AV.i
  .i64 (Int.ofNat k + (1 : Int))) (zl (AV.b !decide (Int.ofNat (ll k) = (64 : Int)))) T.e) (z0 (zl (AV.ps 0 1 65 512 k)) T.e))) (z0 (z0 (z1 (AV.sv 1 n (imF ll bb)) (zl (AV.sv 1 (ll
  k) fun k_1 x => CV.i .u8 (Int.ofNat (bb k k_1)))) T.e) (z1 (AV.i .i64 (Int.ofNat (ll k))) (zl (AV.p 0 0)) T.e)) (z0 (z1 (AV.i .i64 (Int.ofNat k)) (zl (AV.i .i64 (Int.ofNat k)))
  T.e) (z0 (zl (AV.i .i64 (Int.ofNat k + (1 : Int)))) T.e)))) (z0 (z1 (AV.p 0 0) (z0 T.e (z1 (AV.sv 1 (ll k) fun k_1 x => CV.i .u8 (Int.ofNat (bb k k_1))) (zl (AV.agg [AV.i .u8
  (Int.ofNat (bb k 0)), AV.i .u8 (Int.ofNat (bb k 1)), AV.i .u8 (Int.ofNat (bb k 2)), AV.i .u8 (Int.ofNat (bb k 3)), AV.i .u8 (Int.ofNat (bb k 4)), AV.i .u8 (Int.ofNat (bb k 5)),
  AV.i .u8 (Int.ofNat (bb k 6)), AV.i .u8 (Int.ofNat (bb k 7)), AV.i .u8 (Int.ofNat (bb k 8)), AV.i .u8 (Int.ofNat (bb k 9)), AV.i .u8 (Int.ofNat (bb k 10)), AV.i .u8 (Int.ofNat (bb
  k 11)), AV.i .u8 (Int.ofNat (bb k 12)), AV.i .u8 (Int.ofNat (bb k 13)), AV.i .u8 (Int.ofNat (bb k 14)), AV.i .u8 (Int.ofNat (bb k 15)), AV.i .u8 (Int.ofNat (bb k 16)), AV.i .u8
  (Int.ofNat (bb k 17)), AV.i .u8 (Int.ofNat (bb k 18)), AV.i .u8 (Int.ofNat (bb k 19)), AV.i .u8 (Int.ofNat (bb k 20)), AV.i .u8 (Int.ofNat (bb k 21)), AV.i .u8 (Int.ofNat (bb k
  22)), AV.i .u8 (Int.ofNat (bb k 23)), AV.i .u8 (Int.ofNat (bb k 24)), AV.i .u8 (Int.ofNat (bb k 25)), AV.i .u8 (Int.ofNat (bb k 26)), AV.i .u8 (Int.ofNat (bb k 27)), AV.i .u8
  (Int.ofNat (bb k 28)), AV.i .u8 (Int.ofNat (bb k 29)), AV.i .u8 (Int.ofNat (bb k 30)), AV.i .u8 (Int.ofNat (bb k 31)), AV.i .u8 (Int.ofNat (bb k 32)), AV.i .u8 (Int.ofNat (bb k
  33)), AV.i .u8 (Int.ofNat (bb k 34)), AV.i .u8 (Int.ofNat (bb k 35)), AV.i .u8 (Int.ofNat (bb k 36)), AV.i .u8 (Int.ofNat (bb k 37)), AV.i .u8 (Int.ofNat (bb k 38)), AV.i .u8
  (Int.ofNat (bb k 39)), AV.i .u8 (Int.ofNat (bb k 40)), AV.i .u8 (Int.ofNat (bb k 41)), AV.i .u8 (Int.ofNat (bb k 42)), AV.i .u8 (Int.ofNat (bb k 43)), AV.i .u8 (Int.ofNat (bb k
  44)), AV.i .u8 (Int.ofNat (bb k 45)), AV.i .u8 (Int.ofNat (bb k 46)), AV.i .u8 (Int.ofNat (bb k 47)), AV.i .u8 (Int.ofNat (bb k 48)), AV.i .u8 (Int.ofNat (bb k 49)), AV.i .u8
  (Int.ofNat (bb k 50)), AV.i .u8 (Int.ofNat (bb k 51)), AV.i .u8 (Int.ofNat (bb k 52)), AV.i .u8 (Int.ofNat (bb k 53)), AV.i .u8 (Int.ofNat (bb k 54)), AV.i .u8 (Int.ofNat (bb k
  55)), AV.i .u8 (Int.ofNat (bb k 56)), AV.i .u8 (Int.ofNat (bb k 57)), AV.i .u8 (Int.ofNat (bb k 58)), AV.i .u8 (Int.ofNat (bb k 59)), AV.i .u8 (Int.ofNat (bb k 60)), AV.i .u8
  (Int.ofNat (bb k 61)), AV.i .u8 (Int.ofNat (bb k 62)), AV.i .u8 (Int.ofNat (bb k 63))])) T.e)) (z0 (z1 (AV.b (decide (Int.ofNat k < Int.ofNat n))) (zl (AV.p 0 0)) T.e) (z0 (zl
  (AV.ps 0 1 65 512 k)) T.e))) (z1 (AV.i .i64 (Int.ofNat k)) (z0 (z1 (AV.i .i64 (Int.ofNat n)) (zl (AV.i .i64 (Int.ofNat (ll k)))) T.e) (z1 (AV.b (decide (Int.ofNat (ll k) = (0 :
  Int)))) (zl (AV.p 0 1)) T.e)) (z0 (z1 (AV.pv 1 (imF ll bb k)) (zl (AV.sv 1 (ll k) fun k_1 x => CV.i .u8 (Int.ofNat (bb k k_1)))) T.e) T.e)))) { tree := zl (AObj.segs 69 33799 [{ st := 0, sz := 1, n := 1, f := oneF (CV.i .i64 (Int.ofNat (SS.n s))) }, { st := 1, sz := 65, n := 512, f := setRow (fun i j => match Nat.blt j 64 with | true => CV.i .u8 (SS.dur s i j) | false => CV.b (SS.torn s i)) k 0 [CV.i .u8 (Int.ofNat (bb k 0)), CV.i .u8 (Int.ofNat (bb k 1)), CV.i .u8 (Int.ofNat (bb k 2)), CV.i .u8 (Int.ofNat (bb k 3)), CV.i .u8 (Int.ofNat (bb k 4)), CV.i .u8 (Int.ofNat (bb k 5)), CV.i .u8 (Int.ofNat (bb k 6)), CV.i .u8 (Int.ofNat (bb k 7)), CV.i .u8 (Int.ofNat (bb k 8)), CV.i .u8 (Int.ofNat (bb k 9)), CV.i .u8 (Int.ofNat (bb k 10)), CV.i .u8 (Int.ofNat (bb k 11)), CV.i .u8 (Int.ofNat (bb k 12)), CV.i .u8 (Int.ofNat (bb k 13)), CV.i .u8 (Int.ofNat (bb k 14)), CV.i .u8 (Int.ofNat (bb k 15)), CV.i .u8 (Int.ofNat (bb k 16)), CV.i .u8 (Int.ofNat (bb k 17)), CV.i .u8 (Int.ofNat (bb k 18)), CV.i .u8 (Int.ofNat (bb k 19)), CV.i .u8 (Int.ofNat (bb k 20)), CV.i .u8 (Int.ofNat (bb k 21)), CV.i .u8 (Int.ofNat (bb k 22)), CV.i .u8 (Int.ofNat (bb k 23)), CV.i .u8 (Int.ofNat (bb k 24)), CV.i .u8 (Int.ofNat (bb k 25)), CV.i .u8 (Int.ofNat (bb k 26)), CV.i .u8 (Int.ofNat (bb k 27)), CV.i .u8 (Int.ofNat (bb k 28)), CV.i .u8 (Int.ofNat (bb k 29)), CV.i .u8 (Int.ofNat (bb k 30)), CV.i .u8 (Int.ofNat (bb k 31)), CV.i .u8 (Int.ofNat (bb k 32)), CV.i .u8 (Int.ofNat (bb k 33)), CV.i .u8 (Int.ofNat (bb k 34)), CV.i .u8 (Int.ofNat (bb k 35)), CV.i .u8 (Int.ofNat (bb k 36)), CV.i .u8 (Int.ofNat (bb k 37)), CV.i .u8 (Int.ofNat (bb k 38)), CV.i .u8 (Int.ofNat (bb k 39)), CV.i .u8 (Int.ofNat (bb k 40)), CV.i .u8 (Int.ofNat (bb k 41)), CV.i .u8 (Int.ofNat (bb k 42)), CV.i .u8 (Int.ofNat (bb k 43)), CV.i .u8 (Int.ofNat (bb k 44)), CV.i .u8 (Int.ofNat (bb k 45)), CV.i .u8 (Int.ofNat (bb k 46)), CV.i .u8 (Int.ofNat (bb k 47)), CV.i .u8 (Int.ofNat (bb k 48)), CV.i .u8 (Int.ofNat (bb k 49)), CV.i .u8 (Int.ofNat (bb k 50)), CV.i .u8 (Int.ofNat (bb k 51)), CV.i .u8 (Int.ofNat (bb k 52)), CV.i .u8 (Int.ofNat (bb k 53)), CV.i .u8 (Int.ofNat (bb k 54)), CV.i .u8 (Int.ofNat (bb k 55)), CV.i .u8 (Int.ofNat (bb k 56)), CV.i .u8 (Int.ofNat (bb k 57)), CV.i .u8 (Int.ofNat (bb k 58)), CV.i .u8 (Int.ofNat (bb k 59)), CV.i .u8 (Int.ofNat (bb k 60)), CV.i .u8 (Int.ofNat (bb k 61)), CV.i .u8 (Int.ofNat (bb k 62)), CV.i .u8 (Int.ofNat (bb k 63))] }, { st := 33281, sz := 1, n := 1, f := oneF (CV.opv (pB (SS.P s)) 66 (pW (SS.P s))) }, { st := 33282, sz := 1, n := 512, f := latF (lB (SS.P s)) (lW (SS.P s)) }, { st := 33794, sz := 5, n := 1, f := tailF (Int.ofNat (List.length (SS.P s))) (Int.ofNat (SS.wr s)) (SS.off s) (SS.armed s) (Int.ofNat (SS.left s)) }]), next := 1, log := [0] })
  Orc.z))) ∧ (decide (Int.ofNat k < Int.ofNat n) = false → K (Res.st (XO.exit 0) (z0 (z0 (z0 T.e (z0 (zl (AV.i .i64 (Int.ofNat k))) T.e)) (z0 (z0 (zl (AV.sv 1 n (imF ll bb))) T.e)
  T.e)) (z0 (z1 (AV.p 0 0) T.e (z0 (zl (AV.b (decide (Int.ofNat k < Int.ofNat n)))) T.e)) (z0 (z0 (zl (AV.i .i64 (Int.ofNat n))) T.e) T.e))) { tree := zl (AObj.segs 69 33799 [{ st := 0, sz := 1, n := 1, f := oneF (CV.i .i64 (Int.ofNat (SS.n s))) }, { st := 1, sz := 65, n := 512, f := durF (SS.dur s) (SS.torn s) }, { st := 33281, sz := 1, n := 1, f := oneF (CV.opv (pB (SS.P s)) 66 (pW (SS.P s))) }, { st := 33282, sz := 1, n := 512, f := latF (lB (SS.P s)) (lW (SS.P s)) }, { st := 33794, sz := 5, n := 1, f := tailF (Int.ofNat (List.length (SS.P s))) (Int.ofNat (SS.wr s)) (SS.off s) (SS.armed s) (Int.ofNat (SS.left s)) }]), next := 1, log := [] })
  Orc.z)) := by kernel_rfl
theorem durF_lo (dur : Nat → Nat → Int) (torn : Nat → Bool) (i : Nat) {j : Nat} (h : j < 64) : durF dur torn i j = .i .u8 (dur i j) := by
  unfold durF
  rw [show Nat.blt j 64 = true by rw [Nat.blt_eq]; exact h]
theorem torn_cw (dur : Nat → Nat → Int) (torn : Nat → Bool) (k i j : Nat) (hj : j < 65) : CW (setRow (durF dur torn) k 64 [.b true] i j) (durF dur (fun q => bif Nat.beq q k then true else torn q) i j) := by
  by_cases h : j < 64
  · have e : setRow (durF dur torn) k 64 [.b true] i j = durF dur torn i j := by
      unfold setRow
      rw [show Nat.ble 64 j = false by rw [Bool.eq_false_iff, ne_eq, Nat.ble_eq]; omega]
    rw [e, durF_lo _ _ _ h, durF_lo _ _ _ h]
    exact .of rfl
  · have : j = 64 := by omega
    subst this
    exact .of (Eq.refl _)
noncomputable def b64 (b : Nat → Int) : List CV := (List.range 64).map fun q => .i .u8 (b q)
theorem byt_cw (dur : Nat → Nat → Int) (torn : Nat → Bool) (b : Nat → Int) (k i j : Nat) (hj : j < 65) : CW (setRow (durF dur torn) k 0 (b64 b) i j) (durF (fun q => bif Nat.beq q k then b else dur q) torn i j) := by
  by_cases h : j < 64
  · have e : setRow (durF dur torn) k 0 (b64 b) i j = zipCV (Nat.beq i k) (.i .u8 (b j)) (.i .u8 (dur i j)) := by
      unfold setRow
      rw [show Nat.ble 0 j = true from Nat.ble_eq_true_of_le (Nat.zero_le j), Nat.sub_zero, show (b64 b)[j]? = some (.i .u8 (b j)) by unfold b64; rw [List.getElem?_map, List.getElem?_range h]; rfl, durF_lo _ _ _ h]
    rw [e, durF_lo _ _ _ h]
    cases Nat.beq i k <;> exact .of (Eq.refl _)
  · have : j = 64 := by omega
    subst this
    exact .of (Eq.refl _)
noncomputable def fromS (n : Nat) (ll : Nat → Nat) (bb : Nat → Nat → Nat) (k : Nat) : SS :=
  { n := n, dur := fun i => bif Nat.blt i k && Nat.beq (ll i) 64 then (fun j => Int.ofNat (bb i j)) else fun _ => 0, torn := fun i => Nat.blt i k && Nat.beq (ll i) 0, P := [], wr := 0, off := false, armed := false, left := 0 }
theorem from_ov {s s' : SS} {f : Nat → Nat → CV} (hf : ∀ i j, i < 512 → j < 65 → CW (f i j) (durF s'.dur s'.torn i j)) (hn : s'.n = s.n) (hP : s'.P = s.P) (hw : s'.wr = s.wr) (ho : s'.off = s.off) (ha : s'.armed = s.armed) (hl : s'.left = s.left) :
    OV (some (.segs 69 33799 [⟨0, 1, 1, oneF (.i .i64 (Int.ofNat s.n))⟩, ⟨1, 65, 512, f⟩, ⟨33281, 1, 1, oneF (.opv (pB s.P) 66 (pW s.P))⟩, ⟨33282, 1, 512, latF (lB s.P) (lW s.P)⟩, ⟨33794, 5, 1, tailF (Int.ofNat s.P.length) (Int.ofNat s.wr) s.off s.armed (Int.ofNat s.left)⟩])) (some s'.o) := by
  unfold SS.o
  rw [hn, hP, hw, ho, ha, hl]
  exact .segsW ⟨.refl _, ⟨rfl, rfl, rfl, fun i j hi hj => hf i j hi hj⟩, .refl _, .refl _, .refl _, trivial⟩
theorem from_s (n : Nat) (ll : Nat → Nat) (bb : Nat → Nat → Nat) (k : Nat) (h0 : ll k = 0) : (fun q => bif Nat.beq q k then true else (fromS n ll bb k).torn q) = (fromS n ll bb (k + 1)).torn ∧ (fromS n ll bb k).dur = (fromS n ll bb (k + 1)).dur := by
  constructor <;> funext q
  · show (bif Nat.beq q k then true else (Nat.blt q k && Nat.beq (ll q) 0)) = (Nat.blt q (k + 1) && Nat.beq (ll q) 0)
    by_cases e : q = k
    · subst e
      rw [Nat.beq_refl, cond_true, show Nat.blt q (q + 1) = true by rw [Nat.blt_eq]; omega, h0]; rfl
    · rw [show Nat.beq q k = false by rw [Bool.eq_false_iff, ne_eq, Nat.beq_eq]; exact e, cond_false, show Nat.blt q (k + 1) = Nat.blt q k by rw [Bool.eq_iff_iff, Nat.blt_eq, Nat.blt_eq]; omega]
  · show (bif Nat.blt q k && Nat.beq (ll q) 64 then (fun j => Int.ofNat (bb q j)) else fun _ => 0) = (bif Nat.blt q (k + 1) && Nat.beq (ll q) 64 then (fun j => Int.ofNat (bb q j)) else fun _ => 0)
    by_cases e : q = k
    · subst e
      rw [h0, show Nat.beq 0 64 = false from rfl, Bool.and_false, Bool.and_false]
    · rw [show Nat.blt q (k + 1) = Nat.blt q k by rw [Bool.eq_iff_iff, Nat.blt_eq, Nat.blt_eq]; omega]
theorem from_b (n : Nat) (ll : Nat → Nat) (bb : Nat → Nat → Nat) (k : Nat) (h0 : ll k = 64) : (fun q => bif Nat.beq q k then (fun j => Int.ofNat (bb k j)) else (fromS n ll bb k).dur q) = (fromS n ll bb (k + 1)).dur ∧ (fromS n ll bb k).torn = (fromS n ll bb (k + 1)).torn := by
  constructor <;> funext q
  · show (bif Nat.beq q k then (fun j => Int.ofNat (bb k j)) else (bif Nat.blt q k && Nat.beq (ll q) 64 then (fun j => Int.ofNat (bb q j)) else fun _ => 0)) = (bif Nat.blt q (k + 1) && Nat.beq (ll q) 64 then (fun j => Int.ofNat (bb q j)) else fun _ => 0)
    by_cases e : q = k
    · subst e
      rw [Nat.beq_refl, cond_true, show Nat.blt q (q + 1) = true by rw [Nat.blt_eq]; omega, h0]; rfl
    · rw [show Nat.beq q k = false by rw [Bool.eq_false_iff, ne_eq, Nat.beq_eq]; exact e, cond_false, show Nat.blt q (k + 1) = Nat.blt q k by rw [Bool.eq_iff_iff, Nat.blt_eq, Nat.blt_eq]; omega]
  · show (Nat.blt q k && Nat.beq (ll q) 0) = (Nat.blt q (k + 1) && Nat.beq (ll q) 0)
    by_cases e : q = k
    · subst e
      rw [h0, show Nat.beq 64 0 = false from rfl, Bool.and_false, Bool.and_false]
    · rw [show Nat.blt q (k + 1) = Nat.blt q k by rw [Bool.eq_iff_iff, Nat.blt_eq, Nat.blt_eq]; omega]
noncomputable def sfI (n : Nat) (ll : Nat → Nat) (bb : Nat → Nat → Nat) (k : Nat) : List (Nat × AV) × List (Option AObj) :=
  ([(4, .p 0 0), (17, .sv 1 n (imF ll bb)), (18, .i .i64 (Int.ofNat n)), (19, .i .i64 (Int.ofNat k))], [some (fromS n ll bb k).o])
theorem sf_round (n : Nat) (ll : Nat → Nat) (bb : Nat → Nat → Nat) (hn : n ≤ 512) (k : Nat) (hk : k < n) (ok : ll k = 64 ∨ ll k = 0) (K : Res → Orc → Prop)
    (hK : ∀ tm1 H1 objs1, StIs 0 [0] [] tm1 H1 (sfI n ll bb (k + 1)).1 objs1 → OVL objs1 (sfI n ll bb (k + 1)).2 → ∀ o, K (.st .nrm tm1 H1) o) :
    ∃ o, runK Tryd.prog 1000000 (.code (loopAt Tryd.prog 24 0) 47 (mkT (sfI n ll bb k).1) (mkH (sfI n ll bb k).2)) o K := by
  have r1 : (0 : Int) ≤ Int.ofNat k ∧ Int.ofNat k < (n : Int) := ⟨by simp, by simp; omega⟩
  have r3 : (0 : Int) ≤ Int.ofNat k ∧ Int.ofNat k < 512 := ⟨by simp, by simp; omega⟩
  have r2 : (-9223372036854775808 : Int) ≤ Int.ofNat k + (1 : Int) ∧ Int.ofNat k + (1 : Int) ≤ (9223372036854775807 : Int) := ⟨by simp <;> omega, by simp <;> omega⟩
  refine ⟨_, (sfromR_vc n k ll bb (fromS n ll bb k) K).mpr ⟨fun _ => ⟨r1, trivial, fun h0 => ⟨trivial, r3, trivial, by omega, r2, ?_⟩, fun h0 => ⟨fun h64 => ?_, fun h64 => ⟨⟨?_, ?_⟩, trivial, trivial, r3, trivial, by omega, r2, ?_⟩⟩⟩, fun h => absurd (of_decide_eq_false h) (by simp; omega)⟩⟩
  · have e : ll k = 0 := by have := of_decide_eq_true h0; simp at this; omega
    obtain ⟨e1, e2⟩ := from_s n ll bb k e
    refine hK _ _ [some (.segs 69 33799 [⟨0, 1, 1, oneF (.i .i64 (Int.ofNat n))⟩, ⟨1, 65, 512, setRow (durF (fromS n ll bb k).dur (fromS n ll bb k).torn) k 64 [.b true]⟩, ⟨33281, 1, 1, oneF (.opv (pB []) 66 (pW []))⟩, ⟨33282, 1, 512, latF (lB []) (lW [])⟩, ⟨33794, 5, 1, tailF 0 0 false false 0⟩])] (st_is [0] (by kernel_rfl) rfl rfl rfl ⟨by kernel_rfl, by kernel_rfl, trivial⟩ rfl) ⟨from_ov (s := fromS n ll bb k) (fun i j hi hj => ?_) rfl rfl rfl rfl rfl rfl, trivial⟩ _
    rw [← e1, ← e2]
    exact torn_cw _ _ k i j hj
  · rcases ok with e | e
    · rw [e] at h64; cases h64
    · rw [e] at h0; cases h0
  · simp at h64; omega
  · simp at h64; omega
  · have e : ll k = 64 := by simp at h64; omega
    obtain ⟨e1, e2⟩ := from_b n ll bb k e
    refine hK _ _ [some (.segs 69 33799 [⟨0, 1, 1, oneF (.i .i64 (Int.ofNat n))⟩, ⟨1, 65, 512, setRow (durF (fromS n ll bb k).dur (fromS n ll bb k).torn) k 0 (b64 fun q => Int.ofNat (bb k q))⟩, ⟨33281, 1, 1, oneF (.opv (pB []) 66 (pW []))⟩, ⟨33282, 1, 512, latF (lB []) (lW [])⟩, ⟨33794, 5, 1, tailF 0 0 false false 0⟩])] (st_is [0] (by kernel_rfl) rfl rfl rfl ⟨by kernel_rfl, by kernel_rfl, trivial⟩ rfl) ⟨from_ov (s := fromS n ll bb k) (fun i j hi hj => ?_) rfl rfl rfl rfl rfl rfl, trivial⟩ _
    rw [← e1, ← e2]
    exact byt_cw _ _ _ k i j hj
noncomputable def sn (n : Nat) : SS := SS.new n
noncomputable def fr (n : Nat) (ll : Nat → Nat) (bb : Nat → Nat → Nat) : SS := fromS n ll bb n
theorem sfromG_vc (n : Nat) (ll : Nat → Nat) (bb : Nat → Nat → Nat) (K : Res → Orc → Prop) : runK Tryd.prog 1000000 (.call 24 [.sv 1 n (imF ll bb)] (mkH [])) (Orc.cal [] (AV.tup
  [AV.p 0 0, AV.i .i64 (0 : Int)]) [Upd.set (SS.o (sn n))] (Orc.c (Orc.lop [0] [4, 17, 18, 19] 0 (XO.exit 0) [(4, AV.p 0 0)] [some (SS.o (fr n ll bb))] Orc.z))) K = (Con Tryd.prog 6
  [AV.i .i64 (Int.ofNat n)] [] (AV.tup [AV.p 0 0, AV.i .i64 (0 : Int)]) [Upd.set (SS.o (sn n))] ∧ LDoes Tryd.prog (loopAt Tryd.prog 24 0) 47 0 (mkT [(4, AV.p 0 0), (17, AV.sv 1 n (imF
  ll bb)), (18, AV.i .i64 (Int.ofNat n)), (19, AV.i .i64 (0 : Int))]) [some (SS.o (sn n))] (XO.exit 0) (mkT [(4, AV.p 0 0)]) [some (SS.o (fr n ll bb))] ∧ K (Res.rv (AV.tup [AV.p 1
  0, AV.i .i64 (0 : Int)]) { tree := z0 (zl (AObj.segs 69 33799 [{ st := 0, sz := 1, n := 1, f := oneF (CV.i .i64 (Int.ofNat (SS.n (fr n ll bb)))) }, { st := 1, sz := 65, n := 512, f := durF (SS.dur (fr n ll bb)) (SS.torn (fr n ll bb)) }, { st := 33281, sz := 1, n := 1, f := oneF (CV.opv (pB (SS.P (fr n ll bb))) 66 (pW (SS.P (fr n ll bb)))) }, { st := 33282, sz := 1, n := 512, f := latF (lB (SS.P (fr n ll bb))) (lW (SS.P (fr n ll bb))) }, { st := 33794, sz := 5, n := 1, f := tailF (Int.ofNat (List.length (SS.P (fr n ll bb)))) (Int.ofNat (SS.wr (fr n ll bb))) (SS.off (fr n ll bb)) (SS.armed (fr n ll bb)) (Int.ofNat (SS.left (fr n ll bb))) }])) T.e, next := 2, log := [1, 0, 0] })
  Orc.z) := by kernel_rfl
theorem sfromB_vc (n : Nat) (ll : Nat → Nat) (bb : Nat → Nat → Nat) (K : Res → Orc → Prop) : runK Tryd.prog 1000000 (.call 24 [.sv 1 n (imF ll bb)] (mkH [])) (Orc.cal [] (AV.tup
  [AV.p 0 0, AV.i .i64 (0 : Int)]) [Upd.set (SS.o (sn n))] (Orc.c (Orc.lop [0] [4, 17, 18, 19] 0 XO.ret [(2, AV.p0), (3, AV.i .i64 (2 : Int))] [] Orc.z))) K = (Con Tryd.prog 6 [AV.i
  .i64 (Int.ofNat n)] [] (AV.tup [AV.p 0 0, AV.i .i64 (0 : Int)]) [Upd.set (SS.o (sn n))] ∧ LDoes Tryd.prog (loopAt Tryd.prog 24 0) 47 0 (mkT [(4, AV.p 0 0), (17, AV.sv 1 n (imF ll
  bb)), (18, AV.i .i64 (Int.ofNat n)), (19, AV.i .i64 (0 : Int))]) [some (SS.o (sn n))] XO.ret (mkT [(2, AV.p0), (3, AV.i .i64 (2 : Int))]) [] ∧ K (Res.rv (AV.tup [AV.p0, AV.i .i64
  (2 : Int)]) { tree := z0 T.e T.e, next := 1, log := [0, 0] }) Orc.z) := by kernel_rfl
theorem sfromX_vc (n : Nat) (ll : Nat → Nat) (bb : Nat → Nat → Nat) (K : Res → Orc → Prop) : runK Tryd.prog 1000000 (.call 24 [.sv 1 n (imF ll bb)] (mkH [])) (Orc.cal [] (AV.tup
  [AV.p0, AV.i .i64 (2 : Int)]) [] (Orc.c Orc.z)) K = (Con Tryd.prog 6 [AV.i .i64 (Int.ofNat n)] [] (AV.tup [AV.p0, AV.i .i64 (2 : Int)]) [] ∧ K (Res.rv (AV.tup [AV.p0, AV.i .i64 (2
  : Int)]) { tree := T.e, next := 0, log := [] }) Orc.z) := by kernel_rfl
theorem from_new (n : Nat) (ll : Nat → Nat) (bb : Nat → Nat → Nat) : fromS n ll bb 0 = SS.new n := by
  have e1 : (fun i => bif Nat.blt i 0 && Nat.beq (ll i) 64 then (fun j => Int.ofNat (bb i j)) else fun _ => (0 : Int)) = fun _ _ => 0 := by
    funext i
    rw [show Nat.blt i 0 = false by rw [Bool.eq_false_iff, ne_eq, Nat.blt_eq]; omega, Bool.false_and, cond_false]
  have e2 : (fun i => Nat.blt i 0 && Nat.beq (ll i) 0) = fun _ => false := by
    funext i
    rw [show Nat.blt i 0 = false by rw [Bool.eq_false_iff, ne_eq, Nat.blt_eq]; omega, Bool.false_and]
  unfold fromS SS.new
  rw [e1, e2]
theorem sfromG_lp (n : Nat) (ll : Nat → Nat) (bb : Nat → Nat → Nat) (hn : n ≤ 512) (ok : ∀ i, i < n → ll i = 64 ∨ ll i = 0) :
    LDoes Tryd.prog (loopAt Tryd.prog 24 0) 47 0 (mkT (sfI n ll bb 0).1) (sfI n ll bb 0).2 (.exit 0) (mkT [(4, .p 0 0)]) [some (fromS n ll bb n).o] := by
  refine loop_indV (D := Nat) (l' := [(4, .p 0 0)]) (sfI n ll bb) (fun k => n - k) (fun k => k ≤ n) ?_ 0 (Nat.zero_le n)
  intro k hk
  refine ⟨Nat.zero_le _, 1000000, ?_⟩
  by_cases hlt : k < n
  · exact sf_round n ll bb hn k hlt (ok k hlt) _ fun tm1 H1 objs1 st ov o => .inl ⟨k + 1, [0], [], _, _, _, objs1, hlt, by show n - (k + 1) < n - k; omega, rfl, st, .refl _, ov⟩
  · have : k = n := by omega
    subst this
    exact ⟨_, (sfromR_vc k k ll bb (fromS k ll bb k) _).mpr ⟨fun h => absurd (of_decide_eq_true h) (by simp), fun _ => .inr ⟨[0], [], _, _, [(4, .p 0 0)], [some (fromS k ll bb k).o], rfl, by simp, st_is [0] (by kernel_rfl) rfl rfl rfl ⟨by kernel_rfl, by kernel_rfl, trivial⟩ rfl, .refl _, .refl _⟩⟩⟩
theorem sfromB_lp (n : Nat) (ll : Nat → Nat) (bb : Nat → Nat → Nat) (hn : n ≤ 512) (q : Nat) (hq : q < n) (ok : ∀ i, i < q → ll i = 64 ∨ ll i = 0) (bad : ll q ≠ 64 ∧ ll q ≠ 0) :
    LDoes Tryd.prog (loopAt Tryd.prog 24 0) 47 0 (mkT (sfI n ll bb 0).1) (sfI n ll bb 0).2 .ret (mkT [(2, .p0), (3, .i .i64 2)]) [] := by
  refine loop_indV (D := Nat) (l' := [(2, .p0), (3, .i .i64 2)]) (sfI n ll bb) (fun k => n - k) (fun k => k ≤ q) ?_ 0 (Nat.zero_le q)
  intro k hk
  refine ⟨Nat.zero_le _, 1000000, ?_⟩
  by_cases hlt : k < q
  · exact sf_round n ll bb hn k (by omega) (ok k hlt) _ fun tm1 H1 objs1 st ov o => .inl ⟨k + 1, [0], [], _, _, _, objs1, hlt, by show n - (k + 1) < n - k; omega, rfl, st, .refl _, ov⟩
  · have : k = q := by omega
    subst this
    have r1 : (0 : Int) ≤ Int.ofNat k ∧ Int.ofNat k < (n : Int) := ⟨by simp, by simp; omega⟩
    exact ⟨_, (sfromR_vc n k ll bb (fromS n ll bb k) _).mpr ⟨fun _ => ⟨r1, trivial, fun h0 => absurd (of_decide_eq_true h0) (by simp; omega), fun h0 => ⟨fun h64 => .inr ⟨[], [], _, _, [(2, .p0), (3, .i .i64 2)], [], rfl, by simp, st_is [] (by kernel_rfl) rfl rfl rfl trivial rfl, .refl _, .refl _⟩, fun h64 => absurd h64 (by simp; omega)⟩⟩, fun h => absurd (of_decide_eq_false h) (by simp; omega)⟩⟩
theorem from_con (n : Nat) (ll : Nat → Nat) (bb : Nat → Nat → Nat) (h1 : 1 ≤ n) (hn : n ≤ 512) (ok : ∀ i, i < n → ll i = 64 ∨ ll i = 0) :
    Con Tryd.prog 24 [.sv 1 n (imF ll bb)] [] (.tup [.p 0 0, .i .i64 0]) [.set (fromS n ll bb n).o] :=
  con_of_run [] [1] ((sfromG_vc n ll bb _).mpr ⟨new_con n h1 hn, by
    have h := sfromG_lp n ll bb hn ok
    unfold sfI at h
    simp only at h
    rw [from_new] at h
    exact h, _, _, rfl, ret_is (by kernel_rfl) rfl (by kernel_rfl) (by kernel_rfl) rfl ⟨by kernel_rfl, by kernel_rfl, trivial⟩⟩)
theorem fromBad_con (n : Nat) (ll : Nat → Nat) (bb : Nat → Nat → Nat) (bad : n < 1 ∨ 512 < n ∨ ∃ q, q < n ∧ (∀ i, i < q → ll i = 64 ∨ ll i = 0) ∧ ll q ≠ 64 ∧ ll q ≠ 0) : Con Tryd.prog 24 [.sv 1 n (imF ll bb)] [] (.tup [.p0, .i .i64 2]) [] := by
  by_cases h : 1 ≤ n ∧ n ≤ 512
  · obtain ⟨q, q1, q2, q3⟩ : ∃ q, q < n ∧ (∀ i, i < q → ll i = 64 ∨ ll i = 0) ∧ ll q ≠ 64 ∧ ll q ≠ 0 := by
      rcases bad with b | b | b
      · omega
      · omega
      · exact b
    refine con_plain rfl ((sfromB_vc n ll bb _).mpr ⟨new_con n h.1 h.2, ?_, _, _, rfl, rfl⟩)
    have h2 := sfromB_lp n ll bb h.2 q q1 q2 q3
    unfold sfI at h2
    simp only at h2
    rw [from_new] at h2
    exact h2
  · exact con_plain rfl ((sfromX_vc n ll bb _).mpr (by
      have hx := newBad_con (Int.ofNat n) (by simp; omega)
      repeat' first | exact hx | exact trivial | exact ⟨_, _, rfl, rfl⟩ | apply And.intro))
end Go.Proofs.St
