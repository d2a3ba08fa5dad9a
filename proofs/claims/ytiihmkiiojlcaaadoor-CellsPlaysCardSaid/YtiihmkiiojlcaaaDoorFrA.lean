/- Runs over unknown values, told by the kernel: part FrA. -/
import Derived.Test.YtiihmkiiojlcaaaDoorRfA
set_option linter.unusedSimpArgs false
set_option linter.unusedVariables false
/- Sectors that are handed in. -/
namespace Go.Proofs.St
open Go Go.Sim
noncomputable def z0 {α : Type} (a b : T α) : T α := T.n none a b
noncomputable def z1 {α : Type} (v : α) (a b : T α) : T α := T.n (some v) a b
noncomputable def zl {α : Type} (v : α) : T α := T.n (some v) T.e T.e
noncomputable def imF (ll : Nat → Nat) (bb : Nat → Nat → Nat) : Nat → Nat → CV := fun i _ => .sv 1 (ll i) fun k _ => .i .u8 (Int.ofNat (bb i k))
end Go.Proofs.St
set_option maxRecDepth 20000
namespace Go.Proofs.St
open Go Go.Sim Go.Proofs Go.Proofs.YtiihmkiiojlcaaaDoor
theorem sameR_vc (n m k : Nat) (ll mm : Nat → Nat) (bb cb : Nat → Nat → Nat) (K : Res → Orc → Prop) : runK Tryd.prog 1000000 (.code (loopAt Tryd.prog 22 0) 28 (mkT [(0, .sv 1 n (imF
  ll bb)), (1, .sv 1 m (imF mm cb)), (5, .i .i64 (Int.ofNat k))]) (mkH [])) (Orc.s (Orc.s Orc.z Orc.z) Orc.z) K = ((decide (Int.ofNat k < Int.ofNat n) = true → ((0 : Int) ≤
  Int.ofNat k ∧ Int.ofNat k < ↑n) ∧ True ∧ (U8s (ll k) fun k_1 x => CV.i .u8 (Int.ofNat (bb k k_1))) ∧ ((0 : Int) ≤ Int.ofNat k ∧ Int.ofNat k < ↑m) ∧ True ∧ (U8s (mm k) fun k_1 x =>
  CV.i .u8 (Int.ofNat (cb k k_1))) ∧ ((!natsEq (bytesF (ll k) fun k_1 x => CV.i .u8 (Int.ofNat (bb k k_1))) (bytesF (mm k) fun k_1 x => CV.i .u8 (Int.ofNat (cb k k_1)))) = true → K
  (Res.st XO.ret (z1 (AV.sv 1 n (imF ll bb)) (z1 (AV.sv 1 m (imF mm cb)) (z0 (z0 T.e (zl (AV.i .i64 (Int.ofNat k)))) (z1 (AV.i .i64 (Int.ofNat k)) (zl (AV.pv 1 (imF ll bb k))) (zl
  (AV.b !natsEq (bytesF (ll k) fun k_1 x => CV.i .u8 (Int.ofNat (bb k k_1))) (bytesF (mm k) fun k_1 x => CV.i .u8 (Int.ofNat (cb k k_1))))))) (z1 (AV.i .i64 (Int.ofNat k)) (z0 (zl
  (AV.sv 1 n (imF ll bb))) (zl (AV.sv 1 (mm k) fun k_1 x => CV.i .u8 (Int.ofNat (cb k k_1))))) (z1 (AV.i .i64 (Int.ofNat n)) (zl (AV.s (bytesF (ll k) fun k_1 x => CV.i .u8
  (Int.ofNat (bb k k_1))))) T.e))) (z0 (z1 (AV.b false) (z0 T.e (zl (AV.pv 1 (imF mm cb k)))) (z1 (AV.sv 1 n (imF ll bb)) (zl (AV.sv 1 (ll k) fun k_1 x => CV.i .u8 (Int.ofNat (bb k
  k_1)))) T.e)) (z0 (z0 (zl (AV.i .i64 (Int.ofNat k))) (zl (AV.s (bytesF (mm k) fun k_1 x => CV.i .u8 (Int.ofNat (cb k k_1)))))) (z1 (AV.b (decide (Int.ofNat k < Int.ofNat n))) (zl
  (AV.sv 1 m (imF mm cb))) T.e)))) { tree := T.e, next := 0, log := [] }) Orc.z) ∧ ((!natsEq (bytesF (ll k) fun k_1 x => CV.i .u8 (Int.ofNat (bb k k_1))) (bytesF (mm k) fun k_1 x =>
  CV.i .u8 (Int.ofNat (cb k k_1)))) = false → ((-9223372036854775808 : Int) ≤ Int.ofNat k + (1 : Int) ∧ Int.ofNat k + (1 : Int) ≤ (9223372036854775807 : Int)) ∧ K (Res.st XO.nrm (z1
  (AV.sv 1 n (imF ll bb)) (z1 (AV.sv 1 m (imF mm cb)) (z0 (z0 (zl (AV.i .i64 (Int.ofNat k))) (zl (AV.i .i64 (Int.ofNat k)))) (z1 (AV.i .i64 (Int.ofNat k)) (zl (AV.pv 1 (imF ll bb
  k))) (zl (AV.b !natsEq (bytesF (ll k) fun k_1 x => CV.i .u8 (Int.ofNat (bb k k_1))) (bytesF (mm k) fun k_1 x => CV.i .u8 (Int.ofNat (cb k k_1))))))) (z1 (AV.i .i64 (Int.ofNat k +
  (1 : Int))) (z0 (zl (AV.sv 1 n (imF ll bb))) (zl (AV.sv 1 (mm k) fun k_1 x => CV.i .u8 (Int.ofNat (cb k k_1))))) (z1 (AV.i .i64 (Int.ofNat n)) (zl (AV.s (bytesF (ll k) fun k_1 x
  => CV.i .u8 (Int.ofNat (bb k k_1))))) T.e))) (z0 (z0 (z0 (zl (AV.i .i64 (Int.ofNat k + (1 : Int)))) (zl (AV.pv 1 (imF mm cb k)))) (z1 (AV.sv 1 n (imF ll bb)) (zl (AV.sv 1 (ll k)
  fun k_1 x => CV.i .u8 (Int.ofNat (bb k k_1)))) T.e)) (z0 (z0 (zl (AV.i .i64 (Int.ofNat k))) (zl (AV.s (bytesF (mm k) fun k_1 x => CV.i .u8 (Int.ofNat (cb k k_1)))))) (z1 (AV.b
  (decide (Int.ofNat k < Int.ofNat n))) (zl (AV.sv 1 m (imF mm cb))) T.e)))) { tree := T.e, next := 0, log := [] }) Orc.z)) ∧ (decide (Int.ofNat k < Int.ofNat n) = false → K (Res.st
  (XO.exit 0) (z1 (AV.sv 1 n (imF ll bb)) (z1 (AV.sv 1 m (imF mm cb)) (z0 T.e (zl (AV.i .i64 (Int.ofNat k)))) (z1 (AV.i .i64 (Int.ofNat k)) T.e (zl (AV.i .i64 (Int.ofNat n))))) (z0
  (z0 T.e (zl (AV.sv 1 n (imF ll bb)))) (z0 T.e (zl (AV.b (decide (Int.ofNat k < Int.ofNat n))))))) { tree := T.e, next := 0, log := [] }) Orc.z)) := by kernel_rfl
theorem same_vc (n m : Nat) (ll mm : Nat → Nat) (bb cb : Nat → Nat → Nat) (K : Res → Orc → Prop) : runK Tryd.prog 1000000 (.call 22 [.sv 1 n (imF ll bb), .sv 1 m (imF mm cb)] (mkH
  [])) (Orc.s Orc.z (Orc.lop [] [0, 1, 5] 0 (XO.exit 0) [] [] Orc.z)) K = (((!decide (Int.ofNat n = Int.ofNat m)) = true → K (Res.rv (AV.b false) { tree := T.e, next := 0, log := [] })
  Orc.z) ∧ ((!decide (Int.ofNat n = Int.ofNat m)) = false → LDoes Tryd.prog (loopAt Tryd.prog 22 0) 28 0 (mkT [(0, AV.sv 1 n (imF ll bb)), (1, AV.sv 1 m (imF mm cb)), (5, AV.i .i64 (0
  : Int))]) [] (XO.exit 0) (mkT []) [] ∧ K (Res.rv (AV.b true) { tree := T.e, next := 0, log := [] }) Orc.z)) := by kernel_rfl
theorem im_u8 (n : Nat) (b : Nat → Nat) : U8s n fun k _ => .i .u8 (Int.ofNat (b k)) := fun k hk => ⟨b k, rfl⟩
theorem nats_same (a : List Nat) : natsEq a a = true := (natsEq_iff a a).2 rfl
theorem bytes_same {n : Nat} {b c : Nat → Nat} (h : ∀ k, k < n → c k = b k) : bytesF n (fun k _ => .i .u8 (Int.ofNat (b k))) = bytesF n (fun k _ => .i .u8 (Int.ofNat (c k))) := by
  unfold bytesF
  refine List.map_congr_left fun k hk => ?_
  show Go.Sim.byteOf (CV.i .u8 (Int.ofNat (b k))) = Go.Sim.byteOf (CV.i .u8 (Int.ofNat (c k)))
  rw [h k (List.mem_range.1 hk)]
theorem sameG_lp (n : Nat) (ll mm : Nat → Nat) (bb cb : Nat → Nat → Nat) (hn : n ≤ 512) (he : ∀ i, i < n → mm i = ll i ∧ ∀ k, k < ll i → cb i k = bb i k) :
    LDoes Tryd.prog (loopAt Tryd.prog 22 0) 28 0 (mkT [(0, .sv 1 n (imF ll bb)), (1, .sv 1 n (imF mm cb)), (5, .i .i64 0)]) [] (.exit 0) (mkT []) [] := by
  refine loop_ind (D := Nat) (l' := []) (fun k => ([(0, .sv 1 n (imF ll bb)), (1, .sv 1 n (imF mm cb)), (5, .i .i64 (Int.ofNat k))], [])) (fun k => n - k) (fun k => k ≤ n) ?_ 0 (Nat.zero_le n)
  intro k hk
  refine ⟨Nat.zero_le _, 1000000, _, (sameR_vc n n k ll mm bb cb _).mpr ⟨fun h => ?_, fun h => ?_⟩⟩
  · have hlt : k < n := by have := of_decide_eq_true h; simp at this; omega
    obtain ⟨e1, e2⟩ := he k hlt
    have u1 := im_u8 (ll k) (bb k)
    have u2 := im_u8 (mm k) (cb k)
    have ne : (!natsEq (bytesF (ll k) fun q _ => CV.i .u8 (Int.ofNat (bb k q))) (bytesF (mm k) fun q _ => CV.i .u8 (Int.ofNat (cb k q)))) = false := by
      rw [e1, ← bytes_same e2, nats_same]; rfl
    exact ⟨⟨by simp, by simp; omega⟩, trivial, u1, ⟨by simp, by simp; omega⟩, trivial, u2, fun h => (by rw [ne] at h; cases h), fun _ => ⟨⟨by simp <;> omega, by simp <;> omega⟩, .inl ⟨k + 1, [], [], _, _, hlt, by show n - (k + 1) < n - k; omega, rfl,
      st_is [] (by kernel_rfl) rfl rfl rfl trivial rfl⟩⟩⟩
  · exact .inr ⟨[], [], _, _, rfl, by simp, st_is [] (by kernel_rfl) rfl rfl rfl trivial rfl⟩
theorem same_con (n : Nat) (ll mm : Nat → Nat) (bb cb : Nat → Nat → Nat) (hn : n ≤ 512) (he : ∀ i, i < n → mm i = ll i ∧ ∀ k, k < ll i → cb i k = bb i k) :
    Con Tryd.prog 22 [.sv 1 n (imF ll bb), .sv 1 n (imF mm cb)] [] (.b true) [] :=
  con_plain rfl ((same_vc n n ll mm bb cb _).mpr ⟨fun h => absurd h (by simp), fun _ => ⟨sameG_lp n ll mm bb cb hn he, _, _, rfl, rfl⟩⟩)
end Go.Proofs.St
/- The reference's store, told by the program's state. -/
namespace Go.Proofs.St
open Go Go.Sim Go.Proofs
noncomputable def SS.am (s : SS) : Int := bif s.armed then Int.ofNat s.left else -1
noncomputable def rsQ (A n p wr : Nat) (am : Int) (off : Bool) : AObj := .cells 51 5 [] (setAll .e 0 [.lr 1 1 0 n false, .lr A 2 0 p false, .i .i64 (Int.ofNat wr), .i .i64 am, .b off])
noncomputable def penF (aa : Nat → Nat) (bb : Nat → Nat → Int) : Nat → Nat → CV := fun k j => match j with
  | 0 => .i .i64 (Int.ofNat (aa k))
  | _ => .sv 1 64 fun q _ => .i .u8 (bb k q)
noncomputable def iF (b : Nat → Int) : Nat → Nat → CV := fun k _ => .i .u8 (b k)
noncomputable def rsA (A : Nat) (s : SS) : AObj := rsQ A s.n s.P.length s.wr s.am s.off
noncomputable def rsR (s : SS) : AObj := .rows 55 1 s.n (imgF s)
noncomputable def rsP (s : SS) : AObj := .rows 91 2 s.P.length (penF (oA s.P) (oB s.P))
noncomputable def laidM (s : SS) (m : Nat) : SS := s.laid (oA s.P) (oB s.P) m
end Go.Proofs.St
namespace Go.Proofs.St
open Go Go.Sim Go.Proofs Go.Proofs.YtiihmkiiojlcaaaDoor
theorem copiedR_vc (n k : Nat) (bs : Nat → Int) (ff : Nat → Nat → CV) (K : Res → Orc → Prop) : runK Tryd.prog 1000000 (.code (loopAt Tryd.prog 34 0) 22 (mkT [(0, .sv 1 n (iF bs)),
  (3, .lr 0 1 0 n false), (4, .i .i64 (Int.ofNat k))]) (mkH [some (.rows 5 1 n ff)])) (Orc.s Orc.z Orc.z) K = ((decide (Int.ofNat k < Int.ofNat n) = true → ((0 : Int) ≤ Int.ofNat k
  ∧ Int.ofNat k < ↑n) ∧ True ∧ ((0 : Int) ≤ Int.ofNat k ∧ Int.ofNat k < ↑n) ∧ k < n ∧ ((-9223372036854775808 : Int) ≤ Int.ofNat k + (1 : Int) ∧ Int.ofNat k + (1 : Int) ≤
  (9223372036854775807 : Int)) ∧ K (Res.st XO.nrm (z1 (AV.sv 1 n (iF bs)) (z0 (z1 (AV.lr 0 1 0 n false) (z0 (zl (AV.i .i64 (Int.ofNat k))) T.e) (z1 (AV.b (decide (Int.ofNat k <
  Int.ofNat n))) (zl (AV.i .u8 (bs k))) T.e)) (z0 (z1 (AV.sv 1 n (iF bs)) (zl (AV.i .i64 (Int.ofNat k))) T.e) (zl (AV.i .i64 (Int.ofNat k + (1 : Int)))))) (z0 (z1 (AV.i .i64
  (Int.ofNat k + (1 : Int))) (z1 (AV.i .i64 (Int.ofNat k)) (zl (AV.sv 1 n (iF bs))) T.e) (z1 (AV.i .i64 (Int.ofNat k)) (zl (AV.pr 0 1 k 0)) T.e)) (z0 (z1 (AV.i .i64 (Int.ofNat n))
  (zl (AV.pv 1 (iF bs k))) T.e) (zl (AV.lr 0 1 0 n false))))) { tree := zl (AObj.rows 5 1 n (setRow ff k 0 [CV.i .u8 (bs k)])), next := 1, log := [0] }) Orc.z) ∧ (decide (Int.ofNat
  k < Int.ofNat n) = false → K (Res.st (XO.exit 0) (z1 (AV.sv 1 n (iF bs)) (z0 (z1 (AV.lr 0 1 0 n false) T.e (zl (AV.b (decide (Int.ofNat k < Int.ofNat n))))) (z0 (zl (AV.sv 1 n (iF
  bs))) T.e)) (z0 (z1 (AV.i .i64 (Int.ofNat k)) (zl (AV.i .i64 (Int.ofNat k))) T.e) (z0 (zl (AV.i .i64 (Int.ofNat n))) T.e))) { tree := zl (AObj.rows 5 1 n ff), next := 1, log := [] })
  Orc.z)) := by kernel_rfl
theorem copied_vc (n : Nat) (bs : Nat → Int) (K : Res → Orc → Prop) : runK Tryd.prog 1000000 (.call 34 [.sv 1 n (iF bs)] (mkH [])) (Orc.s (Orc.lop [0] [0, 3, 4] 0 (XO.exit 0) [(3,
  AV.lr 0 1 0 n false)] [some (AObj.rows 5 1 n (iF bs))] Orc.z) Orc.z) K = (((0 : Int) ≤ Int.ofNat n ∧ Int.ofNat n ≤ Int.ofNat n ∧ Int.ofNat n ≤ (1073741824 : Int)) ∧ LDoes Tryd.prog
  (loopAt Tryd.prog 34 0) 22 0 (mkT [(0, AV.sv 1 n (iF bs)), (3, AV.lr 0 1 0 n false), (4, AV.i .i64 (0 : Int))]) [some (AObj.rows 5 1 n fun x j => List.getD [CV.i .u8 (0 : Int)] j
  CV.p0)] (XO.exit 0) (mkT [(3, AV.lr 0 1 0 n false)]) [some (AObj.rows 5 1 n (iF bs))] ∧ K (Res.rv (AV.lr 1 1 0 n false) { tree := z0 (zl (AObj.rows 5 1 n (iF bs))) T.e, next := 2, log := [1, 0, 0] })
  Orc.z) := by kernel_rfl
noncomputable def cpF (b : Nat → Int) (k : Nat) : Nat → Nat → CV := fun i _ => .i .u8 (bif Nat.blt i k then b i else 0)
theorem cp_step (b : Nat → Int) (n k : Nat) : OEq (some (.rows 5 1 n (setRow (cpF b k) k 0 [.i .u8 (b k)]))) (some (.rows 5 1 n (cpF b (k + 1)))) := by
  refine .rows fun i j hi hj => ?_
  have : j = 0 := by omega
  subst this
  show CV.i .u8 (bif Nat.beq i k then b k else (bif Nat.blt i k then b i else 0)) = CV.i .u8 (bif Nat.blt i (k + 1) then b i else 0)
  by_cases h : i = k
  · subst h
    rw [Nat.beq_refl, cond_true, show Nat.blt i (i + 1) = true by rw [Nat.blt_eq]; omega, cond_true]
  · rw [show Nat.beq i k = false by rw [Bool.eq_false_iff, ne_eq, Nat.beq_eq]; exact h, cond_false]
    by_cases h2 : i < k
    · rw [show Nat.blt i k = true by rw [Nat.blt_eq]; exact h2, show Nat.blt i (k + 1) = true by rw [Nat.blt_eq]; omega]
    · rw [show Nat.blt i k = false by rw [Bool.eq_false_iff, ne_eq, Nat.blt_eq]; exact h2, show Nat.blt i (k + 1) = false by rw [Bool.eq_false_iff, ne_eq, Nat.blt_eq]; omega]
theorem copiedL_lp (n : Nat) (bs : Nat → Int) (hn : n ≤ 1073741824) : LDoes Tryd.prog (loopAt Tryd.prog 34 0) 22 0 (mkT [(0, .sv 1 n (iF bs)), (3, .lr 0 1 0 n false), (4, .i .i64 0)]) [some (.rows 5 1 n (cpF bs 0))] (.exit 0) (mkT [(3, .lr 0 1 0 n false)]) [some (.rows 5 1 n (iF bs))] := by
  refine loop_indE (D := Nat) (l' := [(3, .lr 0 1 0 n false)]) (fun k => ([(0, .sv 1 n (iF bs)), (3, .lr 0 1 0 n false), (4, .i .i64 (Int.ofNat k))], [some (.rows 5 1 n (cpF bs k))])) (fun k => n - k) (fun k => k ≤ n) ?_ 0 (Nat.zero_le n)
  intro k hk
  refine ⟨Nat.zero_le _, 1000000, _, (copiedR_vc n k bs (cpF bs k) _).mpr ⟨fun h => ?_, fun h => ?_⟩⟩
  · have hlt : k < n := by have := of_decide_eq_true h; simp at this; omega
    exact ⟨⟨by simp, by simp; omega⟩, trivial, ⟨by simp, by simp; omega⟩, hlt, ⟨by simp <;> omega, by simp <;> omega⟩, .inl ⟨k + 1, [0], [], _, _, _, hlt, by show n - (k + 1) < n - k; omega, rfl,
      st_is [0] (objs := [some (.rows 5 1 n (setRow (cpF bs k) k 0 [.i .u8 (bs k)]))]) (by kernel_rfl) rfl rfl rfl ⟨by kernel_rfl, by kernel_rfl, trivial⟩ rfl, cp_step bs n k, trivial⟩⟩
  · have hge : ¬ k < n := by have := of_decide_eq_false h; simp at this; omega
    refine .inr ⟨[0], [], _, _, _, rfl, by simp, st_is [0] (objs := [some (.rows 5 1 n (cpF bs k))]) (by kernel_rfl) rfl rfl rfl ⟨by kernel_rfl, by kernel_rfl, trivial⟩ rfl, .rows fun i j hi hj => ?_, trivial⟩
    show CV.i .u8 (bif Nat.blt i k then bs i else 0) = CV.i .u8 (bs i)
    rw [show Nat.blt i k = true by rw [Nat.blt_eq]; omega, cond_true]
theorem copied_con (n : Nat) (bs : Nat → Int) (hn : n ≤ 1073741824) : Con Tryd.prog 34 [.sv 1 n (iF bs)] [] (.sv 1 n (iF bs)) [] :=
  con_of_run [1] [] ((copied_vc n bs _).mpr ⟨⟨by simp, Int.le_refl _, by simp; omega⟩, (copiedL_lp n bs hn).oeq ⟨.rows fun i j hi hj => by
    have : j = 0 := by omega
    subst this
    show CV.i .u8 (bif Nat.blt i 0 then bs i else 0) = _
    rw [show Nat.blt i 0 = false by rw [Bool.eq_false_iff, ne_eq, Nat.blt_eq]; omega]; exact Eq.refl _, trivial⟩ ⟨.inl rfl, trivial⟩, _, _, rfl, ret_fz [1] ((1 = 1 ∧ 0 + n ≤ n) ∧ True) (by kernel_rfl) (by kernel_rfl) ⟨⟨rfl, by omega⟩, trivial⟩ (by kernel_rfl) rfl (by kernel_rfl) (by kernel_rfl) rfl trivial⟩)
theorem rreadR_vc (s : SS) (i k : Int) (K : Res → Orc → Prop) : runK Tryd.prog 1000000 (.code (loopAt Tryd.prog 30 0) 68 (mkT [(0, .p 0 0), (1, .i .i64 i), (6, .i .i64 k)]) (mkH [some
  (rsA 2 s), some (rsR s), some (rsP s)])) (Orc.s (Orc.s (Orc.cal [] (AV.sv 1 64 fun k_1 x => CV.i .u8 (oB (SS.P s) (Int.toNat k) k_1)) [] Orc.z) Orc.z) Orc.z) K = ((decide ((0 :
  Int) ≤ k) = true → True ∧ ((0 : Int) ≤ k ∧ k < ↑(List.length (SS.P s))) ∧ True ∧ Int.toNat k < List.length (SS.P s) ∧ (decide (Int.ofNat (oA (SS.P s) (Int.toNat k)) = i) = true →
  True ∧ ((0 : Int) ≤ k ∧ k < ↑(List.length (SS.P s))) ∧ True ∧ Int.toNat k < List.length (SS.P s) ∧ Con Tryd.prog 34 [AV.sv 1 64 fun k_1 x => CV.i .u8 (oB (SS.P s) (Int.toNat k)
  k_1)] [] (AV.sv 1 64 fun k_1 x => CV.i .u8 (oB (SS.P s) (Int.toNat k) k_1)) [] ∧ K (Res.st XO.ret (z1 (AV.p 0 0) (z1 (AV.i .i64 i) (z0 (z0 (z0 T.e (zl (AV.pr 2 2 (Int.toNat k)
  0))) (z0 (zl (AV.i .i64 (Int.ofNat (oA (SS.P s) (Int.toNat k))))) T.e)) (z0 (z0 (zl (AV.lr 2 2 0 (List.length (SS.P s)) false)) T.e) (z0 (zl (AV.p 0 0)) T.e))) (z1 (AV.i .i64 (0 :
  Int)) (z0 (z0 (zl (AV.p 0 0)) (zl (AV.sv 1 64 fun q x => CV.i .u8 (oB (SS.P s) (Int.toNat k) q)))) (z0 (zl (AV.b (decide (Int.ofNat (oA (SS.P s) (Int.toNat k)) = i)))) T.e)) (z0
  (z0 (zl (AV.pr 2 2 (Int.toNat k) 0)) T.e) (z1 (AV.b (decide ((0 : Int) ≤ k))) (zl (AV.lr 2 2 0 (List.length (SS.P s)) false)) T.e)))) (z0 (z1 (AV.sv 1 64 fun k_1 x => CV.i .u8 (oB
  (SS.P s) (Int.toNat k) k_1)) (z0 (z0 (zl (AV.p 0 0)) (zl (AV.pr 2 2 (Int.toNat k) 1))) (z0 (zl (AV.i .i64 i)) T.e)) (z0 (z0 (zl (AV.i .i64 k)) T.e) (z1 (AV.i .i64 k) (zl (AV.p 0
  1)) T.e))) (z1 (AV.i .i64 k) (z0 (z0 (zl (AV.p 0 1)) (zl (AV.sv 1 64 fun k_1 x => CV.i .u8 (oB (SS.P s) (Int.toNat k) k_1)))) (z0 (zl (AV.p 0 0)) T.e)) (z0 (z0 (zl (AV.pr 2 2
  (Int.toNat k) 0)) T.e) (z0 (zl (AV.i .i64 k)) T.e))))) { tree := z1 (AObj.cells 51 5 [] (z1 (AV.lr 1 1 0 (SS.n s) false) (z1 (AV.lr 2 2 0 (List.length (SS.P s)) false) (zl (AV.i .i64 (SS.am s))) T.e) (z1 (AV.i .i64 (Int.ofNat (SS.wr s))) (zl (AV.b (SS.off s))) T.e))) (zl (AObj.rows 55 1 (SS.n s) (imgF s))) (zl (AObj.rows 91 2 (List.length (SS.P s)) (penF (oA (SS.P s)) (oB (SS.P s))))), next := 3, log := [] })
  Orc.z) ∧ (decide (Int.ofNat (oA (SS.P s) (Int.toNat k)) = i) = false → ((-9223372036854775808 : Int) ≤ k - (1 : Int) ∧ k - (1 : Int) ≤ (9223372036854775807 : Int)) ∧ K (Res.st
  XO.nrm (z1 (AV.p 0 0) (z1 (AV.i .i64 i) (z0 (z0 (z0 (zl (AV.i .i64 (k - (1 : Int)))) T.e) (z0 (zl (AV.i .i64 (Int.ofNat (oA (SS.P s) (Int.toNat k))))) T.e)) (z0 (z0 (zl (AV.lr 2 2
  0 (List.length (SS.P s)) false)) T.e) T.e)) (z0 (z0 (z0 (zl (AV.p 0 0)) T.e) (z0 (zl (AV.b (decide (Int.ofNat (oA (SS.P s) (Int.toNat k)) = i)))) T.e)) (z0 (z0 (zl (AV.pr 2 2
  (Int.toNat k) 0)) T.e) (zl (AV.b (decide ((0 : Int) ≤ k))))))) (z0 (z0 (z0 (z0 (zl (AV.p 0 0)) T.e) (z0 (zl (AV.i .i64 i)) T.e)) (z0 (z0 (zl (AV.i .i64 k)) T.e) (zl (AV.i .i64
  k)))) (z1 (AV.i .i64 (k - (1 : Int))) (z0 (z0 (zl (AV.p 0 1)) T.e) T.e) (z0 (z0 (zl (AV.pr 2 2 (Int.toNat k) 0)) T.e) (zl (AV.i .i64 k)))))) { tree := z1 (AObj.cells 51 5 [] (z1 (AV.lr 1 1 0 (SS.n s) false) (z1 (AV.lr 2 2 0 (List.length (SS.P s)) false) (zl (AV.i .i64 (SS.am s))) T.e) (z1 (AV.i .i64 (Int.ofNat (SS.wr s))) (zl (AV.b (SS.off s))) T.e))) (zl (AObj.rows 55 1 (SS.n s) (imgF s))) (zl (AObj.rows 91 2 (List.length (SS.P s)) (penF (oA (SS.P s)) (oB (SS.P s))))), next := 3, log := [] })
  Orc.z)) ∧ (decide ((0 : Int) ≤ k) = false → K (Res.st (XO.exit 0) (z1 (AV.p 0 0) (z1 (AV.i .i64 i) T.e (z0 T.e (z0 T.e (zl (AV.b (decide ((0 : Int) ≤ k))))))) (z0 (z0 T.e (z0 T.e
  (zl (AV.i .i64 k)))) (zl (AV.i .i64 k)))) { tree := z1 (AObj.cells 51 5 [] (z1 (AV.lr 1 1 0 (SS.n s) false) (z1 (AV.lr 2 2 0 (List.length (SS.P s)) false) (zl (AV.i .i64 (SS.am s))) T.e) (z1 (AV.i .i64 (Int.ofNat (SS.wr s))) (zl (AV.b (SS.off s))) T.e))) (zl (AObj.rows 55 1 (SS.n s) (imgF s))) (zl (AObj.rows 91 2 (List.length (SS.P s)) (penF (oA (SS.P s)) (oB (SS.P s))))), next := 3, log := [] })
  Orc.z)) := by kernel_rfl
theorem rbarR_vc (s : SS) (k : Nat) (ff : Nat → Nat → CV) (K : Res → Orc → Prop) : runK Tryd.prog 1000000 (.code (loopAt Tryd.prog 40 0) 42 (mkT [(0, .p 0 0), (3, .i .i64 (Int.ofNat
  k))]) (mkH [some (rsA 2 s), some (.rows 55 1 s.n ff), some (rsP s)])) (Orc.s (Orc.cal [] (AV.sv 1 64 fun k_1 x => CV.i .u8 (oB (SS.P s) k k_1)) [] Orc.z) Orc.z) K = (True ∧
  (decide (Int.ofNat k < Int.ofNat (List.length (SS.P s))) = true → True ∧ True ∧ ((0 : Int) ≤ Int.ofNat k ∧ Int.ofNat k < ↑(List.length (SS.P s))) ∧ True ∧ k < List.length (SS.P s)
  ∧ True ∧ ((0 : Int) ≤ Int.ofNat k ∧ Int.ofNat k < ↑(List.length (SS.P s))) ∧ True ∧ k < List.length (SS.P s) ∧ Con Tryd.prog 34 [AV.sv 1 64 fun k_1 x => CV.i .u8 (oB (SS.P s) k
  k_1)] [] (AV.sv 1 64 fun k_1 x => CV.i .u8 (oB (SS.P s) k k_1)) [] ∧ ((0 : Int) ≤ Int.ofNat (oA (SS.P s) k) ∧ Int.ofNat (oA (SS.P s) k) < ↑(SS.n s)) ∧ oA (SS.P s) k < SS.n s ∧
  ((-9223372036854775808 : Int) ≤ Int.ofNat k + (1 : Int) ∧ Int.ofNat k + (1 : Int) ≤ (9223372036854775807 : Int)) ∧ K (Res.st XO.nrm (z1 (AV.p 0 0) (z0 (z1 (AV.i .i64 (Int.ofNat k
  + (1 : Int))) (z0 (z1 (AV.i .i64 (Int.ofNat k)) (zl (AV.p 0 1)) T.e) (zl (AV.p 0 1))) (z1 (AV.p 0 1) (z1 (AV.p 0 0) (zl (AV.pr 2 2 k 1)) T.e) (zl (AV.pr 2 2 k 0)))) (z0 (z1 (AV.p
  0 0) (z1 (AV.p 0 0) (zl (AV.i .i64 (Int.ofNat k))) T.e) (zl (AV.i .i64 (Int.ofNat k)))) (z1 (AV.i .i64 (Int.ofNat (List.length (SS.P s)))) (z1 (AV.p 0 0) (zl (AV.sv 1 64 fun k_1 x
  => CV.i .u8 (oB (SS.P s) k k_1))) T.e) (zl (AV.p 0 0))))) (z0 (z0 (z1 (AV.i .i64 (Int.ofNat k)) (z1 (AV.i .i64 (Int.ofNat k + (1 : Int))) (zl (AV.lr 2 2 0 (List.length (SS.P s))
  false)) T.e) (zl (AV.lr 2 2 0 (List.length (SS.P s)) false))) (z1 (AV.lr 2 2 0 (List.length (SS.P s)) false) (z1 (AV.lr 1 1 0 (SS.n s) false) (zl (AV.sv 1 64 fun q x => CV.i .u8
  (oB (SS.P s) k q))) T.e) (zl (AV.i .i64 (Int.ofNat (oA (SS.P s) k)))))) (z0 (z1 (AV.p 0 0) (z1 (AV.p 0 0) (zl (AV.pr 2 2 k 0)) T.e) (zl (AV.pr 2 2 k 0))) (z1 (AV.b (decide
  (Int.ofNat k < Int.ofNat (List.length (SS.P s))))) (z1 (AV.p 0 0) (zl (AV.pr 1 1 (oA (SS.P s) k) 0)) T.e) (zl (AV.p 0 0)))))) { tree := z1 (AObj.cells 51 5 [] (z1 (AV.lr 1 1 0 (SS.n s) false) (z1 (AV.lr 2 2 0 (List.length (SS.P s)) false) (zl (AV.i .i64 (SS.am s))) T.e) (z1 (AV.i .i64 (Int.ofNat (SS.wr s))) (zl (AV.b (SS.off s))) T.e))) (zl (AObj.rows 55 1 (SS.n s) (setRow ff (oA (SS.P s) k) 0 [CV.sv 1 64 fun k_1 x => CV.i .u8 (oB (SS.P s) k k_1)]))) (zl (AObj.rows 91 2 (List.length (SS.P s)) (penF (oA (SS.P s)) (oB (SS.P s))))), next := 3, log := [1] })
  Orc.z) ∧ (decide (Int.ofNat k < Int.ofNat (List.length (SS.P s))) = false → K (Res.st (XO.exit 0) (z1 (AV.p 0 0) (z0 (z1 (AV.i .i64 (Int.ofNat k)) T.e (zl (AV.p 0 1))) (z0 (zl
  (AV.p 0 0)) (zl (AV.i .i64 (Int.ofNat (List.length (SS.P s))))))) (z0 (z0 (zl (AV.i .i64 (Int.ofNat k))) (zl (AV.lr 2 2 0 (List.length (SS.P s)) false))) (z0 (zl (AV.p 0 0)) (zl
  (AV.b (decide (Int.ofNat k < Int.ofNat (List.length (SS.P s))))))))) { tree := z1 (AObj.cells 51 5 [] (z1 (AV.lr 1 1 0 (SS.n s) false) (z1 (AV.lr 2 2 0 (List.length (SS.P s)) false) (zl (AV.i .i64 (SS.am s))) T.e) (z1 (AV.i .i64 (Int.ofNat (SS.wr s))) (zl (AV.b (SS.off s))) T.e))) (zl (AObj.rows 55 1 (SS.n s) ff)) (zl (AObj.rows 91 2 (List.length (SS.P s)) (penF (oA (SS.P s)) (oB (SS.P s))))), next := 3, log := [] })
  Orc.z)) := by kernel_rfl
theorem rrevR_vc (s : SS) (k : Nat) (kk : Int) (bt : Bool) (ff : Nat → Nat → CV) (K : Res → Orc → Prop) : runK Tryd.prog 1000000 (.code (loopAt Tryd.prog 15 0) 77 (mkT [(0, .p 0 0),
  (1, .i .i64 kk), (2, .b bt), (7, .i .i64 (Int.ofNat k))]) (mkH [some (rsA 2 s), some (.rows 55 1 s.n ff), some (rsP s)])) (Orc.s (Orc.cal [] (AV.sv 1 64 fun k_1 x => CV.i .u8 (oB
  (SS.P s) k k_1)) [] Orc.z) Orc.z) K = ((decide (Int.ofNat k < kk) = true → True ∧ True ∧ ((0 : Int) ≤ Int.ofNat k ∧ Int.ofNat k < ↑(List.length (SS.P s))) ∧ True ∧ k < List.length
  (SS.P s) ∧ True ∧ ((0 : Int) ≤ Int.ofNat k ∧ Int.ofNat k < ↑(List.length (SS.P s))) ∧ True ∧ k < List.length (SS.P s) ∧ Con Tryd.prog 34 [AV.sv 1 64 fun k_1 x => CV.i .u8 (oB (SS.P
  s) k k_1)] [] (AV.sv 1 64 fun k_1 x => CV.i .u8 (oB (SS.P s) k k_1)) [] ∧ ((0 : Int) ≤ Int.ofNat (oA (SS.P s) k) ∧ Int.ofNat (oA (SS.P s) k) < ↑(SS.n s)) ∧ oA (SS.P s) k < SS.n s
  ∧ ((-9223372036854775808 : Int) ≤ Int.ofNat k + (1 : Int) ∧ Int.ofNat k + (1 : Int) ≤ (9223372036854775807 : Int)) ∧ K (Res.st XO.nrm (z1 (AV.p 0 0) (z1 (AV.i .i64 kk) (z0 (z1
  (AV.i .i64 (Int.ofNat k + (1 : Int))) (z0 (zl (AV.p 0 0)) (zl (AV.pr 1 1 (oA (SS.P s) k) 0))) (z1 (AV.b (decide (Int.ofNat k < kk))) (zl (AV.p 0 0)) T.e)) (z0 (z0 (zl (AV.pr 2 2 k
  0)) T.e) (z1 (AV.p 0 0) (zl (AV.pr 2 2 k 0)) T.e))) (z0 (z0 (z0 (zl (AV.lr 2 2 0 (List.length (SS.P s)) false)) T.e) (z1 (AV.i .i64 (Int.ofNat k + (1 : Int))) (zl (AV.lr 2 2 0
  (List.length (SS.P s)) false)) T.e)) (z0 (z1 (AV.i .i64 (Int.ofNat k)) (zl (AV.i .i64 (Int.ofNat (oA (SS.P s) k)))) T.e) (z1 (AV.lr 1 1 0 (SS.n s) false) (zl (AV.sv 1 64 fun q x
  => CV.i .u8 (oB (SS.P s) k q))) T.e)))) (z1 (AV.b bt) (z0 (z0 (z0 (zl (AV.p 0 1)) T.e) (z1 (AV.i .i64 (Int.ofNat k)) (zl (AV.p 0 1)) T.e)) (z0 (z0 (zl (AV.pr 2 2 k 0)) T.e) (z1
  (AV.p 0 0) (zl (AV.pr 2 2 k 1)) T.e))) (z0 (z0 (z0 (zl (AV.i .i64 (Int.ofNat k))) T.e) (z1 (AV.p 0 0) (zl (AV.i .i64 (Int.ofNat k))) T.e)) (z0 (z1 (AV.i .i64 kk) (zl (AV.p 0 0))
  T.e) (z1 (AV.p 0 0) (zl (AV.sv 1 64 fun k_1 x => CV.i .u8 (oB (SS.P s) k k_1))) T.e))))) { tree := z1 (AObj.cells 51 5 [] (z1 (AV.lr 1 1 0 (SS.n s) false) (z1 (AV.lr 2 2 0 (List.length (SS.P s)) false) (zl (AV.i .i64 (SS.am s))) T.e) (z1 (AV.i .i64 (Int.ofNat (SS.wr s))) (zl (AV.b (SS.off s))) T.e))) (zl (AObj.rows 55 1 (SS.n s) (setRow ff (oA (SS.P s) k) 0 [CV.sv 1 64 fun k_1 x => CV.i .u8 (oB (SS.P s) k k_1)]))) (zl (AObj.rows 91 2 (List.length (SS.P s)) (penF (oA (SS.P s)) (oB (SS.P s))))), next := 3, log := [1] })
  Orc.z) ∧ (decide (Int.ofNat k < kk) = false → K (Res.st (XO.exit 0) (z1 (AV.p 0 0) (z1 (AV.i .i64 kk) (z0 (z1 (AV.i .i64 (Int.ofNat k)) T.e (zl (AV.b (decide (Int.ofNat k <
  kk))))) T.e) (z0 T.e (z0 (zl (AV.i .i64 (Int.ofNat k))) T.e))) (z1 (AV.b bt) T.e (z0 T.e (z0 (zl (AV.i .i64 kk)) T.e)))) { tree := z1 (AObj.cells 51 5 [] (z1 (AV.lr 1 1 0 (SS.n s) false) (z1 (AV.lr 2 2 0 (List.length (SS.P s)) false) (zl (AV.i .i64 (SS.am s))) T.e) (z1 (AV.i .i64 (Int.ofNat (SS.wr s))) (zl (AV.b (SS.off s))) T.e))) (zl (AObj.rows 55 1 (SS.n s) ff)) (zl (AObj.rows 91 2 (List.length (SS.P s)) (penF (oA (SS.P s)) (oB (SS.P s))))), next := 3, log := [] })
  Orc.z)) := by kernel_rfl
theorem drop_s (P : PW) {m : Nat} (h : m < P.length) : P.drop (P.length - (m + 1)) = nthW P m :: P.drop (P.length - m) := by
  have e1 : P.length - 1 - m = P.length - (m + 1) := by omega
  unfold nthW
  rw [e1]
  cases h2 : P.drop (P.length - (m + 1)) with
  | nil => have := congrArg List.length h2; simp at this; omega
  | cons w Q => rw [show P.length - m = (P.length - (m + 1)) + 1 by omega, ← List.drop_drop, h2]; rfl
noncomputable def kI (m : Nat) : Int := match m with
  | 0 => -1
  | m + 1 => Int.ofNat m
theorem kI_eq : ∀ m, kI m = Int.ofNat m - 1
  | 0 => rfl
  | m + 1 => by show Int.ofNat m = Int.ofNat (m + 1) - 1; simp
noncomputable def rdI (s : SS) (i : Int) (m : Nat) : List (Nat × AV) × List (Option AObj) := ([(0, .p 0 0), (1, .i .i64 i), (6, .i .i64 (kI m))], [some (rsA 2 s), some (rsR s), some (rsP s)])
theorem pen_lt {s : SS} {m : Nat} (h : m < s.P.length) : (0 : Int) ≤ Int.ofNat m ∧ Int.ofNat m < (s.P.length : Int) := ⟨by simp, by simp; omega⟩
theorem rreadH_lp (s : SS) (q : Nat) (h : lB s.P q = true) (hl : s.P.length ≤ 1073741824) :
    LDoes Tryd.prog (loopAt Tryd.prog 30 0) 68 3 (mkT [(0, .p 0 0), (1, .i .i64 (Int.ofNat q)), (6, .i .i64 (Int.ofNat s.P.length - 1))]) [some (rsA 2 s), some (rsR s), some (rsP s)] .ret
      (mkT [(4, .sv 1 64 fun j _ => .i .u8 (lbs s.P (Int.toNat (Int.ofNat q)) j)), (5, .i .i64 0)]) [some (rsA 2 s), some (rsR s), some (rsP s)] := by
  rw [← kI_eq]
  refine loop_indV (D := Nat) (l' := [(4, .sv 1 64 fun j _ => .i .u8 (lbs s.P (Int.toNat (Int.ofNat q)) j)), (5, .i .i64 0)]) (rdI s (Int.ofNat q)) (fun m => m)
    (fun m => m ≤ s.P.length ∧ lB (s.P.drop (s.P.length - m)) q = true ∧ lbs (s.P.drop (s.P.length - m)) q = lbs s.P q) ?_ s.P.length ⟨Nat.le_refl _, by simpa using h, by simp⟩
  rintro m ⟨hm, hb, he⟩
  refine ⟨by simp [rdI], 1000000, ?_⟩
  cases m with
  | zero => simp [lB] at hb
  | succ m =>
    rw [drop_s s.P (by omega)] at hb he
    refine ⟨_, (rreadR_vc s (Int.ofNat q) (Int.ofNat m) _).mpr ⟨fun _ => ⟨trivial, pen_lt (by omega), trivial, by show m < _; omega, fun h0 => ?_, fun h0 => ?_⟩, fun h0 => absurd (of_decide_eq_false h0) (by simp)⟩⟩
    · have hq : (nthW s.P m).1 = q := by have := of_decide_eq_true h0; exact Int.ofNat.inj this
      have e2 : oB s.P m = lbs s.P q := by
        rw [← he]
        show (nthW s.P m).2 = (bif Nat.beq q (nthW s.P m).1 then (nthW s.P m).2 else lbs (s.P.drop (s.P.length - m)) q)
        rw [hq, Nat.beq_refl]; rfl
      refine ⟨trivial, pen_lt (by omega), trivial, by show m < _; omega, copied_con 64 _ (by decide), .inr ⟨[0, 1, 2], [], _, _, [(4, .sv 1 64 fun j _ => .i .u8 (oB s.P m j)), (5, .i .i64 0)], [some (rsA 2 s), some (rsR s), some (rsP s)], rfl, by simp,
        st_is [0, 1, 2] (by kernel_rfl) rfl rfl rfl (by refine ⟨?_, ?_, ?_, ?_, ?_, ?_, trivial⟩ <;> kernel_rfl) rfl, ?_, .refl _⟩⟩
      rw [e2]; exact .refl _
    · have hq : ¬ q = (nthW s.P m).1 := fun e => by have := of_decide_eq_false h0; exact this (by show Int.ofNat (nthW s.P m).1 = Int.ofNat q; rw [← e])
      have hbq : Nat.beq q (nthW s.P m).1 = false := by rw [Bool.eq_false_iff, ne_eq, Nat.beq_eq]; exact hq
      have hb' : lB (s.P.drop (s.P.length - m)) q = true := by
        have : (bif Nat.beq q (nthW s.P m).1 then true else lB (s.P.drop (s.P.length - m)) q) = true := hb
        rwa [hbq] at this
      have he' : lbs (s.P.drop (s.P.length - m)) q = lbs s.P q := by
        have : (bif Nat.beq q (nthW s.P m).1 then (nthW s.P m).2 else lbs (s.P.drop (s.P.length - m)) q) = lbs s.P q := he
        rwa [hbq] at this
      refine ⟨⟨by simp; omega, by simp; omega⟩, .inl ⟨m, [0, 1, 2], [], _, _, [(0, .p 0 0), (1, .i .i64 (Int.ofNat q)), (6, .i .i64 (Int.ofNat m - 1))], [some (rsA 2 s), some (rsR s), some (rsP s)], ⟨by omega, hb', he'⟩, Nat.lt_succ_self m, rfl,
        st_is [0, 1, 2] (by kernel_rfl) rfl rfl rfl (by refine ⟨?_, ?_, ?_, ?_, ?_, ?_, trivial⟩ <;> kernel_rfl) rfl, ?_, .refl _⟩⟩
      unfold rdI
      rw [kI_eq]; exact .refl _
theorem rreadM_lp (s : SS) (q : Nat) (h : lB s.P q = false) (hl : s.P.length ≤ 1073741824) :
    LDoes Tryd.prog (loopAt Tryd.prog 30 0) 68 3 (mkT [(0, .p 0 0), (1, .i .i64 (Int.ofNat q)), (6, .i .i64 (Int.ofNat s.P.length - 1))]) [some (rsA 2 s), some (rsR s), some (rsP s)] (.exit 0)
      (mkT [(0, .p 0 0), (1, .i .i64 (Int.ofNat q))]) [some (rsA 2 s), some (rsR s), some (rsP s)] := by
  rw [← kI_eq]
  refine loop_indV (D := Nat) (l' := [(0, .p 0 0), (1, .i .i64 (Int.ofNat q))]) (rdI s (Int.ofNat q)) (fun m => m)
    (fun m => m ≤ s.P.length ∧ lB (s.P.drop (s.P.length - m)) q = false) ?_ s.P.length ⟨Nat.le_refl _, by simpa using h⟩
  rintro m ⟨hm, hb⟩
  refine ⟨by simp [rdI], 1000000, ?_⟩
  cases m with
  | zero =>
    exact ⟨_, (rreadR_vc s (Int.ofNat q) (-1) _).mpr ⟨fun h0 => absurd (of_decide_eq_true h0) (by simp), fun _ => .inr ⟨[0, 1, 2], [], _, _, [(0, .p 0 0), (1, .i .i64 (Int.ofNat q))], [some (rsA 2 s), some (rsR s), some (rsP s)], rfl, by simp,
        st_is [0, 1, 2] (by kernel_rfl) rfl rfl rfl (by refine ⟨?_, ?_, ?_, ?_, ?_, ?_, trivial⟩ <;> kernel_rfl) rfl, .refl _, .refl _⟩⟩⟩
  | succ m =>
    rw [drop_s s.P (by omega)] at hb
    have hbq : Nat.beq q (nthW s.P m).1 = false := by
      have : (bif Nat.beq q (nthW s.P m).1 then true else lB (s.P.drop (s.P.length - m)) q) = false := hb
      cases hh : Nat.beq q (nthW s.P m).1 with
      | false => rfl
      | true => rw [hh] at this; cases this
    have hb' : lB (s.P.drop (s.P.length - m)) q = false := by
      have : (bif Nat.beq q (nthW s.P m).1 then true else lB (s.P.drop (s.P.length - m)) q) = false := hb
      rwa [hbq] at this
    refine ⟨_, (rreadR_vc s (Int.ofNat q) (Int.ofNat m) _).mpr ⟨fun _ => ⟨trivial, pen_lt (by omega), trivial, by show m < _; omega, fun h0 => ?_, fun h0 => ?_⟩, fun h0 => absurd (of_decide_eq_false h0) (by simp)⟩⟩
    · have hq : (nthW s.P m).1 = q := by have := of_decide_eq_true h0; exact Int.ofNat.inj this
      rw [hq, Nat.beq_refl] at hbq; cases hbq
    · refine ⟨⟨by simp; omega, by simp; omega⟩, .inl ⟨m, [0, 1, 2], [], _, _, [(0, .p 0 0), (1, .i .i64 (Int.ofNat q)), (6, .i .i64 (Int.ofNat m - 1))], [some (rsA 2 s), some (rsR s), some (rsP s)], ⟨by omega, hb'⟩, Nat.lt_succ_self m, rfl,
        st_is [0, 1, 2] (by kernel_rfl) rfl rfl rfl (by refine ⟨?_, ?_, ?_, ?_, ?_, ?_, trivial⟩ <;> kernel_rfl) rfl, ?_, .refl _⟩⟩
      unfold rdI
      rw [kI_eq]; exact .refl _
theorem img_lay (s : SS) (q : Nat) (b : Nat → Int) (i j : Nat) (hj : j < 1) : CW (setRow (imgF s) q 0 [.sv 1 64 fun k _ => .i .u8 (b k)] i j) (imgF (s.lay q b false) i j) := by
  have : j = 0 := by omega
  subst this
  refine (zipCV_CW (Nat.beq i q) (CV.sv 1 64 fun k _ => .i .u8 (b k)) (imgF s i 0)).trans (.of ?_)
  show (bif Nat.beq i q then CV.sv 1 64 (fun k _ => .i .u8 (b k)) else .sv 1 (bif s.torn i then 0 else 64) fun k _ => .i .u8 (s.dur i k)) = (.sv 1 (bif (bif Nat.beq i q then false else s.torn i) then 0 else 64) fun k _ => .i .u8 ((bif Nat.beq i q then b else s.dur i) k))
  cases h : Nat.beq i q with
  | true => exact Eq.refl _
  | false => exact Eq.refl _
theorem oA_lt {s : SS} (ha : ∀ w ∈ s.P, w.1 < s.n) {m : Nat} (h : m < s.P.length) : (0 : Int) ≤ Int.ofNat (oA s.P m) ∧ Int.ofNat (oA s.P m) < (s.n : Int) := by
  have hm : nthW s.P m ∈ s.P := by
    have := drop_s s.P h
    exact List.mem_of_mem_drop (by rw [this]; exact List.mem_cons_self ..)
  exact ⟨by simp, by show (((nthW s.P m).1 : Nat) : Int) < _; have := ha _ hm; omega⟩
noncomputable def rbI (s : SS) (m : Nat) : List (Nat × AV) × List (Option AObj) := ([(0, .p 0 0), (3, .i .i64 (Int.ofNat m))], [some (rsA 2 s), some (.rows 55 1 s.n (imgF (laidM s m))), some (rsP s)])
theorem rbarG_lp (s : SS) (hl : s.P.length ≤ 1073741824) (ha : ∀ w ∈ s.P, w.1 < s.n) :
    LDoes Tryd.prog (loopAt Tryd.prog 40 0) 42 3 (mkT [(0, .p 0 0), (3, .i .i64 0)]) [some (rsA 2 s), some (rsR s), some (rsP s)] (.exit 0) (mkT [(0, .p 0 0)]) [some (rsA 2 s), some (.rows 55 1 s.n (imgF (laidM s s.P.length))), some (rsP s)] := by
  refine loop_indV (D := Nat) (l' := [(0, .p 0 0)]) (rbI s) (fun m => s.P.length - m) (fun m => m ≤ s.P.length) ?_ 0 (Nat.zero_le _)
  intro m hm
  refine ⟨by simp [rbI], 1000000, _, (rbarR_vc s m (imgF (laidM s m)) _).mpr ⟨trivial, fun h0 => ?_, fun h0 => ?_⟩⟩
  · have hlt : m < s.P.length := by have := of_decide_eq_true h0; simp at this; omega
    have h1 := pen_lt hlt
    have h2 := oA_lt ha hlt
    exact ⟨trivial, trivial, h1, trivial, hlt, trivial, h1, trivial, hlt, copied_con 64 _ (by decide), h2, by have := h2.2; simp at this; omega, ⟨by simp; omega, by simp; omega⟩,
      .inl ⟨m + 1, [0, 1, 2], [], _, _, [(0, .p 0 0), (3, .i .i64 (Int.ofNat m + 1))], [some (rsA 2 s), some (.rows 55 1 s.n (setRow (imgF (laidM s m)) (oA s.P m) 0 [.sv 1 64 fun k _ => .i .u8 (oB s.P m k)])), some (rsP s)], hlt, by show s.P.length - (m + 1) < s.P.length - m; omega, rfl,
        st_is [0, 1, 2] (by kernel_rfl) rfl rfl rfl (by refine ⟨?_, ?_, ?_, ?_, ?_, ?_, trivial⟩ <;> kernel_rfl) rfl, .refl _, .refl _, .rowsW fun i j _ hj => img_lay _ _ _ i j hj, .refl _, trivial⟩⟩
  · have : m = s.P.length := by have := of_decide_eq_false h0; simp at this; omega
    subst this
    exact .inr ⟨[0, 1, 2], [], _, _, [(0, .p 0 0)], [some (rsA 2 s), some (.rows 55 1 s.n (imgF (laidM s s.P.length))), some (rsP s)], rfl, by simp,
        st_is [0, 1, 2] (by kernel_rfl) rfl rfl rfl (by refine ⟨?_, ?_, ?_, ?_, ?_, ?_, trivial⟩ <;> kernel_rfl) rfl, .refl _, .refl _⟩
noncomputable def rvI (s : SS) (kk : Int) (bt : Bool) (m : Nat) : List (Nat × AV) × List (Option AObj) := ([(0, .p 0 0), (1, .i .i64 kk), (2, .b bt), (7, .i .i64 (Int.ofNat m))], [some (rsA 2 s), some (.rows 55 1 s.n (imgF (laidM s m))), some (rsP s)])
theorem rrevG_lp (s : SS) (kk : Int) (bt : Bool) (hl : s.P.length ≤ 1073741824) (ha : ∀ w ∈ s.P, w.1 < s.n) (k0 : 0 ≤ kk) (k1 : kk ≤ Int.ofNat s.P.length) :
    LDoes Tryd.prog (loopAt Tryd.prog 15 0) 77 3 (mkT [(0, .p 0 0), (1, .i .i64 kk), (2, .b bt), (7, .i .i64 0)]) [some (rsA 2 s), some (rsR s), some (rsP s)] (.exit 0) (mkT [(0, .p 0 0), (1, .i .i64 kk), (2, .b bt)]) [some (rsA 2 s), some (.rows 55 1 s.n (imgF (laidM s kk.toNat))), some (rsP s)] := by
  refine loop_indV (D := Nat) (l' := [(0, .p 0 0), (1, .i .i64 kk), (2, .b bt)]) (rvI s kk bt) (fun m => s.P.length - m) (fun m => Int.ofNat m ≤ kk) ?_ 0 k0
  intro m hm
  refine ⟨by simp [rvI], 1000000, _, (rrevR_vc s m kk bt (imgF (laidM s m)) _).mpr ⟨fun h0 => ?_, fun h0 => ?_⟩⟩
  · have hlt' : Int.ofNat m < kk := of_decide_eq_true h0
    have hlt : m < s.P.length := by simp at hlt' k1; omega
    have h1 := pen_lt hlt
    have h2 := oA_lt ha hlt
    exact ⟨trivial, trivial, h1, trivial, hlt, trivial, h1, trivial, hlt, copied_con 64 _ (by decide), h2, by have := h2.2; simp at this; omega, ⟨by simp; omega, by simp; omega⟩,
      .inl ⟨m + 1, [0, 1, 2], [], _, _, [(0, .p 0 0), (1, .i .i64 kk), (2, .b bt), (7, .i .i64 (Int.ofNat m + 1))], [some (rsA 2 s), some (.rows 55 1 s.n (setRow (imgF (laidM s m)) (oA s.P m) 0 [.sv 1 64 fun k _ => .i .u8 (oB s.P m k)])), some (rsP s)], by show Int.ofNat (m + 1) ≤ kk; simp at hlt' ⊢; omega, by show s.P.length - (m + 1) < s.P.length - m; omega, rfl,
        st_is [0, 1, 2] (by kernel_rfl) rfl rfl rfl (by refine ⟨?_, ?_, ?_, ?_, ?_, ?_, trivial⟩ <;> kernel_rfl) rfl, .refl _, .refl _, .rowsW fun i j _ hj => img_lay _ _ _ i j hj, .refl _, trivial⟩⟩
  · have : m = kk.toNat := by have := of_decide_eq_false h0; simp at this hm; omega
    subst this
    exact .inr ⟨[0, 1, 2], [], _, _, [(0, .p 0 0), (1, .i .i64 kk), (2, .b bt)], [some (rsA 2 s), some (.rows 55 1 s.n (imgF (laidM s kk.toNat))), some (rsP s)], rfl, by simp,
        st_is [0, 1, 2] (by kernel_rfl) rfl rfl rfl (by refine ⟨?_, ?_, ?_, ?_, ?_, ?_, trivial⟩ <;> kernel_rfl) rfl, .refl _, .refl _⟩
theorem rreadH_vc (s : SS) (i : Int) (K : Res → Orc → Prop) : runK Tryd.prog 1000000 (.call 30 [.p 0 0, .i .i64 i] (mkH [some (rsA 2 s), some (rsR s), some (rsP s)])) (Orc.s Orc.z
  (Orc.s (Orc.t (Orc.t (Orc.t (Orc.t (Orc.t (Orc.t (Orc.f (Orc.s Orc.z (Orc.lop [0, 1, 2] [0, 1, 6] 3 XO.ret [(4, AV.sv 1 64 fun q x => CV.i .u8 (lbs (SS.P s) (Int.toNat i) q)), (5,
  AV.i .i64 (0 : Int))] [some (rsA 2 s), some (rsR s), some (rsP s)] Orc.z))))))))) (Orc.f (Orc.f (Orc.f (Orc.f (Orc.f (Orc.f (Orc.t (Orc.c Orc.z)))))))))) K = (True ∧ (SS.off s =
  true → K (Res.rv (AV.tup [AV.l0, AV.i .i64 (13 : Int)]) { tree := z1 (AObj.cells 51 5 [] (z1 (AV.lr 1 1 0 (SS.n s) false) (z1 (AV.lr 2 2 0 (List.length (SS.P s)) false) (zl (AV.i .i64 (SS.am s))) T.e) (z1 (AV.i .i64 (Int.ofNat (SS.wr s))) (zl (AV.b (SS.off s))) T.e))) (zl (AObj.rows 55 1 (SS.n s) (imgF s))) (zl (AObj.rows 91 2 (List.length (SS.P s)) (penF (oA (SS.P s)) (oB (SS.P s))))), next := 3, log := [] })
  Orc.z) ∧ (SS.off s = false → ((!decide (i < (0 : Int))) = true → (!decide (i < (0 : Int))) = true ∧ (!decide (i < (0 : Int))) = true ∧ (!decide (i < (0 : Int))) = true ∧ True ∧
  (!decide (i < (0 : Int))) = true ∧ (!decide (i < (0 : Int))) = true ∧ (!decide (i < (0 : Int))) = true ∧ decide (i < (0 : Int)) = false ∧ (decide (Int.ofNat (SS.n s) ≤ i) = true →
  K (Res.rv (AV.tup [AV.l0, AV.i .i64 (2 : Int)]) { tree := z1 (AObj.cells 51 5 [] (z1 (AV.lr 1 1 0 (SS.n s) false) (z1 (AV.lr 2 2 0 (List.length (SS.P s)) false) (zl (AV.i .i64 (SS.am s))) T.e) (z1 (AV.i .i64 (Int.ofNat (SS.wr s))) (zl (AV.b (SS.off s))) T.e))) (zl (AObj.rows 55 1 (SS.n s) (imgF s))) (zl (AObj.rows 91 2 (List.length (SS.P s)) (penF (oA (SS.P s)) (oB (SS.P s))))), next := 3, log := [] })
  Orc.z) ∧ (decide (Int.ofNat (SS.n s) ≤ i) = false → True ∧ ((-9223372036854775808 : Int) ≤ Int.ofNat (List.length (SS.P s)) - (1 : Int) ∧ Int.ofNat (List.length (SS.P s)) - (1 :
  Int) ≤ (9223372036854775807 : Int)) ∧ LDoes Tryd.prog (loopAt Tryd.prog 30 0) 68 3 (mkT [(0, AV.p 0 0), (1, AV.i .i64 i), (6, AV.i .i64 (Int.ofNat (List.length (SS.P s)) - (1 :
  Int)))]) [some (rsA 2 s), some (rsR s), some (rsP s)] XO.ret (mkT [(4, AV.sv 1 64 fun q x => CV.i .u8 (lbs (SS.P s) (Int.toNat i) q)), (5, AV.i .i64 (0 : Int))]) [some (rsA 2 s),
  some (rsR s), some (rsP s)] ∧ K (Res.rv (AV.tup [AV.sv 1 64 fun q x => CV.i .u8 (lbs (SS.P s) (Int.toNat i) q), AV.i .i64 (0 : Int)]) { tree := z1 (AObj.cells 51 5 [] (z1 (AV.lr 1 1 0 (SS.n s) false) (z1 (AV.lr 2 2 0 (List.length (SS.P s)) false) (zl (AV.i .i64 (SS.am s))) T.e) (z1 (AV.i .i64 (Int.ofNat (SS.wr s))) (zl (AV.b (SS.off s))) T.e))) (zl (AObj.rows 55 1 (SS.n s) (imgF s))) (zl (AObj.rows 91 2 (List.length (SS.P s)) (penF (oA (SS.P s)) (oB (SS.P s))))), next := 3, log := [2, 1, 0] })
  Orc.z)) ∧ ((!decide (i < (0 : Int))) = false → (!decide (i < (0 : Int))) = false ∧ (!decide (i < (0 : Int))) = false ∧ (!decide (i < (0 : Int))) = false ∧ (!decide (i < (0 :
  Int))) = false ∧ (!decide (i < (0 : Int))) = false ∧ (!decide (i < (0 : Int))) = false ∧ decide (i < (0 : Int)) = true ∧ K (Res.rv (AV.tup [AV.l0, AV.i .i64 (2 : Int)]) { tree := z1 (AObj.cells 51 5 [] (z1 (AV.lr 1 1 0 (SS.n s) false) (z1 (AV.lr 2 2 0 (List.length (SS.P s)) false) (zl (AV.i .i64 (SS.am s))) T.e) (z1 (AV.i .i64 (Int.ofNat (SS.wr s))) (zl (AV.b (SS.off s))) T.e))) (zl (AObj.rows 55 1 (SS.n s) (imgF s))) (zl (AObj.rows 91 2 (List.length (SS.P s)) (penF (oA (SS.P s)) (oB (SS.P s))))), next := 3, log := [] })
  Orc.z))) := by kernel_rfl
theorem rreadM_vc (s : SS) (i : Int) (K : Res → Orc → Prop) : runK Tryd.prog 1000000 (.call 30 [.p 0 0, .i .i64 i] (mkH [some (rsA 2 s), some (rsR s), some (rsP s)])) (Orc.s Orc.z
  (Orc.s (Orc.t (Orc.t (Orc.t (Orc.t (Orc.t (Orc.t (Orc.f (Orc.s Orc.z (Orc.lop [0, 1, 2] [0, 1, 6] 3 (XO.exit 0) [(0, AV.p 0 0), (1, AV.i .i64 i)] [some (rsA 2 s), some (rsR s),
  some (rsP s)] (Orc.s Orc.z (Orc.cal [] (AV.sv 1 (bif SS.torn s (Int.toNat i) then 0 else 64) fun k x => CV.i .u8 (SS.dur s (Int.toNat i) k)) [] Orc.z))))))))))) (Orc.f (Orc.f
  (Orc.f (Orc.f (Orc.f (Orc.f (Orc.t (Orc.c Orc.z)))))))))) K = (True ∧ (SS.off s = true → K (Res.rv (AV.tup [AV.l0, AV.i .i64 (13 : Int)]) { tree := z1 (AObj.cells 51 5 [] (z1 (AV.lr 1 1 0 (SS.n s) false) (z1 (AV.lr 2 2 0 (List.length (SS.P s)) false) (zl (AV.i .i64 (SS.am s))) T.e) (z1 (AV.i .i64 (Int.ofNat (SS.wr s))) (zl (AV.b (SS.off s))) T.e))) (zl (AObj.rows 55 1 (SS.n s) (imgF s))) (zl (AObj.rows 91 2 (List.length (SS.P s)) (penF (oA (SS.P s)) (oB (SS.P s))))), next := 3, log := [] })
  Orc.z) ∧ (SS.off s = false → ((!decide (i < (0 : Int))) = true → (!decide (i < (0 : Int))) = true ∧ (!decide (i < (0 : Int))) = true ∧ (!decide (i < (0 : Int))) = true ∧ True ∧
  (!decide (i < (0 : Int))) = true ∧ (!decide (i < (0 : Int))) = true ∧ (!decide (i < (0 : Int))) = true ∧ decide (i < (0 : Int)) = false ∧ (decide (Int.ofNat (SS.n s) ≤ i) = true →
  K (Res.rv (AV.tup [AV.l0, AV.i .i64 (2 : Int)]) { tree := z1 (AObj.cells 51 5 [] (z1 (AV.lr 1 1 0 (SS.n s) false) (z1 (AV.lr 2 2 0 (List.length (SS.P s)) false) (zl (AV.i .i64 (SS.am s))) T.e) (z1 (AV.i .i64 (Int.ofNat (SS.wr s))) (zl (AV.b (SS.off s))) T.e))) (zl (AObj.rows 55 1 (SS.n s) (imgF s))) (zl (AObj.rows 91 2 (List.length (SS.P s)) (penF (oA (SS.P s)) (oB (SS.P s))))), next := 3, log := [] })
  Orc.z) ∧ (decide (Int.ofNat (SS.n s) ≤ i) = false → True ∧ ((-9223372036854775808 : Int) ≤ Int.ofNat (List.length (SS.P s)) - (1 : Int) ∧ Int.ofNat (List.length (SS.P s)) - (1 :
  Int) ≤ (9223372036854775807 : Int)) ∧ LDoes Tryd.prog (loopAt Tryd.prog 30 0) 68 3 (mkT [(0, AV.p 0 0), (1, AV.i .i64 i), (6, AV.i .i64 (Int.ofNat (List.length (SS.P s)) - (1 :
  Int)))]) [some (rsA 2 s), some (rsR s), some (rsP s)] (XO.exit 0) (mkT [(0, AV.p 0 0), (1, AV.i .i64 i)]) [some (rsA 2 s), some (rsR s), some (rsP s)] ∧ True ∧ ((0 : Int) ≤ i ∧ i
  < ↑(SS.n s)) ∧ Int.toNat i < SS.n s ∧ (decide (Int.ofNat (bif SS.torn s (Int.toNat i) then 0 else 64) = (0 : Int)) = true → K (Res.rv (AV.tup [AV.l0, AV.i .i64 (14 : Int)]) { tree := z1 (AObj.cells 51 5 [] (z1 (AV.lr 1 1 0 (SS.n s) false) (z1 (AV.lr 2 2 0 (List.length (SS.P s)) false) (zl (AV.i .i64 (SS.am s))) T.e) (z1 (AV.i .i64 (Int.ofNat (SS.wr s))) (zl (AV.b (SS.off s))) T.e))) (zl (AObj.rows 55 1 (SS.n s) (imgF s))) (zl (AObj.rows 91 2 (List.length (SS.P s)) (penF (oA (SS.P s)) (oB (SS.P s))))), next := 3, log := [2, 1, 0] })
  Orc.z) ∧ (decide (Int.ofNat (bif SS.torn s (Int.toNat i) then 0 else 64) = (0 : Int)) = false → True ∧ ((0 : Int) ≤ i ∧ i < ↑(SS.n s)) ∧ Int.toNat i < SS.n s ∧ Con Tryd.prog 34
  [AV.sv 1 (bif SS.torn s (Int.toNat i) then 0 else 64) fun k x => CV.i .u8 (SS.dur s (Int.toNat i) k)] [] (AV.sv 1 (bif SS.torn s (Int.toNat i) then 0 else 64) fun k x => CV.i .u8
  (SS.dur s (Int.toNat i) k)) [] ∧ K (Res.rv (AV.tup [AV.sv 1 (bif SS.torn s (Int.toNat i) then 0 else 64) fun k x => CV.i .u8 (SS.dur s (Int.toNat i) k), AV.i .i64 (0 : Int)]) { tree := z1 (AObj.cells 51 5 [] (z1 (AV.lr 1 1 0 (SS.n s) false) (z1 (AV.lr 2 2 0 (List.length (SS.P s)) false) (zl (AV.i .i64 (SS.am s))) T.e) (z1 (AV.i .i64 (Int.ofNat (SS.wr s))) (zl (AV.b (SS.off s))) T.e))) (zl (AObj.rows 55 1 (SS.n s) (imgF s))) (zl (AObj.rows 91 2 (List.length (SS.P s)) (penF (oA (SS.P s)) (oB (SS.P s))))), next := 3, log := [2, 1, 0] })
  Orc.z))) ∧ ((!decide (i < (0 : Int))) = false → (!decide (i < (0 : Int))) = false ∧ (!decide (i < (0 : Int))) = false ∧ (!decide (i < (0 : Int))) = false ∧ (!decide (i < (0 :
  Int))) = false ∧ (!decide (i < (0 : Int))) = false ∧ (!decide (i < (0 : Int))) = false ∧ decide (i < (0 : Int)) = true ∧ K (Res.rv (AV.tup [AV.l0, AV.i .i64 (2 : Int)]) { tree := z1 (AObj.cells 51 5 [] (z1 (AV.lr 1 1 0 (SS.n s) false) (z1 (AV.lr 2 2 0 (List.length (SS.P s)) false) (zl (AV.i .i64 (SS.am s))) T.e) (z1 (AV.i .i64 (Int.ofNat (SS.wr s))) (zl (AV.b (SS.off s))) T.e))) (zl (AObj.rows 55 1 (SS.n s) (imgF s))) (zl (AObj.rows 91 2 (List.length (SS.P s)) (penF (oA (SS.P s)) (oB (SS.P s))))), next := 3, log := [] })
  Orc.z))) := by kernel_rfl
theorem rbar_vc (s : SS) (K : Res → Orc → Prop) : runK Tryd.prog 1000000 (.call 40 [.p 0 0] (mkH [some (rsA 2 s), some (rsR s), some (rsP s)])) (Orc.s Orc.z (Orc.lop [0, 1, 2] [0,
  3] 3 (XO.exit 0) [(0, AV.p 0 0)] [some (rsA 2 s), some (AObj.rows 55 1 (SS.n s) (imgF (laidM s (List.length (SS.P s))))), some (rsP s)] Orc.z)) K = (True ∧ (SS.off s = true → K
  (Res.rv (AV.i .i64 (13 : Int)) { tree := z1 (AObj.cells 51 5 [] (z1 (AV.lr 1 1 0 (SS.n s) false) (z1 (AV.lr 2 2 0 (List.length (SS.P s)) false) (zl (AV.i .i64 (SS.am s))) T.e) (z1 (AV.i .i64 (Int.ofNat (SS.wr s))) (zl (AV.b (SS.off s))) T.e))) (zl (AObj.rows 55 1 (SS.n s) (imgF s))) (zl (AObj.rows 91 2 (List.length (SS.P s)) (penF (oA (SS.P s)) (oB (SS.P s))))), next := 3, log := [] })
  Orc.z) ∧ (SS.off s = false → LDoes Tryd.prog (loopAt Tryd.prog 40 0) 42 3 (mkT [(0, AV.p 0 0), (3, AV.i .i64 (0 : Int))]) [some (rsA 2 s), some (rsR s), some (rsP s)] (XO.exit 0)
  (mkT [(0, AV.p 0 0)]) [some (rsA 2 s), some (AObj.rows 55 1 (SS.n s) (imgF (laidM s (List.length (SS.P s))))), some (rsP s)] ∧ True ∧ K (Res.rv (AV.i .i64 (0 : Int)) { tree := z1 (AObj.cells 51 5 [] (z1 (AV.lr 1 1 0 (SS.n s) false) (z1 AV.l0 (zl (AV.i .i64 (SS.am s))) T.e) (z1 (AV.i .i64 (Int.ofNat (SS.wr s))) (zl (AV.b (SS.off s))) T.e))) (zl (AObj.rows 55 1 (SS.n s) (imgF (laidM s (List.length (SS.P s)))))) (zl (AObj.rows 91 2 (List.length (SS.P s)) (penF (oA (SS.P s)) (oB (SS.P s))))), next := 3, log := [0, 2, 1, 0] })
  Orc.z)) := by kernel_rfl
theorem rrev_vc (s : SS) (kk : Int) (bt : Bool) (K : Res → Orc → Prop) : runK Tryd.prog 1000000 (.call 15 [.p 0 0, .i .i64 kk, .b bt] (mkH [some (rsA 2 s), some (rsR s), some (rsP
  s)])) (Orc.s Orc.z (Orc.lop [0, 1, 2] [0, 1, 2, 7] 3 (XO.exit 0) [(0, AV.p 0 0), (1, AV.i .i64 (if Int.ofNat (List.length (SS.P s)) < if (0 : Int) > kk then (0 : Int) else kk then
  Int.ofNat (List.length (SS.P s)) else if (0 : Int) > kk then (0 : Int) else kk)), (2, AV.b bt)] [some (rsA 2 s), some (AObj.rows 55 1 (SS.n s) (imgF (laidM s (Int.toNat (if
  Int.ofNat (List.length (SS.P s)) < if (0 : Int) > kk then (0 : Int) else kk then Int.ofNat (List.length (SS.P s)) else if (0 : Int) > kk then (0 : Int) else kk))))), some (rsP s)]
  (Orc.s (Orc.t (Orc.t (Orc.t (Orc.t (Orc.t (Orc.t (Orc.t (Orc.s Orc.z Orc.z)))))))) (Orc.f (Orc.f (Orc.f (Orc.f (Orc.f (Orc.f (Orc.f (Orc.c Orc.z))))))))))) K = (True ∧ True ∧
  ((!SS.off s) = true → K (Res.rv (AV.i .i64 (26 : Int)) { tree := z1 (AObj.cells 51 5 [] (z1 (AV.lr 1 1 0 (SS.n s) false) (z1 (AV.lr 2 2 0 (List.length (SS.P s)) false) (zl (AV.i .i64 (SS.am s))) T.e) (z1 (AV.i .i64 (Int.ofNat (SS.wr s))) (zl (AV.b (SS.off s))) T.e))) (zl (AObj.rows 55 1 (SS.n s) (imgF s))) (zl (AObj.rows 91 2 (List.length (SS.P s)) (penF (oA (SS.P s)) (oB (SS.P s))))), next := 3, log := [] })
  Orc.z) ∧ ((!SS.off s) = false → True ∧ LDoes Tryd.prog (loopAt Tryd.prog 15 0) 77 3 (mkT [(0, AV.p 0 0), (1, AV.i .i64 (if Int.ofNat (List.length (SS.P s)) < if (0 : Int) > kk then
  (0 : Int) else kk then Int.ofNat (List.length (SS.P s)) else if (0 : Int) > kk then (0 : Int) else kk)), (2, AV.b bt), (7, AV.i .i64 (0 : Int))]) [some (rsA 2 s), some (rsR s),
  some (rsP s)] (XO.exit 0) (mkT [(0, AV.p 0 0), (1, AV.i .i64 (if Int.ofNat (List.length (SS.P s)) < if (0 : Int) > kk then (0 : Int) else kk then Int.ofNat (List.length (SS.P s))
  else if (0 : Int) > kk then (0 : Int) else kk)), (2, AV.b bt)]) [some (rsA 2 s), some (AObj.rows 55 1 (SS.n s) (imgF (laidM s (Int.toNat (if Int.ofNat (List.length (SS.P s)) < if
  (0 : Int) > kk then (0 : Int) else kk then Int.ofNat (List.length (SS.P s)) else if (0 : Int) > kk then (0 : Int) else kk))))), some (rsP s)] ∧ (bt = true → bt = true ∧ bt = true
  ∧ bt = true ∧ True ∧ bt = true ∧ bt = true ∧ bt = true ∧ bt = true ∧ (decide ((if Int.ofNat (List.length (SS.P s)) < if (0 : Int) > kk then (0 : Int) else kk then Int.ofNat
  (List.length (SS.P s)) else if (0 : Int) > kk then (0 : Int) else kk) < Int.ofNat (List.length (SS.P s))) = true → True ∧ True ∧ (((0 : Int) ≤ if Int.ofNat (List.length (SS.P s))
  < if (0 : Int) > kk then (0 : Int) else kk then Int.ofNat (List.length (SS.P s)) else if (0 : Int) > kk then (0 : Int) else kk) ∧ (if Int.ofNat (List.length (SS.P s)) < if (0 :
  Int) > kk then (0 : Int) else kk then Int.ofNat (List.length (SS.P s)) else if (0 : Int) > kk then (0 : Int) else kk) < ↑(List.length (SS.P s))) ∧ True ∧ Int.toNat (if Int.ofNat
  (List.length (SS.P s)) < if (0 : Int) > kk then (0 : Int) else kk then Int.ofNat (List.length (SS.P s)) else if (0 : Int) > kk then (0 : Int) else kk) < List.length (SS.P s) ∧ ((0
  : Int) ≤ Int.ofNat (oA (SS.P s) (Int.toNat (if Int.ofNat (List.length (SS.P s)) < if (0 : Int) > kk then (0 : Int) else kk then Int.ofNat (List.length (SS.P s)) else if (0 : Int)
  > kk then (0 : Int) else kk))) ∧ Int.ofNat (oA (SS.P s) (Int.toNat (if Int.ofNat (List.length (SS.P s)) < if (0 : Int) > kk then (0 : Int) else kk then Int.ofNat (List.length
  (SS.P s)) else if (0 : Int) > kk then (0 : Int) else kk))) < ↑(SS.n s)) ∧ oA (SS.P s) (Int.toNat (if Int.ofNat (List.length (SS.P s)) < if (0 : Int) > kk then (0 : Int) else kk
  then Int.ofNat (List.length (SS.P s)) else if (0 : Int) > kk then (0 : Int) else kk)) < SS.n s ∧ True ∧ True ∧ K (Res.rv (AV.i .i64 (0 : Int)) { tree := z1 (AObj.cells 51 5 [] (z1 (AV.lr 1 1 0 (SS.n s) false) (z1 AV.l0 (zl (AV.i .i64 (SS.am s))) T.e) (z1 (AV.i .i64 (Int.ofNat (SS.wr s))) (zl (AV.b false)) T.e))) (zl (AObj.rows 55 1 (SS.n s) (setRow (imgF (laidM s (Int.toNat (if Int.ofNat (List.length (SS.P s)) < if (0 : Int) > kk then (0 : Int) else kk then Int.ofNat (List.length (SS.P s)) else if (0 : Int) > kk then (0 : Int) else kk)))) (oA (SS.P s) (Int.toNat (if Int.ofNat (List.length (SS.P s)) < if (0 : Int) > kk then (0 : Int) else kk then Int.ofNat (List.length (SS.P s)) else if (0 : Int) > kk then (0 : Int) else kk))) 0 [CV.sv 1 0 fun x x_1 => CV.p0]))) (zl (AObj.rows 91 2 (List.length (SS.P s)) (penF (oA (SS.P s)) (oB (SS.P s))))), next := 3, log := [0, 0, 1, 2, 1, 0] })
  Orc.z) ∧ (decide ((if Int.ofNat (List.length (SS.P s)) < if (0 : Int) > kk then (0 : Int) else kk then Int.ofNat (List.length (SS.P s)) else if (0 : Int) > kk then (0 : Int) else
  kk) < Int.ofNat (List.length (SS.P s))) = false → True ∧ True ∧ K (Res.rv (AV.i .i64 (0 : Int)) { tree := z1 (AObj.cells 51 5 [] (z1 (AV.lr 1 1 0 (SS.n s) false) (z1 AV.l0 (zl (AV.i .i64 (SS.am s))) T.e) (z1 (AV.i .i64 (Int.ofNat (SS.wr s))) (zl (AV.b false)) T.e))) (zl (AObj.rows 55 1 (SS.n s) (imgF (laidM s (Int.toNat (if Int.ofNat (List.length (SS.P s)) < if (0 : Int) > kk then (0 : Int) else kk then Int.ofNat (List.length (SS.P s)) else if (0 : Int) > kk then (0 : Int) else kk)))))) (zl (AObj.rows 91 2 (List.length (SS.P s)) (penF (oA (SS.P s)) (oB (SS.P s))))), next := 3, log := [0, 0, 2, 1, 0] })
  Orc.z)) ∧ (bt = false → bt = false ∧ bt = false ∧ bt = false ∧ bt = false ∧ bt = false ∧ bt = false ∧ bt = false ∧ True ∧ True ∧ K (Res.rv (AV.i .i64 (0 : Int)) { tree := z1 (AObj.cells 51 5 [] (z1 (AV.lr 1 1 0 (SS.n s) false) (z1 AV.l0 (zl (AV.i .i64 (SS.am s))) T.e) (z1 (AV.i .i64 (Int.ofNat (SS.wr s))) (zl (AV.b false)) T.e))) (zl (AObj.rows 55 1 (SS.n s) (imgF (laidM s (Int.toNat (if Int.ofNat (List.length (SS.P s)) < if (0 : Int) > kk then (0 : Int) else kk then Int.ofNat (List.length (SS.P s)) else if (0 : Int) > kk then (0 : Int) else kk)))))) (zl (AObj.rows 91 2 (List.length (SS.P s)) (penF (oA (SS.P s)) (oB (SS.P s))))), next := 3, log := [0, 0, 2, 1, 0] })
  Orc.z))) := by kernel_rfl
theorem rarm_vc (s : SS) (kk : Int) (K : Res → Orc → Prop) : runK Tryd.prog 1000000 (.call 11 [.p 0 0, .i .i64 kk] (mkH [some (rsA 2 s), some (rsR s), some (rsP s)])) (Orc.z) K =
  (True ∧ K (Res.rv (AV.tup []) { tree := z1 (AObj.cells 51 5 [] (z1 (AV.lr 1 1 0 (SS.n s) false) (z1 (AV.lr 2 2 0 (List.length (SS.P s)) false) (zl (AV.i .i64 (if (-1 : Int) > kk then (-1 : Int) else kk))) T.e) (z1 (AV.i .i64 (Int.ofNat (SS.wr s))) (zl (AV.b (SS.off s))) T.e))) (zl (AObj.rows 55 1 (SS.n s) (imgF s))) (zl (AObj.rows 91 2 (List.length (SS.P s)) (penF (oA (SS.P s)) (oB (SS.P s))))), next := 3, log := [0] })
  Orc.z) := by kernel_rfl
theorem rfail_vc (s : SS) (K : Res → Orc → Prop) : runK Tryd.prog 1000000 (.call 13 [.p 0 0] (mkH [some (rsA 2 s), some (rsR s), some (rsP s)])) (Orc.z) K = (True ∧ True ∧ K (Res.rv
  (AV.tup []) { tree := z1 (AObj.cells 51 5 [] (z1 (AV.lr 1 1 0 (SS.n s) false) (z1 (AV.lr 2 2 0 (List.length (SS.P s)) false) (zl (AV.i .i64 (-1 : Int))) T.e) (z1 (AV.i .i64 (Int.ofNat (SS.wr s))) (zl (AV.b true)) T.e))) (zl (AObj.rows 55 1 (SS.n s) (imgF s))) (zl (AObj.rows 91 2 (List.length (SS.P s)) (penF (oA (SS.P s)) (oB (SS.P s))))), next := 3, log := [0, 0] })
  Orc.z) := by kernel_rfl
theorem rwrite_vc (s : SS) (L : Nat) (i : Int) (bs : Nat → Int) (K : Res → Orc → Prop) : runK Tryd.prog 1000000 (.call 38 [.p 0 0, .i .i64 i, .sv 1 L (fun k _ => .i .u8 (bs k))]
  (mkH [some (rsA 2 s), some (rsR s), some (rsP s)])) (Orc.s Orc.z (Orc.s (Orc.t (Orc.t (Orc.t (Orc.t (Orc.t (Orc.t (Orc.f (Orc.s (Orc.t (Orc.t (Orc.f (Orc.s Orc.z (Orc.cal []
  (AV.sv 1 L fun k x => CV.i .u8 (bs k)) [] (Orc.s (Orc.inl Orc.z) (Orc.s Orc.z Orc.z))))))) (Orc.f (Orc.f (Orc.t (Orc.c Orc.z)))))))))))) (Orc.f (Orc.f (Orc.f (Orc.f (Orc.f (Orc.f
  (Orc.t (Orc.c (Orc.c (Orc.c (Orc.c (Orc.c Orc.z)))))))))))))) K = (True ∧ (SS.off s = true → K (Res.rv (AV.i .i64 (13 : Int)) { tree := z1 (AObj.cells 51 5 [] (z1 (AV.lr 1 1 0 (SS.n s) false) (z1 (AV.lr 2 2 0 (List.length (SS.P s)) false) (zl (AV.i .i64 (SS.am s))) T.e) (z1 (AV.i .i64 (Int.ofNat (SS.wr s))) (zl (AV.b (SS.off s))) T.e))) (zl (AObj.rows 55 1 (SS.n s) (imgF s))) (zl (AObj.rows 91 2 (List.length (SS.P s)) (penF (oA (SS.P s)) (oB (SS.P s))))), next := 3, log := [] })
  Orc.z) ∧ (SS.off s = false → ((!decide (i < (0 : Int))) = true → (!decide (i < (0 : Int))) = true ∧ (!decide (i < (0 : Int))) = true ∧ (!decide (i < (0 : Int))) = true ∧ True ∧
  (!decide (i < (0 : Int))) = true ∧ (!decide (i < (0 : Int))) = true ∧ (!decide (i < (0 : Int))) = true ∧ decide (i < (0 : Int)) = false ∧ ((!decide (Int.ofNat (SS.n s) ≤ i)) =
  true → (!decide (Int.ofNat (SS.n s) ≤ i)) = true ∧ (!decide (Int.ofNat (SS.n s) ≤ i)) = true ∧ decide (Int.ofNat (SS.n s) ≤ i) = false ∧ ((!decide (Int.ofNat L = (64 : Int))) =
  true → K (Res.rv (AV.i .i64 (2 : Int)) { tree := z1 (AObj.cells 51 5 [] (z1 (AV.lr 1 1 0 (SS.n s) false) (z1 (AV.lr 2 2 0 (List.length (SS.P s)) false) (zl (AV.i .i64 (SS.am s))) T.e) (z1 (AV.i .i64 (Int.ofNat (SS.wr s))) (zl (AV.b (SS.off s))) T.e))) (zl (AObj.rows 55 1 (SS.n s) (imgF s))) (zl (AObj.rows 91 2 (List.length (SS.P s)) (penF (oA (SS.P s)) (oB (SS.P s))))), next := 3, log := [] })
  Orc.z) ∧ ((!decide (Int.ofNat L = (64 : Int))) = false → True ∧ Con Tryd.prog 34 [AV.sv 1 L fun k x => CV.i .u8 (bs k)] [] (AV.sv 1 L fun k x => CV.i .u8 (bs k)) [] ∧ (0 +
  List.length (SS.P s) ≤ List.length (SS.P s) ∧ True ∧ List.length (SS.P s) + 1 ≤ 140737488355328 ∧ (3 * (List.length (SS.P s) + 1) + 1536) * 32 ≤ 562949953421312) ∧ True ∧ True ∧
  ((-9223372036854775808 : Int) ≤ Int.ofNat (SS.wr s) + (1 : Int) ∧ Int.ofNat (SS.wr s) + (1 : Int) ≤ (9223372036854775807 : Int)) ∧ True ∧ True ∧ (decide (SS.am s = (0 : Int)) =
  true → True ∧ True ∧ K (Res.rv (AV.i .i64 (13 : Int)) { tree := z1 (AObj.cells 51 5 [] (z1 (AV.lr 1 1 0 (SS.n s) false) (z1 (AV.lr 4 2 0 (addN (List.length (SS.P s)) 1) false) (zl (AV.i .i64 (-1 : Int))) T.e) (z1 (AV.i .i64 (Int.ofNat (SS.wr s) + (1 : Int))) (zl (AV.b true)) T.e))) (z1 (AObj.rows 55 1 (SS.n s) (imgF s)) (zl (AObj.cells 91 2 [] (z1 (AV.i .i64 i) (zl (AV.sv 1 L fun k x => CV.i .u8 (bs k))) T.e))) T.e) (z0 (zl (AObj.rows 91 2 (addN (List.length (SS.P s)) 1) (appZ (List.length (SS.P s)) (fun k j => match j with | 0 => CV.i .i64 (Int.ofNat (oA (SS.P s) k)) | x => CV.sv 1 64 fun q x => CV.i .u8 (oB (SS.P s) k q)) fun x j => List.getD [CV.i .i64 i, CV.sv 1 L fun k x => CV.i .u8 (bs k)] j CV.p0))) T.e), next := 5, log := [0, 0, 0, 0, 4, 2, 3] })
  Orc.z) ∧ (decide (SS.am s = (0 : Int)) = false → True ∧ (decide ((0 : Int) < SS.am s) = true → True ∧ ((-9223372036854775808 : Int) ≤ SS.am s - (1 : Int) ∧ SS.am s - (1 : Int) ≤
  (9223372036854775807 : Int)) ∧ True ∧ K (Res.rv (AV.i .i64 (0 : Int)) { tree := z1 (AObj.cells 51 5 [] (z1 (AV.lr 1 1 0 (SS.n s) false) (z1 (AV.lr 4 2 0 (addN (List.length (SS.P s)) 1) false) (zl (AV.i .i64 (SS.am s - (1 : Int)))) T.e) (z1 (AV.i .i64 (Int.ofNat (SS.wr s) + (1 : Int))) (zl (AV.b (SS.off s))) T.e))) (z1 (AObj.rows 55 1 (SS.n s) (imgF s)) (zl (AObj.cells 91 2 [] (z1 (AV.i .i64 i) (zl (AV.sv 1 L fun k x => CV.i .u8 (bs k))) T.e))) T.e) (z0 (zl (AObj.rows 91 2 (addN (List.length (SS.P s)) 1) (appZ (List.length (SS.P s)) (fun k j => match j with | 0 => CV.i .i64 (Int.ofNat (oA (SS.P s) k)) | x => CV.sv 1 64 fun q x => CV.i .u8 (oB (SS.P s) k q)) fun x j => List.getD [CV.i .i64 i, CV.sv 1 L fun k x => CV.i .u8 (bs k)] j CV.p0))) T.e), next := 5, log := [0, 0, 0, 4, 2, 3] })
  Orc.z) ∧ (decide ((0 : Int) < SS.am s) = false → K (Res.rv (AV.i .i64 (0 : Int)) { tree := z1 (AObj.cells 51 5 [] (z1 (AV.lr 1 1 0 (SS.n s) false) (z1 (AV.lr 4 2 0 (addN (List.length (SS.P s)) 1) false) (zl (AV.i .i64 (SS.am s))) T.e) (z1 (AV.i .i64 (Int.ofNat (SS.wr s) + (1 : Int))) (zl (AV.b (SS.off s))) T.e))) (z1 (AObj.rows 55 1 (SS.n s) (imgF s)) (zl (AObj.cells 91 2 [] (z1 (AV.i .i64 i) (zl (AV.sv 1 L fun k x => CV.i .u8 (bs k))) T.e))) T.e) (z0 (zl (AObj.rows 91 2 (addN (List.length (SS.P s)) 1) (appZ (List.length (SS.P s)) (fun k j => match j with | 0 => CV.i .i64 (Int.ofNat (oA (SS.P s) k)) | x => CV.sv 1 64 fun q x => CV.i .u8 (oB (SS.P s) k q)) fun x j => List.getD [CV.i .i64 i, CV.sv 1 L fun k x => CV.i .u8 (bs k)] j CV.p0))) T.e), next := 5, log := [0, 0, 4, 2, 3] })
  Orc.z)))) ∧ ((!decide (Int.ofNat (SS.n s) ≤ i)) = false → (!decide (Int.ofNat (SS.n s) ≤ i)) = false ∧ (!decide (Int.ofNat (SS.n s) ≤ i)) = false ∧ decide (Int.ofNat (SS.n s) ≤ i)
  = true ∧ K (Res.rv (AV.i .i64 (2 : Int)) { tree := z1 (AObj.cells 51 5 [] (z1 (AV.lr 1 1 0 (SS.n s) false) (z1 (AV.lr 2 2 0 (List.length (SS.P s)) false) (zl (AV.i .i64 (SS.am s))) T.e) (z1 (AV.i .i64 (Int.ofNat (SS.wr s))) (zl (AV.b (SS.off s))) T.e))) (zl (AObj.rows 55 1 (SS.n s) (imgF s))) (zl (AObj.rows 91 2 (List.length (SS.P s)) (penF (oA (SS.P s)) (oB (SS.P s))))), next := 3, log := [] })
  Orc.z)) ∧ ((!decide (i < (0 : Int))) = false → (!decide (i < (0 : Int))) = false ∧ (!decide (i < (0 : Int))) = false ∧ (!decide (i < (0 : Int))) = false ∧ (!decide (i < (0 :
  Int))) = false ∧ (!decide (i < (0 : Int))) = false ∧ (!decide (i < (0 : Int))) = false ∧ decide (i < (0 : Int)) = true ∧ K (Res.rv (AV.i .i64 (2 : Int)) { tree := z1 (AObj.cells 51 5 [] (z1 (AV.lr 1 1 0 (SS.n s) false) (z1 (AV.lr 2 2 0 (List.length (SS.P s)) false) (zl (AV.i .i64 (SS.am s))) T.e) (z1 (AV.i .i64 (Int.ofNat (SS.wr s))) (zl (AV.b (SS.off s))) T.e))) (zl (AObj.rows 55 1 (SS.n s) (imgF s))) (zl (AObj.rows 91 2 (List.length (SS.P s)) (penF (oA (SS.P s)) (oB (SS.P s))))), next := 3, log := [] })
  Orc.z))) := by kernel_rfl
theorem nd_t {a b : Int} (h : a < b) : (!decide (a < b)) = false := by simp [h]
theorem nd_f {a b : Int} (h : ¬ a < b) : (!decide (a < b)) = true := by simp only [decide_eq_false h]; rfl
theorem rread2_con (s : SS) (i : Int) (hl : s.P.length ≤ 1073741824) : Con Tryd.prog 30 [.p 0 0, .i .i64 i] [some (rsA 2 s), some (rsR s), some (rsP s)] (.tup [.sv 1 (s.rdN i) fun k _ => .i .u8 (s.rdB i k), .i .i64 (s.rdE i)]) [.keep, .keep, .keep] := by
  have bad : ∀ e : Int, e ≠ 0 → s.rdE i = e → Con Tryd.prog 30 [.p 0 0, .i .i64 i] [some (rsA 2 s), some (rsR s), some (rsP s)] (.tup [.l0, .i .i64 e]) [.keep, .keep, .keep] → Con Tryd.prog 30 [.p 0 0, .i .i64 i] [some (rsA 2 s), some (rsR s), some (rsP s)] (.tup [.sv 1 (s.rdN i) fun k _ => .i .u8 (s.rdB i k), .i .i64 (s.rdE i)]) [.keep, .keep, .keep] := fun e he h k => by
    rw [SS.rdN_0 (by rw [h]; exact he), h]
    exact k.post (.tup ⟨.nil _ _, .refl _, trivial⟩) (OVL.refl _)
  have hlen : (-9223372036854775808 : Int) ≤ Int.ofNat s.P.length - 1 ∧ Int.ofNat s.P.length - 1 ≤ (9223372036854775807 : Int) := ⟨by simp; omega, by simp; omega⟩
  cases ho : s.off with
  | true =>
    have e1 : s.rdE i = 13 := by unfold SS.rdE; rw [ho]
    refine bad 13 (by decide) e1 (con_of_run [] [] ((rreadM_vc s i _).mpr ⟨trivial, fun _ => ⟨_, _, rfl, ret_is (by kernel_rfl) rfl (by kernel_rfl) (by kernel_rfl) rfl (by refine ⟨?_, ?_, ?_, ?_, ?_, ?_, trivial⟩ <;> kernel_rfl)⟩, fun h => (by rw [ho] at h; cases h)⟩))
  | false =>
    by_cases h0 : i < 0
    · have e1 : s.rdE i = 2 := by unfold SS.rdE; rw [ho, show decide (0 ≤ i ∧ i < Int.ofNat s.n) = false from decide_eq_false (by omega)]
      have d := nd_t h0
      exact bad 2 (by decide) e1 (con_of_run [] [] ((rreadM_vc s i _).mpr ⟨trivial, fun h => (by rw [ho] at h; cases h), fun _ => ⟨fun h => (by rw [d] at h; cases h), fun _ => ⟨d, d, d, d, d, d, decide_eq_true h0, _, _, rfl, ret_is (by kernel_rfl) rfl (by kernel_rfl) (by kernel_rfl) rfl (by refine ⟨?_, ?_, ?_, ?_, ?_, ?_, trivial⟩ <;> kernel_rfl)⟩⟩⟩))
    · have d := nd_f h0
      by_cases h1 : Int.ofNat s.n ≤ i
      · have e1 : s.rdE i = 2 := by unfold SS.rdE; rw [ho, show decide (0 ≤ i ∧ i < Int.ofNat s.n) = false from decide_eq_false (by omega)]
        exact bad 2 (by decide) e1 (con_of_run [] [] ((rreadM_vc s i _).mpr ⟨trivial, fun h => (by rw [ho] at h; cases h), fun _ => ⟨fun _ => ⟨d, d, d, trivial, d, d, d, decide_eq_false h0, fun _ => ⟨_, _, rfl, ret_is (by kernel_rfl) rfl (by kernel_rfl) (by kernel_rfl) rfl (by refine ⟨?_, ?_, ?_, ?_, ?_, ?_, trivial⟩ <;> kernel_rfl)⟩, fun h => absurd h1 (of_decide_eq_false h)⟩, fun h => (by rw [d] at h; cases h)⟩⟩))
      · obtain ⟨q, rfl⟩ : ∃ q, i = Int.ofNat q := ⟨i.toNat, by simp; omega⟩
        have hq : q < s.n := by simp at h1; omega
        have hr : decide (0 ≤ Int.ofNat q ∧ Int.ofNat q < Int.ofNat s.n) = true := decide_eq_true ⟨by simp, by simp; omega⟩
        cases hb : lB s.P q with
        | true =>
          have e1 : s.rdE (Int.ofNat q) = 0 := by unfold SS.rdE; rw [ho, hr]; show (match lB s.P q with | true => (0 : Int) | false => _) = 0; rw [hb]
          have e2 : s.rdB (Int.ofNat q) = lbs s.P q := by unfold SS.rdB; show (match lB s.P q with | true => _ | false => _) = _; rw [hb]; rfl
          rw [SS.rdN_64 e1, e1, e2]
          exact con_of_run [] [] ((rreadH_vc s (Int.ofNat q) _).mpr ⟨trivial, fun h => (by rw [ho] at h; cases h), fun _ => ⟨fun _ => ⟨d, d, d, trivial, d, d, d, decide_eq_false h0, fun h => absurd (of_decide_eq_true h) h1, fun _ => ⟨trivial, hlen, rreadH_lp s q hb hl, _, _, rfl, ret_is (by kernel_rfl) rfl (by kernel_rfl) (by kernel_rfl) rfl (by refine ⟨?_, ?_, ?_, ?_, ?_, ?_, trivial⟩ <;> kernel_rfl)⟩⟩, fun h => (by rw [d] at h; cases h)⟩⟩)
        | false =>
          have hi : (0 : Int) ≤ Int.ofNat q ∧ Int.ofNat q < (s.n : Int) := ⟨by simp, by simp; omega⟩
          cases ht : s.torn q with
          | true =>
            have e1 : s.rdE (Int.ofNat q) = 14 := by unfold SS.rdE; rw [ho, hr]; show (match lB s.P q with | true => (0 : Int) | false => match s.torn q with | true => 14 | false => 0) = 14; rw [hb, ht]
            have dt : decide (Int.ofNat (bif s.torn (Int.toNat (Int.ofNat q)) then (0 : Nat) else (64 : Nat)) = (0 : Int)) = true := by
              show decide (Int.ofNat (bif s.torn q then (0 : Nat) else (64 : Nat)) = (0 : Int)) = true
              rw [ht]; rfl
            exact bad 14 (by decide) e1 (con_of_run [] [] ((rreadM_vc s (Int.ofNat q) _).mpr ⟨trivial, fun h => (by rw [ho] at h; cases h), fun _ => ⟨fun _ => ⟨d, d, d, trivial, d, d, d, decide_eq_false h0, fun h => absurd (of_decide_eq_true h) h1, fun _ => ⟨trivial, hlen, rreadM_lp s q hb hl, trivial, hi, hq, fun _ => ⟨_, _, rfl, ret_is (by kernel_rfl) rfl (by kernel_rfl) (by kernel_rfl) rfl (by refine ⟨?_, ?_, ?_, ?_, ?_, ?_, trivial⟩ <;> kernel_rfl)⟩, fun h => (by rw [dt] at h; cases h)⟩⟩, fun h => (by rw [d] at h; cases h)⟩⟩))
          | false =>
            have e1 : s.rdE (Int.ofNat q) = 0 := by unfold SS.rdE; rw [ho, hr]; show (match lB s.P q with | true => (0 : Int) | false => match s.torn q with | true => 14 | false => 0) = 0; rw [hb, ht]
            have e2 : s.rdB (Int.ofNat q) = s.dur q := by unfold SS.rdB; show (match lB s.P q with | true => _ | false => _) = _; rw [hb]; rfl
            have dt : decide (Int.ofNat (bif s.torn (Int.toNat (Int.ofNat q)) then (0 : Nat) else (64 : Nat)) = (0 : Int)) = false := by
              show decide (Int.ofNat (bif s.torn q then (0 : Nat) else (64 : Nat)) = (0 : Int)) = false
              rw [ht]; rfl
            rw [SS.rdN_64 e1, e1, e2]
            have key : Con Tryd.prog 30 [.p 0 0, .i .i64 (Int.ofNat q)] [some (rsA 2 s), some (rsR s), some (rsP s)] (.tup [.sv 1 (bif s.torn q then 0 else 64) fun k _ => .i .u8 (s.dur q k), .i .i64 0]) [.keep, .keep, .keep] :=
              con_of_run [] [] ((rreadM_vc s (Int.ofNat q) _).mpr ⟨trivial, fun h => (by rw [ho] at h; cases h), fun _ => ⟨fun _ => ⟨d, d, d, trivial, d, d, d, decide_eq_false h0, fun h => absurd (of_decide_eq_true h) h1, fun _ => ⟨trivial, hlen, rreadM_lp s q hb hl, trivial, hi, hq, fun h => (by rw [dt] at h; cases h), fun _ => ⟨trivial, hi, hq, copied_con _ _ (by show (bif s.torn q then 0 else 64) ≤ _; rw [ht]; decide), _, _, rfl, ret_is (by kernel_rfl) rfl (by kernel_rfl) (by kernel_rfl) rfl (by refine ⟨?_, ?_, ?_, ?_, ?_, ?_, trivial⟩ <;> kernel_rfl)⟩⟩⟩, fun h => (by rw [d] at h; cases h)⟩⟩)
            rw [ht] at key; exact key
theorem rowsLe {e : TypeId} {sz n m : Nat} {f f' : Nat → Nat → CV} (h : m ≤ n) (hf : ∀ i j, i < m → j < sz → CW (f i j) (f' i j)) : OV (some (.rows e sz n f)) (some (.rows e sz m f')) := by
  refine .x fun x' hx => ?_
  cases hx
  refine ⟨_, rfl, fun hv => ?_, ?_⟩
  · have hv : n = 0 := hv
    show m = 0
    omega
  · rintro ρ p w ⟨c, fr, h1, h2, h3, h4, h5⟩
    refine ⟨c, fr, h1, h2, h3, ?_, fun i j hi hj => ?_⟩
    · have := Nat.mul_le_mul_right sz h
      omega
    · obtain ⟨v', a, b⟩ := h5 i j (by omega) hj
      exact ⟨v', a, hf i j hi hj _ _ b⟩
theorem sv0_cw (sz : Nat) (f g : Nat → Nat → CV) : CW (.sv sz 0 f) (.sv sz 0 g) := by
  intro ro v h
  cases h with
  | sv0 => exact .sv0 _ _
  | svz _ _ a c => exact .svz _ _ a c
  | sv _ _ _ B o cap gg hc _ _ => exact .sv _ _ _ B o cap gg hc (fun i j hi _ => absurd hi (Nat.not_lt_zero _)) (fun i j hi _ => absurd hi (Nat.not_lt_zero _))
noncomputable def rsZ (n wr : Nat) (am : Int) (off : Bool) : AObj := .cells 51 5 [] (setAll .e 0 [.lr 1 1 0 n false, .l0, .i .i64 (Int.ofNat wr), .i .i64 am, .b off])
theorem rsZ_ov (n wr : Nat) (am : Int) (off : Bool) : OV (some (rsZ n wr am off)) (some (rsQ 2 n 0 wr am off)) :=
  .cellsD (dflt := []) (l := [.lr 1 1 0 n false, .l0, .i .i64 (Int.ofNat wr), .i .i64 am, .b off]) (l' := [.lr 1 1 0 n false, .lr 2 2 0 0 false, .i .i64 (Int.ofNat wr), .i .i64 am, .b off]) ⟨.refl _, .l0_lr, .refl _, .refl _, .refl _, trivial⟩
theorem laid_img (s : SS) {m : Nat} (h : m ≤ s.P.length) : imgF (laidM s m) = imgF (s.flush m) := by
  unfold laidM
  rw [laid_eq s m h]; rfl
theorem rbar2_con (s : SS) (hl : s.P.length ≤ 1073741824) (ha : ∀ w ∈ s.P, w.1 < s.n) : Con Tryd.prog 40 [.p 0 0] [some (rsA 2 s), some (rsR s), some (rsP s)] (.i .i64 s.faultE) [.set (rsA 2 s.bar), .set (rsR s.bar), .set (rsP s.bar)] := by
  cases ho : s.off with
  | true =>
    have e0 : s.faultE = 13 := by unfold SS.faultE; rw [ho]; rfl
    have e1 : s.bar = s := by unfold SS.bar; rw [ho]
    rw [e0, e1]
    have k : Con Tryd.prog 40 [.p 0 0] [some (rsA 2 s), some (rsR s), some (rsP s)] (.i .i64 13) [.keep, .keep, .keep] :=
      con_of_run [] [] ((rbar_vc s _).mpr ⟨trivial, fun _ => ⟨_, _, rfl, ret_is (by kernel_rfl) rfl (by kernel_rfl) (by kernel_rfl) rfl (by refine ⟨?_, ?_, ?_, ?_, ?_, ?_, trivial⟩ <;> kernel_rfl)⟩, fun h => (by rw [ho] at h; cases h)⟩)
    exact k.oeq (OEqL.refl _) (OEqL.refl _)
  | false =>
    have e0 : s.faultE = 0 := by unfold SS.faultE; rw [ho]; rfl
    have e1 : s.bar = s.flush s.P.length := by unfold SS.bar; rw [ho]
    rw [e0, e1]
    have k : Con Tryd.prog 40 [.p 0 0] [some (rsA 2 s), some (rsR s), some (rsP s)] (.i .i64 0) [.set (rsZ s.n s.wr s.am s.off), .set (.rows 55 1 s.n (imgF (laidM s s.P.length))), .keep] :=
      con_of_run [] [] ((rbar_vc s _).mpr ⟨trivial, fun h => (by rw [ho] at h; cases h), fun _ => ⟨rbarG_lp s hl ha, trivial, _, _, rfl, ret_is (by kernel_rfl) rfl (by kernel_rfl) (by kernel_rfl) rfl (by refine ⟨?_, ?_, ?_, ?_, ?_, ?_, trivial⟩ <;> kernel_rfl)⟩⟩)
    rw [laid_img s (Nat.le_refl _)] at k
    exact k.post (.refl _) ⟨rsZ_ov _ _ _ _, .refl _, rowsLe (Nat.zero_le _) fun i j hi _ => absurd hi (Nat.not_lt_zero _), trivial⟩
theorem torn_img (s : SS) (q : Nat) (i j : Nat) (hj : j < 1) : CW (setRow (imgF s) q 0 [.sv 1 0 fun _ _ => .p0] i j) (imgF (s.lay q (fun _ => 0) true) i j) := by
  have : j = 0 := by omega
  subst this
  refine (zipCV_CW (Nat.beq i q) (CV.sv 1 0 fun _ _ => .p0) (imgF s i 0)).trans ?_
  show CW (bif Nat.beq i q then CV.sv 1 0 (fun _ _ => .p0) else .sv 1 (bif s.torn i then 0 else 64) fun k _ => .i .u8 (s.dur i k)) (.sv 1 (bif (bif Nat.beq i q then true else s.torn i) then 0 else 64) fun k _ => .i .u8 ((bif Nat.beq i q then (fun _ => (0 : Int)) else s.dur i) k))
  cases h : Nat.beq i q with
  | true => exact sv0_cw _ _ _
  | false => exact .refl _
theorem rrev2_con (s : SS) (kk : Int) (bt : Bool) (hl : s.P.length ≤ 1073741824) (ha : ∀ w ∈ s.P, w.1 < s.n) : Con Tryd.prog 15 [.p 0 0, .i .i64 kk, .b bt] [some (rsA 2 s), some (rsR s), some (rsP s)] (.i .i64 s.revE)
    [.set (rsA 2 (s.revived kk bt)), .set (rsR (s.revived kk bt)), .set (rsP (s.revived kk bt))] := by
  cases ho : s.off with
  | false =>
    have e0 : s.revE = 26 := by unfold SS.revE; rw [ho]; rfl
    have e1 : s.revived kk bt = s := by unfold SS.revived; rw [ho]
    rw [e0, e1]
    have k : Con Tryd.prog 15 [.p 0 0, .i .i64 kk, .b bt] [some (rsA 2 s), some (rsR s), some (rsP s)] (.i .i64 26) [.keep, .keep, .keep] :=
      con_of_run [] [] ((rrev_vc s kk bt _).mpr ⟨trivial, trivial, fun _ => ⟨_, _, rfl, ret_is (by kernel_rfl) rfl (by kernel_rfl) (by kernel_rfl) rfl (by refine ⟨?_, ?_, ?_, ?_, ?_, ?_, trivial⟩ <;> kernel_rfl)⟩, fun h => (by rw [ho] at h; cases h)⟩)
    exact k.oeq (OEqL.refl _) (OEqL.refl _)
  | true =>
    have e0 : s.revE = 0 := by unfold SS.revE; rw [ho]; rfl
    rw [e0]
    have hk : keepN kk s.P.length ≤ s.P.length := Nat.min_le_right _ _
    have vc := fun K => rrev_vc s kk bt K
    simp only [keepN_eq] at vc
    have lp := rrevG_lp s (Int.ofNat (keepN kk s.P.length)) bt hl ha (by simp) (by simpa using hk)
    generalize hm : keepN kk s.P.length = m at *
    have e1 : s.revived kk bt = match bt && Nat.blt m s.P.length with
      | true => ((s.flush m).lay (oA s.P m) (fun _ => 0) true).on
      | false => (s.flush m).on := by unfold SS.revived; first | (rw [ho, hm]; done) | (rw [ho, hm]; rfl)
    have hb : (!s.off) = true → False := fun h => by rw [ho] at h; simp at h
    have hm0 : (Int.toNat (Int.ofNat m)) = m := rfl
    have plain : s.revived kk bt = (s.flush m).on → Con Tryd.prog 15 [.p 0 0, .i .i64 kk, .b bt] [some (rsA 2 s), some (rsR s), some (rsP s)] (.i .i64 0) [.set (rsZ s.n s.wr s.am false), .set (.rows 55 1 s.n (imgF (laidM s m))), .keep] →
        Con Tryd.prog 15 [.p 0 0, .i .i64 kk, .b bt] [some (rsA 2 s), some (rsR s), some (rsP s)] (.i .i64 0) [.set (rsA 2 (s.revived kk bt)), .set (rsR (s.revived kk bt)), .set (rsP (s.revived kk bt))] := fun e k => by
      rw [e]
      rw [laid_img s hk] at k
      exact k.post (.refl _) ⟨rsZ_ov _ _ _ _, .refl _, rowsLe (Nat.zero_le _) fun i j hi _ => absurd hi (Nat.not_lt_zero _), trivial⟩
    cases bt with
    | true =>
      rcases Nat.lt_or_ge m s.P.length with c | c
      · have e2 : s.revived kk true = ((s.flush m).lay (oA s.P m) (fun _ => 0) true).on := by
          rw [e1, show Nat.blt m s.P.length = true by rw [Nat.blt_eq]; exact c]; rfl
        rw [e2]
        have h1 := pen_lt c
        have h2 := oA_lt ha c
        have h : Con Tryd.prog 15 [.p 0 0, .i .i64 kk, .b true] [some (rsA 2 s), some (rsR s), some (rsP s)] (.i .i64 0) [.set (rsZ s.n s.wr s.am false), .set (.rows 55 1 s.n (setRow (imgF (laidM s m)) (oA s.P m) 0 [.sv 1 0 fun _ _ => .p0])), .keep] :=
          con_of_run [] [] ((vc _).mpr ⟨trivial, trivial, fun h => (hb h).elim, fun _ => ⟨trivial, lp, fun _ => ⟨rfl, rfl, rfl, trivial, rfl, rfl, rfl, rfl, fun _ => ⟨trivial, trivial, h1, trivial, c, h2, by have := h2.2; simp at this; exact this, trivial, trivial, _, _, rfl, ret_is (by kernel_rfl) rfl (by kernel_rfl) (by kernel_rfl) rfl (by refine ⟨?_, ?_, ?_, ?_, ?_, ?_, trivial⟩ <;> kernel_rfl)⟩, fun h => absurd (of_decide_eq_false h) (by simp; omega)⟩, fun h => (by cases h)⟩⟩)
        rw [laid_img s hk] at h
        exact h.post (.refl _) ⟨rsZ_ov _ _ _ _, .rowsW fun i j _ hj => torn_img _ _ i j hj, rowsLe (Nat.zero_le _) fun i j hi _ => absurd hi (Nat.not_lt_zero _), trivial⟩
      · have e2 : s.revived kk true = (s.flush m).on := by
          have : Nat.blt m s.P.length = false := by
            rw [Bool.eq_false_iff, ne_eq, Nat.blt_eq]; omega
          rw [e1, this]; rfl
        exact plain e2 (con_of_run [] [] ((vc _).mpr ⟨trivial, trivial, fun h => (hb h).elim, fun _ => ⟨trivial, lp, fun _ => ⟨rfl, rfl, rfl, trivial, rfl, rfl, rfl, rfl, fun h => absurd (of_decide_eq_true h) (by simp; omega), fun _ => ⟨trivial, trivial, _, _, rfl, ret_is (by kernel_rfl) rfl (by kernel_rfl) (by kernel_rfl) rfl (by refine ⟨?_, ?_, ?_, ?_, ?_, ?_, trivial⟩ <;> kernel_rfl)⟩⟩, fun h => (by cases h)⟩⟩))
    | false =>
      have e2 : s.revived kk false = (s.flush m).on := by rw [e1]; rfl
      exact plain e2 (con_of_run [] [] ((vc _).mpr ⟨trivial, trivial, fun h => (hb h).elim, fun _ => ⟨trivial, lp, fun h => (by cases h), fun _ => ⟨rfl, rfl, rfl, rfl, rfl, rfl, rfl, trivial, trivial, _, _, rfl, ret_is (by kernel_rfl) rfl (by kernel_rfl) (by kernel_rfl) rfl (by refine ⟨?_, ?_, ?_, ?_, ?_, ?_, trivial⟩ <;> kernel_rfl)⟩⟩⟩))
theorem rarm2_con (s : SS) (kk : Int) : Con Tryd.prog 11 [.p 0 0, .i .i64 kk] [some (rsA 2 s), some (rsR s), some (rsP s)] (.tup []) [.set (rsA 2 (s.arm kk)), .keep, .keep] := by
  have e : (if (-1 : Int) > kk then -1 else kk) = (s.arm kk).am := by
    unfold SS.am SS.arm
    by_cases h : 0 ≤ kk
    · rw [decide_eq_true h, cond_true, if_neg (by omega)]; simp; omega
    · rw [decide_eq_false h, cond_false]
      split <;> omega
  have k : Con Tryd.prog 11 [.p 0 0, .i .i64 kk] [some (rsA 2 s), some (rsR s), some (rsP s)] (.tup []) [.set (rsQ 2 s.n s.P.length s.wr (if (-1 : Int) > kk then -1 else kk) s.off), .keep, .keep] :=
    con_of_run [] [] ((rarm_vc s kk _).mpr ⟨trivial, _, _, rfl, ret_is (by kernel_rfl) rfl (by kernel_rfl) (by kernel_rfl) rfl (by refine ⟨?_, ?_, ?_, ?_, ?_, ?_, trivial⟩ <;> kernel_rfl)⟩)
  rw [e] at k
  exact k
theorem rfail2_con (s : SS) : Con Tryd.prog 13 [.p 0 0] [some (rsA 2 s), some (rsR s), some (rsP s)] (.tup []) [.set (rsA 2 s.fail), .keep, .keep] :=
  con_of_run [] [] ((rfail_vc s _).mpr ⟨trivial, trivial, _, _, rfl, ret_is (by kernel_rfl) rfl (by kernel_rfl) (by kernel_rfl) rfl (by refine ⟨?_, ?_, ?_, ?_, ?_, ?_, trivial⟩ <;> kernel_rfl)⟩)
theorem rnew0_vc (n : Int) (K : Res → Orc → Prop) : runK Tryd.prog 1000000 (.code (loopAt Tryd.prog 7 0) 30 (mkT [(0, .i .i64 n), (4, .p 0 0), (5, .i .i64 0)]) (mkH [some (.cells 51
  5 [] (setAll .e 0 [.l0, .l0, .i .i64 0, .i .i64 (-1), .b false]))])) (Orc.s (Orc.m Orc.z) Orc.z) K = ((decide ((0 : Int) < n) = true → True ∧ ((1 = 1 ∧ 64 ≤ 64) ∧ (0 : Int) ≤ (64
  : Int) ∧ (64 : Int) ≤ (64 : Int) ∧ (64 : Int) ≤ (1073741824 : Int)) ∧ True ∧ ((-9223372036854775808 : Int) ≤ (1 : Int) ∧ (1 : Int) ≤ (9223372036854775807 : Int)) ∧ K (Res.st
  XO.nrm (z1 (AV.i .i64 n) (z0 (z0 (z0 (zl (AV.i .i64 n)) (zl AV.l0)) (z0 (zl (AV.p 0 0)) (zl (AV.p 0 0)))) (z1 (AV.i .i64 (1 : Int)) (z0 (zl (AV.i .i64 (0 : Int))) (zl (AV.l 2 0 1
  1 1 true))) (z0 (zl (AV.p 0 0)) T.e))) (z0 (z1 (AV.p 0 0) (z0 (zl (AV.b (decide ((0 : Int) < n)))) (zl (AV.sv 1 64 fun x j => List.getD [CV.i .u8 (0 : Int)] j CV.p0))) (z0 (zl
  (AV.p 0 0)) (zl (AV.p 0 0)))) (z0 (z0 (zl (AV.i .i64 (1 : Int))) (zl (AV.l 3 0 1 1 1 false))) (z1 (AV.i .i64 (0 : Int)) (zl (AV.p 0 0)) T.e)))) { tree := z1 (AObj.cells 51 5 [] (z1 (AV.l 3 0 1 1 1 false) (z1 AV.l0 (zl (AV.i .i64 (-1 : Int))) T.e) (z1 (AV.i .i64 (0 : Int)) (zl (AV.b false)) T.e))) (z0 (zl (AObj.cells 55 1 [] (zl (AV.sv 1 64 fun x j => List.getD [CV.i .u8 (0 : Int)] j CV.p0)))) T.e) (zl (AObj.cells 55 1 [] (zl (AV.sv 1 64 fun x j => List.getD [CV.i .u8 (0 : Int)] j CV.p0)))), next := 4, log := [0, 3, 2, 1, 1] })
  Orc.z) ∧ (decide ((0 : Int) < n) = false → K (Res.st (XO.exit 0) (z1 (AV.i .i64 n) (z0 (z0 (z0 (zl (AV.i .i64 n)) T.e) T.e) (zl (AV.i .i64 (0 : Int)))) (z0 (z1 (AV.p 0 0) (z0 (zl
  (AV.b (decide ((0 : Int) < n)))) T.e) T.e) (z0 T.e (zl (AV.i .i64 (0 : Int)))))) { tree := zl (AObj.cells 51 5 [] (z1 AV.l0 (z1 AV.l0 (zl (AV.i .i64 (-1 : Int))) T.e) (z1 (AV.i .i64 (0 : Int)) (zl (AV.b false)) T.e))), next := 1, log := [] })
  Orc.z)) := by kernel_rfl
theorem rnewR_vc (n : Int) (k : Nat) (ff : Nat → Nat → CV) (K : Res → Orc → Prop) : runK Tryd.prog 1000000 (.code (loopAt Tryd.prog 7 0) 30 (mkT [(0, .i .i64 n), (4, .p 0 0), (5, .i
  .i64 (Int.ofNat k))]) (mkH [some (.cells 51 5 [] (setAll .e 0 [.lr 1 1 0 k false, .l0, .i .i64 0, .i .i64 (-1), .b false])), some (.rows 55 1 k ff)])) (Orc.s (Orc.m Orc.z) Orc.z)
  K = ((decide (Int.ofNat k < n) = true → True ∧ ((1 = 1 ∧ 64 ≤ 64) ∧ (0 : Int) ≤ (64 : Int) ∧ (64 : Int) ≤ (64 : Int) ∧ (64 : Int) ≤ (1073741824 : Int)) ∧ (0 + k ≤ k ∧ True ∧ k + 1
  ≤ 140737488355328 ∧ (3 * (k + 1) + 1536) * 24 ≤ 562949953421312) ∧ True ∧ ((-9223372036854775808 : Int) ≤ Int.ofNat k + (1 : Int) ∧ Int.ofNat k + (1 : Int) ≤ (9223372036854775807
  : Int)) ∧ K (Res.st XO.nrm (z1 (AV.i .i64 n) (z0 (z0 (z0 (zl (AV.i .i64 n)) (zl (AV.lr 1 1 0 k false))) (z0 (zl (AV.p 0 0)) (zl (AV.p 0 0)))) (z1 (AV.i .i64 (Int.ofNat k + (1 :
  Int))) (z0 (zl (AV.i .i64 (Int.ofNat k))) (zl (AV.l 3 0 1 1 1 true))) (z0 (zl (AV.p 0 0)) T.e))) (z0 (z1 (AV.p 0 0) (z0 (zl (AV.b (decide (Int.ofNat k < n)))) (zl (AV.sv 1 64 fun
  x j => List.getD [CV.i .u8 (0 : Int)] j CV.p0))) (z0 (zl (AV.p 0 0)) (zl (AV.p 0 0)))) (z0 (z0 (zl (AV.i .i64 (Int.ofNat k + (1 : Int)))) (zl (AV.lr 4 1 0 (addN k 1) false))) (z1
  (AV.i .i64 (Int.ofNat k)) (zl (AV.p 0 0)) T.e)))) { tree := z1 (AObj.cells 51 5 [] (z1 (AV.lr 4 1 0 (addN k 1) false) (z1 AV.l0 (zl (AV.i .i64 (-1 : Int))) T.e) (z1 (AV.i .i64 (0 : Int)) (zl (AV.b false)) T.e))) (z0 (zl (AObj.cells 55 1 [] (zl (AV.sv 1 64 fun x j => List.getD [CV.i .u8 (0 : Int)] j CV.p0)))) T.e) (z0 (zl (AObj.rows 55 1 (addN k 1) (appZ k ff fun x j => List.getD [CV.sv 1 64 fun x j => List.getD [CV.i .u8 (0 : Int)] j CV.p0] j CV.p0))) T.e), next := 5, log := [0, 4, 1, 3, 2, 2] })
  Orc.z) ∧ (decide (Int.ofNat k < n) = false → K (Res.st (XO.exit 0) (z1 (AV.i .i64 n) (z0 (z0 (z0 (zl (AV.i .i64 n)) T.e) T.e) (zl (AV.i .i64 (Int.ofNat k)))) (z0 (z1 (AV.p 0 0)
  (z0 (zl (AV.b (decide (Int.ofNat k < n)))) T.e) T.e) (z0 T.e (zl (AV.i .i64 (Int.ofNat k)))))) { tree := z1 (AObj.cells 51 5 [] (z1 (AV.lr 1 1 0 k false) (z1 AV.l0 (zl (AV.i .i64 (-1 : Int))) T.e) (z1 (AV.i .i64 (0 : Int)) (zl (AV.b false)) T.e))) (zl (AObj.rows 55 1 k ff)) T.e, next := 2, log := [] })
  Orc.z)) := by kernel_rfl
theorem rnew_vc (n : Int) (K : Res → Orc → Prop) : runK Tryd.prog 1000000 (.call 7 [.i .i64 n] (mkH [])) (Orc.s (Orc.t (Orc.f (Orc.s Orc.z (Orc.lop [0] [0, 4, 5] 0 (XO.exit 0) [(4,
  AV.p 0 0)] [some (AObj.cells 51 5 [] (setAll T.e 0 [AV.lr 1 1 0 (Int.toNat n) false, AV.l0, AV.i .i64 (0 : Int), AV.i .i64 (-1 : Int), AV.b false])), some (AObj.rows 55 1
  (Int.toNat n) (imgF (SS.new (Int.toNat n))))] Orc.z)))) (Orc.f (Orc.t (Orc.c Orc.z)))) K = (((!decide (n < (1 : Int))) = true → (!decide (n < (1 : Int))) = true ∧ decide (n < (1 :
  Int)) = false ∧ (decide ((512 : Int) < n) = true → K (Res.rv (AV.tup [AV.p0, AV.i .i64 (2 : Int)]) { tree := T.e, next := 0, log := [] }) Orc.z) ∧ (decide ((512 : Int) < n) =
  false → LDoes Tryd.prog (loopAt Tryd.prog 7 0) 30 0 (mkT [(0, AV.i .i64 n), (4, AV.p 0 0), (5, AV.i .i64 (0 : Int))]) [some (AObj.cells 51 5 [] (setAll T.e 0 [AV.l0, AV.l0, AV.i
  .i64 (0 : Int), AV.i .i64 (-1 : Int), AV.b false]))] (XO.exit 0) (mkT [(4, AV.p 0 0)]) [some (AObj.cells 51 5 [] (setAll T.e 0 [AV.lr 1 1 0 (Int.toNat n) false, AV.l0, AV.i .i64
  (0 : Int), AV.i .i64 (-1 : Int), AV.b false])), some (AObj.rows 55 1 (Int.toNat n) (imgF (SS.new (Int.toNat n))))] ∧ K (Res.rv (AV.tup [AV.p 1 0, AV.i .i64 (0 : Int)]) { tree := z0 (zl (AObj.cells 51 5 [] (z1 (AV.lr 2 1 0 (Int.toNat n) false) (z1 AV.l0 (zl (AV.i .i64 (-1 : Int))) T.e) (z1 (AV.i .i64 (0 : Int)) (zl (AV.b false)) T.e)))) (zl (AObj.rows 55 1 (Int.toNat n) (imgF (SS.new (Int.toNat n))))), next := 3, log := [2, 1, 0, 0] })
  Orc.z)) ∧ ((!decide (n < (1 : Int))) = false → (!decide (n < (1 : Int))) = false ∧ decide (n < (1 : Int)) = true ∧ K (Res.rv (AV.tup [AV.p0, AV.i .i64 (2 : Int)]) { tree := T.e, next := 0, log := [] })
  Orc.z)) := by kernel_rfl
theorem appZ_cw {n : Nat} {f g f' : Nat → Nat → CV} {i j : Nat} (h1 : i < n → CW (f i j) (f' i j)) (h2 : n ≤ i → CW (g (i - n) j) (f' i j)) : CW (appZ n f g i j) (f' i j) := by
  cases n with
  | zero => exact h2 (Nat.zero_le _)
  | succ n =>
    refine (zipCV_CW (Nat.blt i (n + 1)) (f i j) (g (i - (n + 1)) j)).trans ?_
    by_cases h : i < n + 1
    · rw [show Nat.blt i (n + 1) = true by rw [Nat.blt_eq]; exact h]
      exact h1 h
    · rw [show Nat.blt i (n + 1) = false by rw [Bool.eq_false_iff, ne_eq, Nat.blt_eq]; exact h]
      exact h2 (by omega)
theorem nthW_lo (w : Nat × (Nat → Int)) (P : PW) {k : Nat} (h : k < P.length) : nthW (w :: P) k = nthW P k := by
  unfold nthW
  rw [show (w :: P).length - 1 - k = (P.length - 1 - k) + 1 by simp; omega, List.drop_succ_cons]
theorem nthW_hi (w : Nat × (Nat → Int)) (P : PW) : nthW (w :: P) P.length = w := by
  unfold nthW
  rw [show (w :: P).length - 1 - P.length = 0 by simp]; rfl
theorem pen_app (q : Nat) (bs : Nat → Int) (P : PW) {i j : Nat} (hi : i < P.length + 1) (hj : j < 2) :
    CW (appZ P.length (penF (oA P) (oB P)) (fun _ j => List.getD [CV.i .i64 (Int.ofNat q), CV.sv 1 64 fun k _ => .i .u8 (bs k)] j .p0) i j) (penF (oA ((q, bs) :: P)) (oB ((q, bs) :: P)) i j) := by
  refine appZ_cw (fun h => .of ?_) (fun h => .of ?_)
  · unfold penF oA oB
    rw [nthW_lo _ _ h]
  · have : i = P.length := by omega
    subst this
    unfold penF oA oB
    rw [nthW_hi]
    have hj : j = 0 ∨ j = 1 := by omega
    rcases hj with rfl | rfl <;> exact Eq.refl _
noncomputable def rnO (v : AV) : AObj := .cells 51 5 [] (setAll .e 0 [v, .l0, .i .i64 0, .i .i64 (-1), .b false])
noncomputable def rnI (n : Int) : Nat → List (Nat × AV) × List (Option AObj)
  | 0 => ([(0, .i .i64 n), (4, .p 0 0), (5, .i .i64 0)], [some (rnO .l0)])
  | k + 1 => ([(0, .i .i64 n), (4, .p 0 0), (5, .i .i64 (Int.ofNat (k + 1)))], [some (rnO (.lr 1 1 0 (k + 1) false)), some (.rows 55 1 (k + 1) (imgF (SS.new (k + 1))))])
theorem zero_sv : CW (CV.sv 1 64 fun _ j => List.getD [CV.i IntKind.u8 (0 : Int)] j CV.p0) (.sv 1 64 fun _ _ => .i .u8 0) := by
  intro ro v h
  cases h with
  | sv _ _ _ B o cap g hc h1 h2 =>
    refine .sv _ _ _ B o cap g hc h1 fun i j hi hj => ?_
    have : j = 0 := by omega
    subst this
    exact h2 i 0 hi (by omega)
theorem rn_ov : OVL [some (rnO (.l 1 0 1 1 1 false)), some (cellsO 55 [.sv 1 64 fun _ j => List.getD [CV.i IntKind.u8 (0 : Int)] j CV.p0])] [some (rnO (.lr 1 1 0 1 false)), some (.rows 55 1 1 (imgF (SS.new 1)))] := by
  refine ⟨.cellsD (dflt := []) (l := [.l 1 0 1 1 1 false, .l0, .i .i64 0, .i .i64 (-1), .b false]) (l' := [.lr 1 1 0 1 false, .l0, .i .i64 0, .i .i64 (-1), .b false]) ⟨⟨fun _ => rfl, fun ρ x h => h.l_lr⟩, .refl _, .refl _, .refl _, .refl _, trivial⟩, .x (OX.cellsRows (f := fun i => imgF (SS.new 1) i 0) rfl fun i hi => ?_), trivial⟩
  have : i = 0 := by omega
  subst this
  refine ⟨_, rfl, fun ρ x h => ?_⟩
  cases h with | sv _ _ _ _ hc => exact zero_sv _ _ hc
theorem rnewG_lp (n : Nat) (h1 : 1 ≤ n) (hn : n ≤ 512) :
    LDoes Tryd.prog (loopAt Tryd.prog 7 0) 30 0 (mkT (rnI (Int.ofNat n) 0).1) (rnI (Int.ofNat n) 0).2 (.exit 0) (mkT [(4, .p 0 0)]) [some (rnO (.lr 1 1 0 n false)), some (.rows 55 1 n (imgF (SS.new n)))] := by
  refine loop_indV (D := Nat) (l' := [(4, .p 0 0)]) (rnI (Int.ofNat n)) (fun k => n - k) (fun k => k ≤ n) ?_ 0 (Nat.zero_le n)
  intro k hk
  refine ⟨Nat.zero_le _, 1000000, ?_⟩
  have mk : ((1 : Nat) = 1 ∧ (64 : Nat) ≤ 64) ∧ (0 : Int) ≤ 64 ∧ (64 : Int) ≤ 64 ∧ (64 : Int) ≤ 1073741824 := by decide
  cases k with
  | zero =>
    exact ⟨_, (rnew0_vc (Int.ofNat n) _).mpr ⟨fun _ => ⟨trivial, mk, trivial, by decide, .inl ⟨1, [0, 3], [], _, _, [(0, .i .i64 (Int.ofNat n)), (4, .p 0 0), (5, .i .i64 1)], [some (rnO (.l 1 0 1 1 1 false)), some (cellsO 55 [.sv 1 64 fun _ j => List.getD [CV.i IntKind.u8 (0 : Int)] j CV.p0])], h1, by show n - 1 < n - 0; omega, rfl,
      st_is [0, 3] (by kernel_rfl) rfl rfl rfl ⟨by kernel_rfl, by kernel_rfl, by kernel_rfl, by kernel_rfl, trivial⟩ rfl, .refl _, rn_ov⟩⟩, fun h => absurd (of_decide_eq_false h) (by simp; omega)⟩⟩
  | succ k =>
    by_cases hlt : k + 1 < n
    · have sz : 0 + (k + 1) ≤ k + 1 ∧ True ∧ k + 1 + 1 ≤ 140737488355328 ∧ (3 * (k + 1 + 1) + 1536) * 24 ≤ 562949953421312 := ⟨by omega, trivial, by omega, by omega⟩
      exact ⟨_, (rnewR_vc (Int.ofNat n) (k + 1) (imgF (SS.new (k + 1))) _).mpr ⟨fun _ => ⟨trivial, mk, sz, trivial, ⟨by simp <;> omega, by simp <;> omega⟩,
        .inl ⟨k + 1 + 1, [0, 4], [], _, _, [(0, .i .i64 (Int.ofNat n)), (4, .p 0 0), (5, .i .i64 (Int.ofNat (k + 1 + 1)))], [some (rnO (.lr 1 1 0 (k + 1 + 1) false)), some (.rows 55 1 (k + 1 + 1) (appZ (k + 1) (imgF (SS.new (k + 1))) fun _ j => List.getD [CV.sv 1 64 fun _ j => List.getD [CV.i IntKind.u8 (0 : Int)] j CV.p0] j CV.p0))], hlt, by show n - (k + 1 + 1) < n - (k + 1); omega, rfl,
          st_is [0, 4] (by kernel_rfl) rfl rfl rfl ⟨by kernel_rfl, by kernel_rfl, by kernel_rfl, by kernel_rfl, trivial⟩ rfl, .refl _, .refl _, .rowsW fun i j hi hj => appZ_cw (fun _ => .of (Eq.refl _)) (fun _ => by
            have : j = 0 := by omega
            subst this
            exact zero_sv), trivial⟩⟩, fun h => absurd (of_decide_eq_false h) (by simp; omega)⟩⟩
    · have : k + 1 = n := by omega
      subst this
      exact ⟨_, (rnewR_vc _ (k + 1) (imgF (SS.new (k + 1))) _).mpr ⟨fun h => absurd (of_decide_eq_true h) (by simp), fun _ => .inr ⟨[0, 1], [], _, _, [(4, .p 0 0)], [some (rnO (.lr 1 1 0 (k + 1) false)), some (.rows 55 1 (k + 1) (imgF (SS.new (k + 1))))], rfl, by simp, st_is [0, 1] (by kernel_rfl) rfl rfl rfl ⟨by kernel_rfl, by kernel_rfl, by kernel_rfl, by kernel_rfl, trivial⟩ rfl, .refl _, .refl _⟩⟩⟩
theorem rnew2_con (n : Nat) (h1 : 1 ≤ n) (hn : n ≤ 512) : Con Tryd.prog 7 [.i .i64 (Int.ofNat n)] [] (.tup [.p 0 0, .i .i64 0]) [.set (rsA 2 (SS.new n)), .set (rsR (SS.new n)), .set (rsP (SS.new n))] := by
  have d1 := nd_f (a := Int.ofNat n) (b := 1) (by simp; omega)
  have d2 : decide ((512 : Int) < Int.ofNat n) = false := decide_eq_false (by simp; omega)
  have k : Con Tryd.prog 7 [.i .i64 (Int.ofNat n)] [] (.tup [.p 0 0, .i .i64 0]) [.set (rnO (.lr 1 1 0 n false)), .set (.rows 55 1 n (imgF (SS.new n)))] :=
    con_of_run [] [1, 2] ((rnew_vc (Int.ofNat n) _).mpr ⟨fun _ => ⟨d1, decide_eq_false (by simp; omega), fun h => (by rw [d2] at h; cases h), fun _ => ⟨rnewG_lp n h1 hn, _, _, rfl, ret_is (by kernel_rfl) rfl (by kernel_rfl) (by kernel_rfl) rfl ⟨by kernel_rfl, by kernel_rfl, by kernel_rfl, by kernel_rfl, trivial⟩⟩⟩, fun h => (by rw [d1] at h; cases h)⟩)
  exact (k.padV (Nat.zero_le _) (.rows 91 2 0 (penF (oA []) (oB []))) rfl).post (.refl _) ⟨rsZ_ov n 0 (-1) false, .refl _, .refl _, trivial⟩
theorem rwriteOk_con (s : SS) (q : Nat) (bs : Nat → Int) (ok : s.Ok) (hl : s.P.length ≤ 1073741824) (ho : s.off = false) (hq : q < s.n) :
    Con Tryd.prog 38 [.p 0 0, .i .i64 (Int.ofNat q), .sv 1 64 fun k _ => .i .u8 (bs k)] [some (rsA 2 s), some (rsR s), some (rsP s)] (.i .i64 (s.wrote q bs).payE)
      [.set (rsA 3 (s.wrote q bs).pay), .keep, .gone, .set (rsP (s.wrote q bs).pay)] := by
  have d0 := nd_f (a := Int.ofNat q) (b := 0) (by simp)
  have d1 : (!decide (Int.ofNat s.n ≤ Int.ofNat q)) = true := by simp; omega
  have d1' : decide (Int.ofNat s.n ≤ Int.ofNat q) = false := by simp; omega
  have d2 : (!decide (Int.ofNat 64 = (64 : Int))) = false := by decide
  have sz : 0 + s.P.length ≤ s.P.length ∧ True ∧ s.P.length + 1 ≤ 140737488355328 ∧ (3 * (s.P.length + 1) + 1536) * 32 ≤ 562949953421312 := ⟨by omega, trivial, by omega, by omega⟩
  have hw : (-9223372036854775808 : Int) ≤ Int.ofNat s.wr + 1 ∧ Int.ofNat s.wr + 1 ≤ (9223372036854775807 : Int) := by have := ok.wr; exact ⟨by simp; omega, by simp; omega⟩
  have fin : ∀ (s' : SS) (am : Int) (off : Bool) (e : Int), s'.n = s.n → s'.P = (q, bs) :: s.P → s'.wr = s.wr + 1 → am = s'.am → off = s'.off →
      Con Tryd.prog 38 [.p 0 0, .i .i64 (Int.ofNat q), .sv 1 64 fun k _ => .i .u8 (bs k)] [some (rsA 2 s), some (rsR s), some (rsP s)] (.i .i64 e) [.set (rsQ 3 s.n (addN s.P.length 1) (s.wr + 1) am off), .keep, .gone,
        .set (.rows 91 2 (addN s.P.length 1) (appZ s.P.length (penF (oA s.P) (oB s.P)) (fun _ j => List.getD [CV.i .i64 (Int.ofNat q), CV.sv 1 64 fun k _ => .i .u8 (bs k)] j .p0)))] →
      Con Tryd.prog 38 [.p 0 0, .i .i64 (Int.ofNat q), .sv 1 64 fun k _ => .i .u8 (bs k)] [some (rsA 2 s), some (rsR s), some (rsP s)] (.i .i64 e) [.set (rsA 3 s'), .keep, .gone, .set (rsP s')] := fun s' am off e h1 h2 h3 h4 h5 k => by
    rw [addN_eq] at k
    have e1 : rsA 3 s' = rsQ 3 s.n (s.P.length + 1) (s.wr + 1) am off := by
      unfold rsA
      rw [h1, h2, h3, h4, h5]; rfl
    rw [e1]
    refine k.post (.refl _) ⟨.refl _, .refl _, .refl _, ?_, trivial⟩
    unfold rsP
    rw [h2]
    exact .rowsW fun i j hi hj => pen_app q bs s.P hi hj
  cases ha : s.armed with
  | false =>
    have e1 : (s.wrote q bs).pay = s.wrote q bs := by show (match s.armed with | false => _ | true => _) = _; rw [ha]
    have e2 : (s.wrote q bs).payE = 0 := by show (match s.armed with | false => (0 : Int) | true => _) = _; rw [ha]
    have em : s.am = -1 := by unfold SS.am; rw [ha]; rfl
    rw [e1, e2]
    refine fin (s.wrote q bs) s.am s.off 0 rfl rfl rfl rfl rfl (con_of_run [] [4] ((rwrite_vc s 64 (Int.ofNat q) bs _).mpr ⟨trivial, fun h => (by rw [ho] at h; cases h), fun _ => ⟨fun _ => ⟨d0, d0, d0, trivial, d0, d0, d0, decide_eq_false (by simp), fun _ => ⟨d1, d1, d1', fun h => (by rw [d2] at h; cases h),
      fun _ => ⟨trivial, copied_con 64 bs (by decide), sz, trivial, trivial, hw, trivial, trivial, fun h => (by rw [em] at h; cases h), fun _ => ⟨trivial, fun h => (by rw [em] at h; cases h), fun _ => ⟨_, _, rfl, ?_⟩⟩⟩⟩, fun h => (by rw [d1] at h; cases h)⟩, fun h => (by rw [d0] at h; cases h)⟩⟩))
    exact ret_is (by kernel_rfl) rfl (by kernel_rfl) (by kernel_rfl) rfl (by refine ⟨?_, ?_, ?_, ?_, ?_, ?_, trivial⟩ <;> kernel_rfl)
  | true =>
    cases hb : Nat.beq s.left 0 with
    | true =>
      have hl0 : s.left = 0 := by rwa [Nat.beq_eq] at hb
      have e1 : (s.wrote q bs).pay = { s.wrote q bs with off := true, armed := false } := by
        show (match s.armed with | false => _ | true => match Nat.beq s.left 0 with | true => _ | false => _) = _
        rw [ha, hb]
      have e2 : (s.wrote q bs).payE = 13 := by
        show (match s.armed with | false => (0 : Int) | true => match Nat.beq s.left 0 with | true => 13 | false => 0) = _
        rw [ha, hb]
      have em : s.am = 0 := by unfold SS.am; rw [ha, hl0]; rfl
      rw [e1, e2]
      refine fin { s.wrote q bs with off := true, armed := false } (-1) true 13 rfl rfl rfl rfl rfl (con_of_run [] [4] ((rwrite_vc s 64 (Int.ofNat q) bs _).mpr ⟨trivial, fun h => (by rw [ho] at h; cases h), fun _ => ⟨fun _ => ⟨d0, d0, d0, trivial, d0, d0, d0, decide_eq_false (by simp), fun _ => ⟨d1, d1, d1', fun h => (by rw [d2] at h; cases h),
        fun _ => ⟨trivial, copied_con 64 bs (by decide), sz, trivial, trivial, hw, trivial, trivial, fun _ => ⟨trivial, trivial, _, _, rfl, ?_⟩, fun h => (by rw [em] at h; cases h)⟩⟩, fun h => (by rw [d1] at h; cases h)⟩, fun h => (by rw [d0] at h; cases h)⟩⟩))
      exact ret_is (by kernel_rfl) rfl (by kernel_rfl) (by kernel_rfl) rfl (by refine ⟨?_, ?_, ?_, ?_, ?_, ?_, trivial⟩ <;> kernel_rfl)
    | false =>
      have hl0 : s.left ≠ 0 := by intro e; rw [e] at hb; cases hb
      have e1 : (s.wrote q bs).pay = { s.wrote q bs with left := s.left - 1 } := by
        show (match s.armed with | false => _ | true => match Nat.beq s.left 0 with | true => _ | false => _) = _
        rw [ha, hb]; rfl
      have e2 : (s.wrote q bs).payE = 0 := by
        show (match s.armed with | false => (0 : Int) | true => match Nat.beq s.left 0 with | true => 13 | false => 0) = _
        rw [ha, hb]
      have em : s.am = Int.ofNat s.left := by unfold SS.am; rw [ha]; rfl
      have hle := ok.left
      have e3 : s.am - 1 = SS.am { s.wrote q bs with left := s.left - 1 } := by
        rw [em]
        show Int.ofNat s.left - 1 = (bif s.armed then Int.ofNat (s.left - 1) else -1)
        rw [ha]; simp; omega
      have dz : decide (s.am = 0) = false := by rw [em]; simp; exact hl0
      have dp : decide (0 < s.am) = true := by rw [em]; simp; omega
      rw [e1, e2]
      refine fin { s.wrote q bs with left := s.left - 1 } (s.am - 1) s.off 0 rfl rfl rfl e3 rfl (con_of_run [] [4] ((rwrite_vc s 64 (Int.ofNat q) bs _).mpr ⟨trivial, fun h => (by rw [ho] at h; cases h), fun _ => ⟨fun _ => ⟨d0, d0, d0, trivial, d0, d0, d0, decide_eq_false (by simp), fun _ => ⟨d1, d1, d1', fun h => (by rw [d2] at h; cases h),
        fun _ => ⟨trivial, copied_con 64 bs (by decide), sz, trivial, trivial, hw, trivial, trivial, fun h => (by rw [dz] at h; cases h), fun _ => ⟨trivial, fun _ => ⟨trivial, ⟨by rw [em]; simp; omega, by rw [em]; simp; omega⟩, trivial, _, _, rfl, ?_⟩, fun h => (by rw [dp] at h; cases h)⟩⟩⟩, fun h => (by rw [d1] at h; cases h)⟩, fun h => (by rw [d0] at h; cases h)⟩⟩))
      exact ret_is (by kernel_rfl) rfl (by kernel_rfl) (by kernel_rfl) rfl (by refine ⟨?_, ?_, ?_, ?_, ?_, ?_, trivial⟩ <;> kernel_rfl)
theorem rwriteNo_con (s : SS) (i : Int) (L : Nat) (bs : Nat → Int) (h : s.off = true ∨ ¬ (0 ≤ i ∧ i < Int.ofNat s.n ∧ L = 64)) :
    Con Tryd.prog 38 [.p 0 0, .i .i64 i, .sv 1 L fun k _ => .i .u8 (bs k)] [some (rsA 2 s), some (rsR s), some (rsP s)] (.i .i64 (s.wrE i L)) [.keep, .keep, .keep] := by
  cases ho : s.off with
  | true =>
    have e1 : s.wrE i L = 13 := by unfold SS.wrE; rw [ho]
    rw [e1]
    exact con_of_run [] [] ((rwrite_vc s L i bs _).mpr ⟨trivial, fun _ => ⟨_, _, rfl, ret_is (by kernel_rfl) rfl (by kernel_rfl) (by kernel_rfl) rfl (by refine ⟨?_, ?_, ?_, ?_, ?_, ?_, trivial⟩ <;> kernel_rfl)⟩, fun h => (by rw [ho] at h; cases h)⟩)
  | false =>
    have hn : ¬ (0 ≤ i ∧ i < Int.ofNat s.n ∧ L = 64) := by
      rcases h with h | h
      · rw [ho] at h; cases h
      · exact h
    have e1 : s.wrE i L = 2 := by unfold SS.wrE; rw [ho, decide_eq_false hn]
    rw [e1]
    by_cases h0 : i < 0
    · have d := nd_t h0
      exact con_of_run [] [] ((rwrite_vc s L i bs _).mpr ⟨trivial, fun h => (by rw [ho] at h; cases h), fun _ => ⟨fun h => (by rw [d] at h; cases h), fun _ => ⟨d, d, d, d, d, d, decide_eq_true h0, _, _, rfl, ret_is (by kernel_rfl) rfl (by kernel_rfl) (by kernel_rfl) rfl (by refine ⟨?_, ?_, ?_, ?_, ?_, ?_, trivial⟩ <;> kernel_rfl)⟩⟩⟩)
    · have d := nd_f h0
      by_cases h1 : Int.ofNat s.n ≤ i
      · have d1 : (!decide (Int.ofNat s.n ≤ i)) = false := by rw [decide_eq_true h1]; rfl
        exact con_of_run [] [] ((rwrite_vc s L i bs _).mpr ⟨trivial, fun h => (by rw [ho] at h; cases h), fun _ => ⟨fun _ => ⟨d, d, d, trivial, d, d, d, decide_eq_false h0, fun h => (by rw [d1] at h; cases h), fun _ => ⟨d1, d1, decide_eq_true h1, _, _, rfl, ret_is (by kernel_rfl) rfl (by kernel_rfl) (by kernel_rfl) rfl (by refine ⟨?_, ?_, ?_, ?_, ?_, ?_, trivial⟩ <;> kernel_rfl)⟩⟩, fun h => (by rw [d] at h; cases h)⟩⟩)
      · have d1 : (!decide (Int.ofNat s.n ≤ i)) = true := by rw [decide_eq_false h1]; rfl
        have hL : (!decide (Int.ofNat L = (64 : Int))) = true := by
          have : ¬ L = 64 := fun e => hn ⟨by omega, by omega, e⟩
          simp; omega
        exact con_of_run [] [] ((rwrite_vc s L i bs _).mpr ⟨trivial, fun h => (by rw [ho] at h; cases h), fun _ => ⟨fun _ => ⟨d, d, d, trivial, d, d, d, decide_eq_false h0, fun _ => ⟨d1, d1, decide_eq_false h1, fun _ => ⟨_, _, rfl, ret_is (by kernel_rfl) rfl (by kernel_rfl) (by kernel_rfl) rfl (by refine ⟨?_, ?_, ?_, ?_, ?_, ?_, trivial⟩ <;> kernel_rfl)⟩, fun h => (by rw [hL] at h; cases h)⟩, fun h => (by rw [d1] at h; cases h)⟩, fun h => (by rw [d] at h; cases h)⟩⟩)
end Go.Proofs.St
