/- Runs over unknown values, told by the kernel: part LpA. -/
import Derived.Test.YtnekjjidcknieaaLaA
set_option linter.unusedSimpArgs false
set_option linter.unusedVariables false
/- Rows that may be, and what is done to them. -/
namespace Go.Proofs.Lk
open Go Go.Sim Go.Proofs
def mw (h : Nat → Int) (x : HQ) : Bool := mayWaitB h x.a x.m x.w
structure RowW (r : Rw) : Prop where
  hm : hmB r.h = true
  wait : ∀ x ∈ r.q, mw r.h x = true
  once : r.q.Pairwise (fun x y => x.a ≠ y.a)
def Stk (r : Rw) : Prop := ∀ x q, r.q = x :: q → canB r.h x.a x.m = false
theorem RowOk.w {r : Rw} (h : RowOk r) : RowW r ∧ Stk r := by
  refine ⟨⟨h.hm, fun x hx => ?_, ?_⟩, h.stuck⟩
  · obtain ⟨i, hi, rfl⟩ := List.getElem_of_mem hx
    exact h.wait i hi
  · rw [List.pairwise_iff_getElem]
    intro i j hi hj hij e
    have := h.once i j hi hj e
    omega
theorem once_idx {q : List HQ} (h : q.Pairwise (fun x y => x.a ≠ y.a)) {i j : Nat} (hi : i < q.length) (hj : j < q.length) (e : q[i].a = q[j].a) : i = j := by
  rw [List.pairwise_iff_getElem] at h
  rcases Nat.lt_trichotomy i j with c | c | c
  · exact absurd e (h i j hi hj c)
  · exact c
  · exact absurd e.symm (h j i hj hi c)
theorem fi_self {q : List HQ} (h : q.Pairwise (fun x y => x.a ≠ y.a)) {i : Nat} (hi : i < q.length) : fi q.length (qA q) (qA q i) = i := by
  have hle := fi_le q.length (qA q) (qA q i)
  rcases Nat.lt_trichotomy (fi q.length (qA q) (qA q i)) i with c | c | c
  · have := fi_at (n := q.length) (A := qA q) (k := qA q i) (by omega)
    have c' : fi q.length (qA q) (qA q i) < q.length := by omega
    rw [qA_lt c'] at this
    exact once_idx h c' hi (this.trans (qA_lt hi))
  · exact c
  · exact absurd rfl (fi_far c)
theorem qmB_of (h : Nat → Int) (n : Nat) (A M W : Nat → Int) : ∀ m i, (∀ j, i ≤ j → j < i + m → mayWaitB h (A j) (M j) (W j) = true ∧ fi n A (A j) = j) → qmB h n A M W m i = true
  | 0, i, _ => rfl
  | m + 1, i, q => by
    rw [qmB_s]
    simp only [Bool.and_eq_true, decide_eq_true_eq]
    exact ⟨(q i (Nat.le_refl _) (by omega)).1, (q i (Nat.le_refl _) (by omega)).2, qmB_of h n A M W m (i + 1) fun j a b => q j (by omega) (by omega)⟩
theorem qM_lt {q : List HQ} {i : Nat} (h : i < q.length) : qM q i = q[i].m := by unfold qM; rw [List.getD_eq_getElem?_getD, List.getElem?_eq_getElem h]; rfl
theorem qW_lt {q : List HQ} {i : Nat} (h : i < q.length) : qW q i = q[i].w := by unfold qW; rw [List.getD_eq_getElem?_getD, List.getElem?_eq_getElem h]; rfl
theorem mayB_of {r : Rw} (h : RowW r) (s : Stk r) : mayB r = true := by
  unfold mayB mayBeB
  simp only [Bool.and_eq_true, Bool.not_eq_true']
  refine ⟨h.hm, qmB_of _ _ _ _ _ _ _ fun j _ hj => ?_, ?_⟩
  · have hj' : j < r.q.length := by omega
    refine ⟨?_, fi_self h.once hj'⟩
    rw [qA_lt hj', qM_lt hj', qW_lt hj']
    exact h.wait _ (List.getElem_mem hj')
  · cases e : r.q with
    | nil => rfl
    | cons x q =>
      have := s x q e
      simpa [fcB, qA, qM] using this
def rmQ (k : Int) : List HQ → List HQ
  | [] => []
  | x :: q => if x.a = k then q else x :: rmQ k q
def hqQ (k d : Int) : List HQ → Int
  | [] => d
  | x :: q => if x.a = k then x.m else hqQ k d q
theorem fiN_shift (x : HQ) (q : List HQ) (k : Int) : ∀ m i, fiN (qA (x :: q)) k m (i + 1) = fiN (qA q) k m i + 1
  | 0, i => rfl
  | m + 1, i => by
    have e : qA (x :: q) (i + 1) = qA q i := rfl
    unfold fiN
    rw [e, fiN_shift x q k m (i + 1)]
    split <;> rfl
theorem fi_cons (x : HQ) (q : List HQ) (k : Int) : fi (x :: q).length (qA (x :: q)) k = if x.a = k then 0 else fi q.length (qA q) k + 1 := by
  show fiN (qA (x :: q)) k (q.length + 1) 0 = _
  have e : qA (x :: q) 0 = x.a := rfl
  unfold fiN
  rw [e, fiN_shift]
  rfl
theorem ti_cons (x : HQ) (q : List HQ) (k : Int) : ti (x :: q).length (qA (x :: q)) k = if x.a = k then 1 else ti q.length (qA q) k + 1 := by
  unfold ti
  rw [fi_cons]
  by_cases c : x.a = k
  · simp [c]
  · simp only [if_neg c, List.length_cons]
    by_cases d : fi q.length (qA q) k < q.length
    · rw [if_pos (by omega), if_pos d]
    · rw [if_neg (by omega), if_neg d]
theorem rm_eq (k : Int) : ∀ q : List HQ, q.take (fi q.length (qA q) k) ++ q.drop (ti q.length (qA q) k) = rmQ k q
  | [] => rfl
  | x :: q => by
    rw [fi_cons, ti_cons]
    unfold rmQ
    by_cases c : x.a = k
    · simp [c]
    · simp only [if_neg c]
      rw [List.take_succ_cons, List.drop_succ_cons, List.cons_append, rm_eq k q]
theorem hq_eq (k d : Int) : ∀ q : List HQ, (if fi q.length (qA q) k < q.length then qM q (fi q.length (qA q) k) else d) = hqQ k d q
  | [] => rfl
  | x :: q => by
    rw [fi_cons]
    unfold hqQ
    by_cases c : x.a = k
    · simp only [if_pos c, List.length_cons]
      rw [if_pos (by omega)]; rfl
    · simp only [if_neg c, List.length_cons]
      rw [← hq_eq k d q]
      by_cases e : fi q.length (qA q) k < q.length
      · rw [if_pos (by omega), if_pos e]; rfl
      · rw [if_neg (by omega), if_neg e]
theorem freeR_eq (r : Rw) (k : Int) : freeR r k = ⟨setH r.h k 0, rmQ k r.q⟩ := by
  unfold freeR fr to
  rw [rm_eq]
theorem rmQ_sub (k : Int) : ∀ q : List HQ, (rmQ k q).Sublist q
  | [] => .slnil
  | x :: q => by
    unfold rmQ
    split
    · exact List.sublist_cons_self x q
    · exact (rmQ_sub k q).cons_cons x
theorem rmQ_ne (k : Int) : ∀ q : List HQ, q.Pairwise (fun x y => x.a ≠ y.a) → ∀ y ∈ rmQ k q, y.a ≠ k
  | [], _, y, hy => by cases hy
  | x :: q, h, y, hy => by
    rw [List.pairwise_cons] at h
    unfold rmQ at hy
    split at hy
    · rename_i c
      intro e
      exact h.1 y hy (by rw [c, e])
    · rename_i c
      rcases List.mem_cons.1 hy with rfl | hy
      · exact c
      · exact rmQ_ne k q h.2 y hy
def hm3 (a b c : Int) : Bool := (isModeB a && (isModeB b && goesB b a)) && (isModeB c && (goesB c a && goesB c b))
theorem hm3_eq (h : Nat → Int) : hmB h = hm3 (h 0) (h 1) (h 2) := rfl
theorem three {a : Int} (h : 0 ≤ a ∧ a < 3) : a = 0 ∨ a = 1 ∨ a = 2 := by omega
theorem hx_set (h : Nat → Int) (m : Int) {a b : Int} (ha : 0 ≤ a ∧ a < 3) (hb : 0 ≤ b ∧ b < 3) : hx (setH h a m) b = if b = a then m else hx h b := by
  rcases three ha with rfl | rfl | rfl <;> rcases three hb with rfl | rfl | rfl <;> rfl
theorem hm_set (h : Nat → Int) {a m : Int} (ha : 0 ≤ a ∧ a < 3) (hm : m = 1 ∨ m = 2) (c : canB h a m = true) (H : hmB h = true) : hmB (setH h a m) = true := by
  rw [hm3_eq] at H
  rcases three ha with rfl | rfl | rfl
  · show hm3 m (h 1) (h 2) = true
    simp only [hm3, canB, isModeB, isWishB, goesB, Bool.and_eq_true, Bool.or_eq_true, decide_eq_true_eq] at H c ⊢
    omega
  · show hm3 (h 0) m (h 2) = true
    simp only [hm3, canB, isModeB, isWishB, goesB, Bool.and_eq_true, Bool.or_eq_true, decide_eq_true_eq] at H c ⊢
    omega
  · show hm3 (h 0) (h 1) m = true
    simp only [hm3, canB, isModeB, isWishB, goesB, Bool.and_eq_true, Bool.or_eq_true, decide_eq_true_eq] at H c ⊢
    omega
theorem hm_zero (h : Nat → Int) {a : Int} (ha : 0 ≤ a ∧ a < 3) (H : hmB h = true) : hmB (setH h a 0) = true := by
  rw [hm3_eq] at H
  rcases three ha with rfl | rfl | rfl
  · show hm3 0 (h 1) (h 2) = true
    simp only [hm3, isModeB, isWishB, goesB, true_or, or_true, true_and, and_true, Bool.and_eq_true, Bool.or_eq_true, decide_eq_true_eq] at H ⊢
    omega
  · show hm3 (h 0) 0 (h 2) = true
    simp only [hm3, isModeB, isWishB, goesB, true_or, or_true, true_and, and_true, Bool.and_eq_true, Bool.or_eq_true, decide_eq_true_eq] at H ⊢
    omega
  · show hm3 (h 0) (h 1) 0 = true
    simp only [hm3, isModeB, isWishB, goesB, true_or, or_true, true_and, and_true, Bool.and_eq_true, Bool.or_eq_true, decide_eq_true_eq] at H ⊢
    omega
theorem mw_iff {h : Nat → Int} {x : HQ} : mw h x = true ↔ (0 ≤ x.a ∧ x.a < 3) ∧ (x.m = 1 ∨ x.m = 2) ∧ hx h x.a < x.m ∧ x.w = 0 := by
  unfold mw mayWaitB isServerB isWishB
  simp only [Bool.and_eq_true, Bool.or_eq_true, decide_eq_true_eq]
theorem mw_set {h : Nat → Int} {x : HQ} {a : Int} (m : Int) (ha : 0 ≤ a ∧ a < 3) (hne : x.a ≠ a) (hw : mw h x = true) : mw (setH h a m) x = true := by
  rw [mw_iff] at hw ⊢
  rw [hx_set h m ha hw.1, if_neg hne]
  exact hw
theorem goL_cons (h : Nat → Int) (x : HQ) (q : List HQ) : goL h (x :: q) = bif canB h x.a x.m then goL (setH h x.a x.m) q else ⟨h, x :: q⟩ := rfl
theorem goL_ok : ∀ (q : List HQ) (h : Nat → Int), RowW ⟨h, q⟩ → RowW (goL h q) ∧ Stk (goL h q)
  | [], h, w => ⟨w, fun x q e => by cases e⟩
  | x :: q, h, w => by
    rw [goL_cons]
    cases c : canB h x.a x.m with
    | false =>
      refine ⟨w, fun y q' e => ?_⟩
      simp only [cond_false, List.cons.injEq] at e
      obtain ⟨rfl, rfl⟩ := e
      exact c
    | true =>
      have hx0 := mw_iff.1 (w.wait x List.mem_cons_self)
      have ho := List.pairwise_cons.1 w.once
      refine goL_ok q (setH h x.a x.m) ⟨hm_set h hx0.1 hx0.2.1 c w.hm, fun y hy => ?_, ho.2⟩
      exact mw_set x.m hx0.1 (fun e => ho.1 y hy e.symm) (w.wait y (List.mem_cons_of_mem _ hy))
theorem free_w {r : Rw} (w : RowW r) {k : Int} (hk : 0 ≤ k ∧ k < 3) : RowW (freeR r k) := by
  rw [freeR_eq]
  exact ⟨hm_zero _ hk w.hm, fun x hx => mw_set 0 hk (rmQ_ne k r.q w.once x hx) (w.wait x ((rmQ_sub k r.q).subset hx)), w.once.sublist (rmQ_sub k r.q)⟩
theorem hqQ_ge {h : Nat → Int} {k : Int} (hk : 0 ≤ k ∧ k < 3) : ∀ q : List HQ, (∀ x ∈ q, mw h x = true) → hx h k ≤ hqQ k (hx h k) q
  | [], _ => Int.le_refl _
  | x :: q, w => by
    unfold hqQ
    split
    · rename_i c
      have := (mw_iff.1 (w x List.mem_cons_self)).2.2.1
      rw [c] at this
      omega
    · exact hqQ_ge hk q fun y hy => w y (List.mem_cons_of_mem _ hy)
theorem onR_may {r : Rw} (w : RowW r) : mayB (onR r) = true := by
  obtain ⟨a, b⟩ := goL_ok r.q r.h w
  exact mayB_of a b
theorem vaS_of {s : LS} (h : ∀ l, l < 19 → mayB (s.row l) = true) : vaS s = true := by
  have key : ∀ m l, l + m ≤ 19 → vaN s m l = true := by
    intro m
    induction m with
    | zero => intro l _; rfl
    | succ m ih =>
      intro l hl
      rw [vaN_s, Bool.and_eq_true]
      exact ⟨h l (by omega), ih (l + 1) (by omega)⟩
  exact key 19 0 (by omega)
theorem okA_iff {s : LS} {l k m : Int} : okA s l k m = true ↔ (0 ≤ l ∧ l < 19) ∧ (0 ≤ k ∧ k < 3) ∧ (m = 1 ∨ m = 2) ∧ vaS s = true := by
  unfold okA isLockB isServerB isWishB
  simp only [Bool.and_eq_true, Bool.or_eq_true, decide_eq_true_eq]
theorem okF_iff {s : LS} {l k : Int} : okF s l k = true ↔ (0 ≤ l ∧ l < 19) ∧ (0 ≤ k ∧ k < 3) ∧ vaS s = true := by
  unfold okF isLockB isServerB
  simp only [Bool.and_eq_true, decide_eq_true_eq]
set_option maxRecDepth 20000
theorem tsC_1 (t : TS) : ∀ i, i < 44 → (tsC t).getD (0 + i * 1 + 0) .p0 = rsF t.r i
  | 0, _ => by kernel_rfl
  | 1, _ => by kernel_rfl
  | 2, _ => by kernel_rfl
  | 3, _ => by kernel_rfl
  | 4, _ => by kernel_rfl
  | 5, _ => by kernel_rfl
  | 6, _ => by kernel_rfl
  | 7, _ => by kernel_rfl
  | 8, _ => by kernel_rfl
  | 9, _ => by kernel_rfl
  | 10, _ => by kernel_rfl
  | 11, _ => by kernel_rfl
  | 12, _ => by kernel_rfl
  | 13, _ => by kernel_rfl
  | 14, _ => by kernel_rfl
  | 15, _ => by kernel_rfl
  | 16, _ => by kernel_rfl
  | 17, _ => by kernel_rfl
  | 18, _ => by kernel_rfl
  | 19, _ => by kernel_rfl
  | 20, _ => by kernel_rfl
  | 21, _ => by kernel_rfl
  | 22, _ => by kernel_rfl
  | 23, _ => by kernel_rfl
  | 24, _ => by kernel_rfl
  | 25, _ => by kernel_rfl
  | 26, _ => by kernel_rfl
  | 27, _ => by kernel_rfl
  | 28, _ => by kernel_rfl
  | 29, _ => by kernel_rfl
  | 30, _ => by kernel_rfl
  | 31, _ => by kernel_rfl
  | 32, _ => by kernel_rfl
  | 33, _ => by kernel_rfl
  | 34, _ => by kernel_rfl
  | 35, _ => by kernel_rfl
  | 36, _ => by kernel_rfl
  | 37, _ => by kernel_rfl
  | 38, _ => by kernel_rfl
  | 39, _ => by kernel_rfl
  | 40, _ => by kernel_rfl
  | 41, _ => by kernel_rfl
  | 42, _ => by kernel_rfl
  | 43, _ => by kernel_rfl
  | n + 44, h => absurd h (by omega)
theorem tsC_2 (t : TS) : ∀ i j, i < 19 → j < 3 → (tsC t).getD (44 + i * 3 + j) .p0 = hF t.h i j
  | 0, 0, _, _ => by kernel_rfl
  | 0, 1, _, _ => by kernel_rfl
  | 0, 2, _, _ => by kernel_rfl
  | 1, 0, _, _ => by kernel_rfl
  | 1, 1, _, _ => by kernel_rfl
  | 1, 2, _, _ => by kernel_rfl
  | 2, 0, _, _ => by kernel_rfl
  | 2, 1, _, _ => by kernel_rfl
  | 2, 2, _, _ => by kernel_rfl
  | 3, 0, _, _ => by kernel_rfl
  | 3, 1, _, _ => by kernel_rfl
  | 3, 2, _, _ => by kernel_rfl
  | 4, 0, _, _ => by kernel_rfl
  | 4, 1, _, _ => by kernel_rfl
  | 4, 2, _, _ => by kernel_rfl
  | 5, 0, _, _ => by kernel_rfl
  | 5, 1, _, _ => by kernel_rfl
  | 5, 2, _, _ => by kernel_rfl
  | 6, 0, _, _ => by kernel_rfl
  | 6, 1, _, _ => by kernel_rfl
  | 6, 2, _, _ => by kernel_rfl
  | 7, 0, _, _ => by kernel_rfl
  | 7, 1, _, _ => by kernel_rfl
  | 7, 2, _, _ => by kernel_rfl
  | 8, 0, _, _ => by kernel_rfl
  | 8, 1, _, _ => by kernel_rfl
  | 8, 2, _, _ => by kernel_rfl
  | 9, 0, _, _ => by kernel_rfl
  | 9, 1, _, _ => by kernel_rfl
  | 9, 2, _, _ => by kernel_rfl
  | 10, 0, _, _ => by kernel_rfl
  | 10, 1, _, _ => by kernel_rfl
  | 10, 2, _, _ => by kernel_rfl
  | 11, 0, _, _ => by kernel_rfl
  | 11, 1, _, _ => by kernel_rfl
  | 11, 2, _, _ => by kernel_rfl
  | 12, 0, _, _ => by kernel_rfl
  | 12, 1, _, _ => by kernel_rfl
  | 12, 2, _, _ => by kernel_rfl
  | 13, 0, _, _ => by kernel_rfl
  | 13, 1, _, _ => by kernel_rfl
  | 13, 2, _, _ => by kernel_rfl
  | 14, 0, _, _ => by kernel_rfl
  | 14, 1, _, _ => by kernel_rfl
  | 14, 2, _, _ => by kernel_rfl
  | 15, 0, _, _ => by kernel_rfl
  | 15, 1, _, _ => by kernel_rfl
  | 15, 2, _, _ => by kernel_rfl
  | 16, 0, _, _ => by kernel_rfl
  | 16, 1, _, _ => by kernel_rfl
  | 16, 2, _, _ => by kernel_rfl
  | 17, 0, _, _ => by kernel_rfl
  | 17, 1, _, _ => by kernel_rfl
  | 17, 2, _, _ => by kernel_rfl
  | 18, 0, _, _ => by kernel_rfl
  | 18, 1, _, _ => by kernel_rfl
  | 18, 2, _, _ => by kernel_rfl
  | n + 19, _, h, _ => absurd h (by omega)
  | 0, n + 3, _, h => absurd h (by omega)
  | 1, n + 3, _, h => absurd h (by omega)
  | 2, n + 3, _, h => absurd h (by omega)
  | 3, n + 3, _, h => absurd h (by omega)
  | 4, n + 3, _, h => absurd h (by omega)
  | 5, n + 3, _, h => absurd h (by omega)
  | 6, n + 3, _, h => absurd h (by omega)
  | 7, n + 3, _, h => absurd h (by omega)
  | 8, n + 3, _, h => absurd h (by omega)
  | 9, n + 3, _, h => absurd h (by omega)
  | 10, n + 3, _, h => absurd h (by omega)
  | 11, n + 3, _, h => absurd h (by omega)
  | 12, n + 3, _, h => absurd h (by omega)
  | 13, n + 3, _, h => absurd h (by omega)
  | 14, n + 3, _, h => absurd h (by omega)
  | 15, n + 3, _, h => absurd h (by omega)
  | 16, n + 3, _, h => absurd h (by omega)
  | 17, n + 3, _, h => absurd h (by omega)
  | 18, n + 3, _, h => absurd h (by omega)
theorem tsC_3 (t : TS) : ∀ i, i < 19 → (tsC t).getD (101 + i * 1 + 0) .p0 = quF t.n t.A t.M t.W i
  | 0, _ => by kernel_rfl
  | 1, _ => by kernel_rfl
  | 2, _ => by kernel_rfl
  | 3, _ => by kernel_rfl
  | 4, _ => by kernel_rfl
  | 5, _ => by kernel_rfl
  | 6, _ => by kernel_rfl
  | 7, _ => by kernel_rfl
  | 8, _ => by kernel_rfl
  | 9, _ => by kernel_rfl
  | 10, _ => by kernel_rfl
  | 11, _ => by kernel_rfl
  | 12, _ => by kernel_rfl
  | 13, _ => by kernel_rfl
  | 14, _ => by kernel_rfl
  | 15, _ => by kernel_rfl
  | 16, _ => by kernel_rfl
  | 17, _ => by kernel_rfl
  | 18, _ => by kernel_rfl
  | n + 19, h => absurd h (by omega)
theorem tsW_ov (t : TS) : OV (some (tsW t)) (some (tsS t)) := by
  refine OV.segsW ⟨⟨rfl, rfl, rfl, fun i j hi hj => ?_⟩, ⟨rfl, rfl, rfl, fun i j hi hj => .of (tsC_2 t i j hi hj)⟩, ⟨rfl, rfl, rfl, fun i j hi hj => ?_⟩, trivial⟩
  · obtain rfl : j = 0 := by have : j < 1 := hj; omega
    exact .of (tsC_1 t i hi)
  · obtain rfl : j = 0 := by have : j < 1 := hj; omega
    exact .of (tsC_3 t i hi)
theorem tsL_map (t : TS) : tsL t = (tsC t).map toAV := by kernel_rfl
theorem tsL_len (t : TS) : (tsL t).length = 120 := by kernel_rfl
theorem tsC_len (t : TS) : (tsC t).length = 120 := by kernel_rfl
theorem vwl_at {l r : List AV} (h : VWL l r) {i : Nat} (hi : i < r.length) : ∃ u, l[i]? = some u ∧ VW u (r[i]) := h.get i _ (List.getElem?_eq_getElem hi)
theorem cells_ov (e : TypeId) (d : List AV) (cs : T AV) (t : TS) (l : List AV) (hl : ∀ i, i < 120 → cellAt 120 d cs i = l[i]?) (hv : VWL l (tsL t)) : OX (some (.cells e 120 d cs)) (some (.segs e 120 [⟨0, 1, 44, fun i j => (tsC t).getD (0 + i * 1 + j) .p0⟩, ⟨44, 3, 19, fun i j => (tsC t).getD (44 + i * 3 + j) .p0⟩, ⟨101, 1, 19, fun i j => (tsC t).getD (101 + i * 1 + j) .p0⟩] [])) := by
  have key : ∀ k, k < 120 → ∃ v, cellAt 120 d cs k = some v ∧ ∀ (ρ : Rho) (x : Value), VR ρ v x → CR ρ.ro ((tsC t).getD k .p0) x := by
    intro k hk
    obtain ⟨u, u1, u2⟩ := vwl_at hv (i := k) (by rw [tsL_len]; exact hk)
    refine ⟨u, by rw [hl k hk]; exact u1, fun ρ x hx => ?_⟩
    have h2 := u2.2 ρ x hx
    have e2 : (tsL t)[k]'(by rw [tsL_len]; exact hk) = toAV ((tsC t).getD k .p0) := by
      have : (tsL t)[k]? = ((tsC t)[k]?).map toAV := by rw [tsL_map, List.getElem?_map]
      rw [List.getElem?_eq_getElem (by rw [tsL_len]; exact hk), List.getElem?_eq_getElem (by rw [tsC_len]; exact hk)] at this
      rw [List.getD_eq_getElem?_getD, List.getElem?_eq_getElem (by rw [tsC_len]; exact hk)]
      simpa using this
    rw [e2] at h2
    exact toAV_CR h2
  refine OX.cellsSegs fun g hg => ?_
  simp only [List.mem_cons, List.not_mem_nil, or_false] at hg
  rcases hg with rfl | rfl | rfl
  · exact ⟨by simp, fun i j hi hj => key _ (by simp only at hi hj ⊢; omega)⟩
  · exact ⟨by simp, fun i j hi hj => key _ (by simp only at hi hj ⊢; omega)⟩
  · exact ⟨by simp, fun i j hi hj => key _ (by simp only at hi hj ⊢; omega)⟩
theorem OV.trans {a b c : Option AObj} (h : OV a b) (h' : OV b c) : OV a c := by
  refine .x fun x' hx => ?_
  obtain ⟨y, hy, y1, y2⟩ := h'.some hx
  obtain ⟨z, hz, z1, z2⟩ := h.some hy
  exact ⟨z, hz, fun q => y1 (z1 q), fun ρ p w q => y2 ρ p w (z2 ρ p w q)⟩
theorem tsZ_ov (d : List AV) (t : TS) : OV (some (tsD d t)) (some (tsS t)) := by
  refine OV.trans (.x (cells_ov 39 d (setAll .e 0 (tsL t)) t (tsL t) (fun i hi => ?_) (VWL.refl _))) (tsW_ov t)
  unfold cellAt
  have hb : Nat.blt i 120 = true := by rw [Nat.blt_eq]; exact hi
  rw [hb, setAll_get, if_pos ⟨Nat.zero_le _, by rw [tsL_len]; omega⟩]
  rw [Nat.sub_zero, List.getElem?_eq_getElem (by rw [tsL_len]; exact hi)]
  rfl
theorem tsS_F (t : TS) : OV (some (tsS t)) (some (tsF t)) := by
  refine .x fun x' hx9 => ?_
  simp only [tsF, Option.some.injEq] at hx9; subst hx9
  refine ⟨_, rfl, fun h => h, ?_⟩
  rintro ρ p w ⟨c, fr, h1, h2, h3, h4, h5, h6⟩
  refine ⟨c, fr, h1, h2, h3, h4, fun g' hg' => ?_, h6⟩
  simp only [List.mem_cons, List.not_mem_nil, or_false] at hg'
  rcases hg' with rfl | rfl | rfl
  · exact h5 _ (by simp)
  · obtain ⟨k1, k2⟩ := h5 ⟨44, 3, 19, hF t.h⟩ (by simp)
    refine ⟨by simp, fun i j hi hj => ?_⟩
    simp only at hi hj k2 ⊢
    obtain ⟨v', q1, q2⟩ := k2 (i / 3) (i % 3) (by omega) (by omega)
    refine ⟨v', ?_, q2⟩
    rw [← q1]
    congr 1
    omega
  · exact h5 _ (by simp)
theorem u3 : Try.prog.underlying 3 = some (.int .i64) := by kernel_rfl
theorem u34 : Try.prog.underlying 34 = some (.int .i64) := by kernel_rfl
end Go.Proofs.Lk
