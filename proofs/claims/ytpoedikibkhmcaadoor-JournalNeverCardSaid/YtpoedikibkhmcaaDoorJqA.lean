/- Runs over unknown values, told by the kernel: part JqA. -/
import Derived.Test.YtpoedikibkhmcaaDoorJpB
set_option linter.unusedSimpArgs false
set_option linter.unusedVariables false
set_option maxRecDepth 20000
namespace Go.Proofs.Cl
open Go Go.Sim Go.Proofs Go.Proofs.Cd Go.Proofs.St Go.Proofs.YtpoedikibkhmcaaDoor
theorem OkM.arm {s : SS} {m : Nat} (h : OkM s m) {k : Int} (hk : k ≤ 9223372036854775807) : OkM (s.arm k) m := ⟨h.n, h.P, h.wr, by show k.toNat < _; omega, h.at_⟩
theorem Byt.arm {s : SS} (h : Byt s) (k : Int) : Byt (s.arm k) := ⟨h.dur, h.P⟩
theorem OkM.fail {s : SS} {m : Nat} (h : OkM s m) : OkM s.fail m := ⟨h.n, h.P, h.wr, h.left, h.at_⟩
theorem Byt.fail {s : SS} (h : Byt s) : Byt s.fail := ⟨h.dur, h.P⟩
theorem lay_byt {s : SS} (h : Byt s) (q : Nat) (b : Bool) : Byt (s.lay q (fun _ => 0) b) := ⟨fun i j => by
  show ∃ n : Nat, n < 256 ∧ (bif Nat.beq i q then (fun _ => (0 : Int)) else s.dur i) j = Int.ofNat n
  cases Nat.beq i q
  · exact h.dur i j
  · exact ⟨0, by decide, rfl⟩, h.P⟩
theorem revived_or (s : SS) (kk : Int) (tt : Bool) : s.revived kk tt = s ∨ (s.revived kk tt).n = s.n ∧ (s.revived kk tt).wr = s.wr ∧ (s.revived kk tt).left = s.left ∧ (s.revived kk tt).P = [] ∧ (s.revived kk tt).off = false ∧ (Byt s → Byt (s.revived kk tt)) := by
  unfold SS.revived
  split
  · exact .inl rfl
  · refine .inr ?_
    split
    · exact ⟨rfl, rfl, rfl, rfl, rfl, fun h => ⟨(lay_byt (h.flush _) _ true).dur, fun w hw => by cases hw⟩⟩
    · exact ⟨rfl, rfl, rfl, rfl, rfl, fun h => ⟨(h.flush _).dur, fun w hw => by cases hw⟩⟩
theorem OkM.revived {s : SS} {m : Nat} (h : OkM s m) (kk : Int) (tt : Bool) : OkM (s.revived kk tt) m := by
  rcases revived_or s kk tt with e | ⟨e1, e2, e3, e4, _, _⟩
  · rw [e]; exact h
  · exact ⟨by rw [e1]; exact h.n, by rw [e4]; exact Nat.zero_le _, by rw [e2]; exact h.wr, by rw [e3]; exact h.left, fun w hw => by rw [e4] at hw; cases hw⟩
theorem Byt.revived {s : SS} (h : Byt s) (kk : Int) (tt : Bool) : Byt (s.revived kk tt) := by
  rcases revived_or s kk tt with e | ⟨_, _, _, _, _, e⟩
  · rw [e]; exact h
  · exact e h
end Go.Proofs.Cl
namespace Go.Proofs.Jn
open Go Go.Sim Go.Proofs Go.Proofs.Cd Go.Proofs.St Go.Proofs.Cl Go.Proofs.YtpoedikibkhmcaaDoor
def pend (c : Nat → Nat → Nat) (a : Nat) : Nat → PW → PW
  | 0, P => P
  | w + 1, P => (a + w, fun t => Int.ofNat (c w t)) :: pend c a w P
theorem pend_succ (c : Nat → Nat → Nat) (a : Nat) : ∀ (w : Nat) (P : PW), pend c a (w + 1) P = pend (fun i => c (i + 1)) (a + 1) w ((a, fun t => Int.ofNat (c 0 t)) :: P)
  | 0, P => rfl
  | w + 1, P => by
    show (a + (w + 1), _) :: pend c a (w + 1) P = (a + 1 + w, _) :: pend (fun i => c (i + 1)) (a + 1) w _
    rw [pend_succ c a w P, show a + (w + 1) = a + 1 + w by omega]
theorem pend_congr {c c' : Nat → Nat → Nat} {a : Nat} {P : PW} : ∀ {w : Nat}, (∀ i, i < w → c i = c' i) → pend c a w P = pend c' a w P
  | 0, _ => rfl
  | w + 1, h => by
    show (a + w, _) :: pend c a w P = (a + w, _) :: pend c' a w P
    rw [pend_congr fun i hi => h i (by omega), h w (by omega)]
theorem pend_add (c : Nat → Nat → Nat) (a w1 : Nat) (P : PW) : ∀ w2, pend c a (w1 + w2) P = pend (fun i => c (w1 + i)) (a + w1) w2 (pend c a w1 P)
  | 0 => rfl
  | w2 + 1 => by
    show (a + (w1 + w2), _) :: pend c a (w1 + w2) P = (a + w1 + w2, _) :: pend (fun i => c (w1 + i)) (a + w1) w2 _
    rw [pend_add c a w1 P w2, show a + (w1 + w2) = a + w1 + w2 by omega]; rfl
theorem pend_len (c : Nat → Nat → Nat) (a : Nat) : ∀ w, (pend c a w []).length = w
  | 0 => rfl
  | w + 1 => by show (pend c a w []).length + 1 = _; rw [pend_len c a w]
theorem pend_drop (c : Nat → Nat → Nat) (a : Nat) : ∀ (d k : Nat), (pend c a (k + d) []).drop d = pend c a k []
  | 0, k => rfl
  | d + 1, k => by
    show ((a + (k + d), _) :: pend c a (k + d) []).drop (d + 1) = _
    rw [List.drop_succ_cons]; exact pend_drop c a d k
theorem pend_lB (c : Nat → Nat → Nat) (a q : Nat) : ∀ w, (∀ i, i < w → q = a + i → lB (pend c a w []) q = true ∧ lbs (pend c a w []) q = fun t => Int.ofNat (c i t)) ∧ ((q < a ∨ a + w ≤ q) → lB (pend c a w []) q = false)
  | 0 => ⟨fun i hi => absurd hi (by omega), fun _ => rfl⟩
  | w + 1 => by
    obtain ⟨h1, h2⟩ := pend_lB c a q w
    have e1 : lB (pend c a (w + 1) []) q = bif Nat.beq q (a + w) then true else lB (pend c a w []) q := rfl
    have e2 : lbs (pend c a (w + 1) []) q = bif Nat.beq q (a + w) then (fun t => Int.ofNat (c w t)) else lbs (pend c a w []) q := rfl
    refine ⟨fun i hi hq => ?_, fun hq => ?_⟩
    · by_cases ci : i = w
      · subst ci; subst hq
        rw [e1, e2, Nat.beq_refl, cond_true, cond_true]; exact ⟨rfl, rfl⟩
      · rw [e1, e2, ef (by omega : q ≠ a + w), cond_false, cond_false]
        exact h1 i (by omega) hq
    · rw [e1, ef (by omega : q ≠ a + w), cond_false]
      exact h2 (by omega)
structure Wrt (s S : SS) (c : Nat → Nat → Nat) (a w : Nat) : Prop where
  P : S.P = pend c a w s.P
  dur : S.dur = s.dur
  torn : S.torn = s.torn
  n : S.n = s.n
theorem wrS_same (s : SS) {q : Nat} (ho : s.off = false) (hq : q < s.n) (bs : Nat → Int) : (s.wrS (Int.ofNat q) 64 bs).P = (q, bs) :: s.P ∧ (s.wrS (Int.ofNat q) 64 bs).dur = s.dur ∧ (s.wrS (Int.ofNat q) 64 bs).torn = s.torn ∧ (s.wrS (Int.ofNat q) 64 bs).n = s.n ∧ ((s.wrS (Int.ofNat q) 64 bs).off = true ↔ s.wrE (Int.ofNat q) 64 ≠ 0) := by
  have hd : decide (0 ≤ Int.ofNat q ∧ Int.ofNat q < Int.ofNat s.n ∧ 64 = 64) = true := by simp; omega
  have eE : s.wrE (Int.ofNat q) 64 = (s.wrote q fun _ => 0).payE := by unfold SS.wrE; rw [ho, hd]; rfl
  rw [wrS_on ho hq, eE]
  obtain ⟨n, dur, torn, P, wr, off, armed, left⟩ := s
  have ho' : off = false := ho
  subst ho'
  unfold SS.pay SS.payE SS.wrote
  cases armed with
  | false => exact ⟨rfl, rfl, rfl, rfl, by simp⟩
  | true =>
    simp only
    cases e : Nat.beq left 0 with
    | true => simp only; exact ⟨trivial, trivial, trivial, trivial, by simp⟩
    | false => simp only; exact ⟨trivial, trivial, trivial, trivial, by simp⟩
theorem runW_p (c : Nat → Nat → Nat) : ∀ (j : Nat) (s : SS) (a k : Nat), s.off = false → a + j ≤ s.n → ∃ w, w ≤ j ∧ Wrt s (runW c j s a k).2.1 (fun i => c (k + i)) a w ∧ ((runW c j s a k).1 = 0 → w = j ∧ (runW c j s a k).2.1.off = false ∧ (runW c j s a k).2.2 = a + j) ∧ ((runW c j s a k).1 ≠ 0 → (runW c j s a k).2.1.off = true)
  | 0, s, a, k, ho, ha => ⟨0, Nat.le_refl _, ⟨rfl, rfl, rfl, rfl⟩, fun _ => ⟨rfl, ho, rfl⟩, fun h => absurd rfl h⟩
  | j + 1, s, a, k, ho, ha => by
    obtain ⟨p1, p2, p3, p4, p5⟩ := wrS_same s ho (show a < s.n by omega) (fun t => Int.ofNat (c k t))
    have e : runW c (j + 1) s a k = (match decide (s.wrE (Int.ofNat a) 64 = 0) with
      | true => runW c j (s.wrS (Int.ofNat a) 64 fun t => Int.ofNat (c k t)) (a + 1) (k + 1)
      | false => (s.wrE (Int.ofNat a) 64, s.wrS (Int.ofNat a) 64 (fun t => Int.ofNat (c k t)), a)) := rfl
    cases d : decide (s.wrE (Int.ofNat a) 64 = 0) with
    | false =>
      rw [d] at e
      simp only at e
      rw [e]
      have ne := of_decide_eq_false d
      exact ⟨1, by omega, ⟨p1, p2, p3, p4⟩, fun h => absurd h ne, fun _ => p5.2 ne⟩
    | true =>
      rw [d] at e
      simp only at e
      rw [e]
      have on : (s.wrS (Int.ofNat a) 64 fun t => Int.ofNat (c k t)).off = false := by
        cases h : (s.wrS (Int.ofNat a) 64 fun t => Int.ofNat (c k t)).off with
        | false => rfl
        | true => exact absurd (of_decide_eq_true d) (p5.1 h)
      obtain ⟨w, q1, q2, q3, q4⟩ := runW_p c j _ (a + 1) (k + 1) on (by rw [p4]; omega)
      refine ⟨w + 1, by omega, ⟨?_, q2.dur.trans p2, q2.torn.trans p3, q2.n.trans p4⟩, fun h => ?_, q4⟩
      · rw [q2.P, p1, pend_succ]
        exact pend_congr fun i _ => by show c (k + 1 + i) = c (k + (i + 1)); rw [show k + 1 + i = k + (i + 1) by omega]
      · have := q3 h
        exact ⟨by omega, this.2.1, by omega⟩
noncomputable def cAll (gen first : Nat) (m : Nat → Nat) (b : Nat → Nat → Nat) : Nat → Nat → Nat → Nat → Nat
  | 0, _, _ => fun _ => 0
  | j + 1, i, x => if x < npF (m i) then pcB gen (first + i) (npF (m i)) (m i) (b i) x else cAll gen first m b j (i + 1) (x - npF (m i))
theorem runR_p (gen first : Nat) (m : Nat → Nat) (b : Nat → Nat → Nat) : ∀ (j : Nat) (s : SS) (a i : Nat), s.off = false → a + sumP m j i ≤ s.n → ∃ w, w ≤ sumP m j i ∧ Wrt s (runR gen first m b j s a i).2.1 (cAll gen first m b j i) a w ∧ ((runR gen first m b j s a i).1 = 0 → w = sumP m j i ∧ (runR gen first m b j s a i).2.1.off = false) ∧ ((runR gen first m b j s a i).1 ≠ 0 → (runR gen first m b j s a i).2.1.off = true)
  | 0, s, a, i, ho, ha => ⟨0, Nat.le_refl _, ⟨rfl, rfl, rfl, rfl⟩, fun _ => ⟨rfl, ho⟩, fun h => absurd rfl h⟩
  | j + 1, s, a, i, ho, ha => by
    have ha' : a + (npF (m i) + sumP m j (i + 1)) ≤ s.n := ha
    have es : sumP m (j + 1) i = npF (m i) + sumP m j (i + 1) := rfl
    have hw : ∃ w, w ≤ npF (m i) ∧ Wrt s (recW gen first m b s a i).2.1 (fun x => pcB gen (first + i) (npF (m i)) (m i) (b i) (0 + x)) a w ∧ ((recW gen first m b s a i).1 = 0 → w = npF (m i) ∧ (recW gen first m b s a i).2.1.off = false ∧ (recW gen first m b s a i).2.2 = a + npF (m i)) ∧ ((recW gen first m b s a i).1 ≠ 0 → (recW gen first m b s a i).2.1.off = true) := runW_p _ _ s a 0 ho (by omega)
    obtain ⟨w, q1, q2, q3, q4⟩ := hw
    have e : runR gen first m b (j + 1) s a i = (match decide ((recW gen first m b s a i).1 = 0) with
      | true => runR gen first m b j (recW gen first m b s a i).2.1 (recW gen first m b s a i).2.2 (i + 1)
      | false => recW gen first m b s a i) := rfl
    have cl : ∀ x, x < npF (m i) → pcB gen (first + i) (npF (m i)) (m i) (b i) (0 + x) = cAll gen first m b (j + 1) i x := fun x hx => by
      show _ = (if x < npF (m i) then _ else _)
      rw [if_pos hx, Nat.zero_add]
    cases d : decide ((recW gen first m b s a i).1 = 0) with
    | false =>
      rw [d] at e
      simp only at e
      rw [e]
      have ne := of_decide_eq_false d
      exact ⟨w, by omega, ⟨q2.P.trans (pend_congr fun x hx => cl x (by omega)), q2.dur, q2.torn, q2.n⟩, fun h => absurd h ne, q4⟩
    | true =>
      rw [d] at e
      simp only at e
      rw [e]
      obtain ⟨w1, w2, w3⟩ := q3 (of_decide_eq_true d)
      subst w1
      obtain ⟨w', r1, r2, r3, r4⟩ := runR_p gen first m b j (recW gen first m b s a i).2.1 (recW gen first m b s a i).2.2 (i + 1) w2 (by rw [w3, q2.n]; omega)
      refine ⟨npF (m i) + w', by omega, ⟨?_, r2.dur.trans q2.dur, r2.torn.trans q2.torn, r2.n.trans q2.n⟩, fun h => ?_, r4⟩
      · rw [r2.P, q2.P, w3, pend_add]
        rw [pend_congr (c := fun x => pcB gen (first + i) (npF (m i)) (m i) (b i) (0 + x)) fun x hx => cl x hx]
        exact pend_congr fun x _ => by
          show cAll gen first m b j (i + 1) x = (if npF (m i) + x < npF (m i) then _ else _)
          rw [if_neg (by omega), show npF (m i) + x - npF (m i) = x by omega]
      · have := r3 h
        exact ⟨by omega, this.2⟩
theorem cAll_at (gen first : Nat) (m : Nat → Nat) (b : Nat → Nat → Nat) : ∀ (j i r k : Nat), r < j → k < npF (m (i + r)) → cAll gen first m b j i (sumP m r i + k) = pcB gen (first + (i + r)) (npF (m (i + r))) (m (i + r)) (b (i + r)) k
  | 0, _, _, _, h, _ => absurd h (by omega)
  | j + 1, i, 0, k, h, hk => by
    show (if 0 + k < npF (m i) then pcB gen (first + i) (npF (m i)) (m i) (b i) (0 + k) else _) = _
    have hk' : k < npF (m i) := hk
    rw [Nat.zero_add, if_pos hk']; rfl
  | j + 1, i, r + 1, k, h, hk => by
    show (if npF (m i) + sumP m r (i + 1) + k < npF (m i) then _ else cAll gen first m b j (i + 1) (npF (m i) + sumP m r (i + 1) + k - npF (m i))) = _
    rw [if_neg (by omega), show npF (m i) + sumP m r (i + 1) + k - npF (m i) = sumP m r (i + 1) + k by omega]
    have := cAll_at gen first m b j (i + 1) r k (by omega) (by rw [show i + 1 + r = i + (r + 1) by omega]; exact hk)
    rw [this, show i + 1 + r = i + (r + 1) by omega]
theorem cmt_off {gen first n : Nat} {m : Nat → Nat} {b : Nat → Nat → Nat} {s : SS} {a : Nat} (on : s.off = false) (ha : a + sumP m n 0 ≤ s.n) (h : cmtE gen first n m b s a ≠ 0) : cmtE gen first n m b s a ≠ 0 ∧ (cmtS gen first n m b s a).off = true ∧ ∃ w, w ≤ sumP m n 0 ∧ Wrt s (cmtS gen first n m b s a) (cAll gen first m b n 0) a w := by
  refine ⟨h, ?_⟩
  obtain ⟨w, q1, q2, q3, q4⟩ := runR_p gen first m b n s a 0 on ha
  unfold cmtE at h
  unfold cmtS
  cases d : decide ((runR gen first m b n s a 0).1 = 0) with
  | false => exact ⟨q4 (of_decide_eq_false d), w, q1, q2⟩
  | true =>
    rw [d] at h
    have := (q3 (of_decide_eq_true d)).2
    exact absurd (by show (runR gen first m b n s a 0).2.1.faultE = 0; unfold SS.faultE; rw [this]; rfl) h
structure Rvd (s T : SS) (c : Nat → Nat → Nat) (a w K : Nat) : Prop where
  le : K ≤ w
  n : T.n = s.n
  on : T.off = false
  P : T.P = []
  new : ∀ i, i < K → a + i < s.n → bB T (a + i) = c i
  mid : K < w → a + K < s.n → bB T (a + K) = bB s (a + K) ∨ bB T (a + K) = fun _ => 0
  old : ∀ q, q < s.n → (q < a ∨ a + K < q ∨ (q = a + K ∧ w ≤ K)) → bB T q = bB s q
theorem bB_dur {s : SS} {q : Nat} (on : s.off = false) (hP : s.P = []) (hq : q < s.n) : bB s q = bif s.torn q then (fun _ => 0) else fun t => (s.dur q t).toNat := by
  rw [bB_v on hq]
  unfold vwT vwB
  rw [hP]
  rfl
theorem revd {s S : SS} {c : Nat → Nat → Nat} {a w : Nat} (on : s.off = false) (hP : s.P = []) (off : S.off = true) (h : Wrt s S c a w) (kk : Int) (tt : Bool) : ∃ K, Rvd s (S.revived kk tt) c a w K := by
  have eP : S.P = pend c a w [] := by rw [h.P, hP]
  have el : S.P.length = w := by rw [eP]; exact pend_len c a w
  have hK : keepN kk w ≤ w := Nat.min_le_right _ _
  generalize eK : keepN kk w = K at hK
  have ed : S.P.drop (S.P.length - K) = pend c a K [] := by
    rw [el, eP]
    have := pend_drop c a (w - K) K
    rw [show K + (w - K) = w by omega] at this
    exact this
  have fd : (S.flush K).dur = durL s.dur (pend c a K []) := by unfold SS.flush; rw [ed, h.dur]
  have ft : (S.flush K).torn = tornL s.torn (pend c a K []) := by unfold SS.flush; rw [ed, h.torn]
  have both : ∀ q, (∀ i, i < K → q = a + i → (S.flush K).torn q = false ∧ (S.flush K).dur q = fun t => Int.ofNat (c i t)) ∧ ((q < a ∨ a + K ≤ q) → (S.flush K).torn q = s.torn q ∧ (S.flush K).dur q = s.dur q) := by
    intro q
    obtain ⟨h1, h2⟩ := pend_lB c a q K
    rw [fd, ft, durL_v, tornL_v]
    refine ⟨fun i hi hq => ?_, fun hq => ?_⟩
    · obtain ⟨x, y⟩ := h1 i hi hq
      rw [x, cond_true, cond_true, y]; exact ⟨rfl, rfl⟩
    · rw [h2 hq, cond_false, cond_false]; exact ⟨rfl, rfl⟩
  refine ⟨K, ?_⟩
  unfold SS.revived
  rw [off]
  simp only
  rw [el, eK]
  cases ct : (tt && Nat.blt K w) with
  | false =>
    simp only
    have tP : (S.flush K).on.P = [] := rfl
    have tn : (S.flush K).on.n = s.n := h.n
    have eB : ∀ q, q < s.n → bB (S.flush K).on q = bif (S.flush K).torn q then (fun _ => 0) else fun t => ((S.flush K).dur q t).toNat := fun q hq => bB_dur rfl tP (by rw [tn]; exact hq)
    refine ⟨hK, tn, rfl, tP, fun i hi hq => ?_, fun hk hq => ?_, fun q hq hc => ?_⟩
    · obtain ⟨x, y⟩ := (both (a + i)).1 i hi rfl
      rw [eB _ hq, x, y, cond_false]; rfl
    · obtain ⟨x, y⟩ := (both (a + K)).2 (.inr (Nat.le_refl _))
      rw [eB _ hq, bB_dur on hP hq, x, y]; exact .inl rfl
    · obtain ⟨x, y⟩ := (both q).2 (by omega)
      rw [eB _ hq, bB_dur on hP hq, x, y]
  | true =>
    simp only
    rw [Bool.and_eq_true] at ct
    have hlt : K < w := by have := ct.2; rw [Nat.blt_eq] at this; exact this
    have ea : oA S.P K = a + K := by
      unfold oA nthW
      rw [el, eP]
      have := pend_drop c a (w - 1 - K) (K + 1)
      rw [show K + 1 + (w - 1 - K) = w by omega] at this
      rw [this]; rfl
    rw [ea]
    have tP : ((S.flush K).lay (a + K) (fun _ => 0) true).on.P = [] := rfl
    have tn : ((S.flush K).lay (a + K) (fun _ => 0) true).on.n = s.n := h.n
    have eB : ∀ q, q < s.n → bB ((S.flush K).lay (a + K) (fun _ => 0) true).on q = bif (bif Nat.beq q (a + K) then true else (S.flush K).torn q) then (fun _ => 0) else fun t => ((bif Nat.beq q (a + K) then (fun _ => (0 : Int)) else (S.flush K).dur q) t).toNat := fun q hq => bB_dur rfl tP (by rw [tn]; exact hq)
    refine ⟨hK, tn, rfl, tP, fun i hi hq => ?_, fun hk hq => ?_, fun q hq hc => ?_⟩
    · obtain ⟨x, y⟩ := (both (a + i)).1 i hi rfl
      rw [eB _ hq, ef (by omega : a + i ≠ a + K), cond_false, cond_false, x, y, cond_false]; rfl
    · rw [eB _ hq, Nat.beq_refl, cond_true, cond_true]; exact .inr rfl
    · obtain ⟨x, y⟩ := (both q).2 (by omega)
      rw [eB _ hq, ef (by omega : q ≠ a + K), cond_false, cond_false, bB_dur on hP hq, x, y]
section
variable {s : SS} {j : JS} {mm n : Nat} {m : Nat → Nat} {b : Nat → Nat → Nat}
theorem JI.same (h : JI s j mm n m b) {T : SS} {mm' : Nat} (on : T.off = false) (hP : T.P = []) (hn : T.n = s.n) (byt : Byt T) (okm : OkM T mm') (hd : bB T (j.gen % 2) = bB s (j.gen % 2)) (ho : hdG T (1 - j.gen % 2) < j.gen)
    (ar : ∀ i, i < 60 → bB T (2 + j.area * 60 + i) = bB s (2 + j.area * 60 + i)) : JI T j mm' n m b := by
  refine { on := on, P := hP, hn := by rw [hn]; exact h.hn, byt := byt, okm := okm, dead := h.dead, area := h.area, g1 := h.g1, g2 := h.g2, hd := (hd_same hd).1.trans h.hd, ha := (hd_same hd).2.trans h.ha, ho := ho, recs := h.recs, room := h.room, fit := h.fit, len := h.len, parts := fun r hr k hk => ?_, last := fun i h1 h2 hg => ?_ }
  · have h1 := sumP_mono m (show r + 1 ≤ n by omega)
    have h2 := h.fit
    rw [sumP_at] at h1
    rw [ar _ (by omega)]
    exact h.parts r hr k hk
  · have e := a_same (ar i h2)
    rw [e.1] at hg
    rw [e.2.1, e.2.2.1, e.2.2.2]
    exact h.last i h1 h2 hg
theorem JI.part (h : JI s j mm n m b) {T : SS} {mm' L K : Nat} {bs : Nat → Nat} (hL : L ≤ 1128) (hf : npF L ≤ 60 - sumP m n 0) (hK : K < npF L) (on : T.off = false) (hP : T.P = []) (hn : T.n = s.n) (byt : Byt T) (okm : OkM T mm')
    (new : ∀ i, i < K → bB T (2 + j.area * 60 + sumP m n 0 + i) = pcB j.gen n (npF L) L bs i) (mid : bB T (2 + j.area * 60 + sumP m n 0 + K) = bB s (2 + j.area * 60 + sumP m n 0 + K) ∨ bB T (2 + j.area * 60 + sumP m n 0 + K) = fun _ => 0)
    (old : ∀ q, q < s.n → (q < 2 + j.area * 60 + sumP m n 0 ∨ 2 + j.area * 60 + sumP m n 0 + K < q) → bB T q = bB s q) : JI T j mm' n m b := by
  have hfit := h.fit
  have har := h.area
  have hsn := h.hn
  have hd0 := hd_same (old (j.gen % 2) (by omega) (.inl (by omega)))
  have hd1 := hd_same (old (1 - j.gen % 2) (by omega) (.inl (by omega)))
  refine { on := on, P := hP, hn := by rw [hn]; exact h.hn, byt := byt, okm := okm, dead := h.dead, area := har, g1 := h.g1, g2 := h.g2, hd := hd0.1.trans h.hd, ha := hd0.2.trans h.ha, ho := by rw [hd1.1]; exact h.ho, recs := h.recs, room := h.room, fit := h.fit, len := h.len, parts := fun r hr k hk => ?_, last := fun i h1 h2 hg => ?_ }
  · have h1 := sumP_mono m (show r + 1 ≤ n by omega)
    rw [sumP_at] at h1
    rw [old _ (by omega) (.inl (by omega))]
    exact h.parts r hr k hk
  · by_cases c1 : i < sumP m n 0 + K
    · have e : bB T (2 + j.area * 60 + i) = pcB j.gen n (npF L) L bs (i - sumP m n 0) := by
        have := new (i - sumP m n 0) (by omega)
        rw [show 2 + j.area * 60 + sumP m n 0 + (i - sumP m n 0) = 2 + j.area * 60 + i by omega] at this
        exact this
      have l := laid (gen := j.gen) (num := n) (M := L) (k := i - sumP m n 0) bs h.g1 h.g2 (by have := h.few; omega) hL (by omega)
      rw [← e] at l
      have e1 : aN T j.area i = n := l.n
      have e2 : aI T j.area i = i - sumP m n 0 := l.i
      have e3 : aP T j.area i = npF L := l.p
      rw [e1, e2, e3]
      exact ⟨Nat.le_refl _, fun _ => by omega⟩
    · by_cases c2 : i = sumP m n 0 + K
      · have e0 : 2 + j.area * 60 + sumP m n 0 + K = 2 + j.area * 60 + i := by omega
        rw [e0] at mid
        rcases mid with e | e
        · have e := a_same (a := j.area) (i := i) e
          rw [e.1] at hg
          rw [e.2.1, e.2.2.1, e.2.2.2]
          exact h.last i h1 h2 hg
        · rw [aG_zero e] at hg
          have := h.g1
          omega
      · have e := a_same (old (2 + j.area * 60 + i) (by omega) (.inr (by omega)))
        rw [e.1] at hg
        rw [e.2.1, e.2.2.1, e.2.2.2]
        exact h.last i h1 h2 hg
theorem JI.full (h : JI s j mm n m b) {T : SS} {mm' L : Nat} {bs : Nat → Nat} (hL : L ≤ 1128) (hf : npF L ≤ 60 - sumP m n 0) (on : T.off = false) (hP : T.P = []) (hn : T.n = s.n) (byt : Byt T) (okm : OkM T mm')
    (new : ∀ i, i < npF L → bB T (2 + j.area * 60 + sumP m n 0 + i) = pcB j.gen n (npF L) L bs i)
    (old : ∀ q, q < s.n → (q < 2 + j.area * 60 + sumP m n 0 ∨ 2 + j.area * 60 + sumP m n 0 + npF L ≤ q) → bB T q = bB s q) : JI T (j.more L) mm' (n + 1) (mS n m L) (bS n b bs) := by
  have hfit := h.fit
  have har := h.area
  have hsn := h.hn
  have hd0 := hd_same (old (j.gen % 2) (by omega) (.inl (by omega)))
  have hd1 := hd_same (old (1 - j.gen % 2) (by omega) (.inl (by omega)))
  have hs : sumP (mS n m L) (n + 1) 0 = sumP m n 0 + npF L := by rw [sumP_at, mS_eq, sumP_mS n m L (Nat.le_refl _)]
  refine { on := on, P := hP, hn := by rw [hn]; exact hsn, byt := byt, okm := okm, dead := h.dead, area := har, g1 := h.g1, g2 := h.g2, hd := hd0.1.trans h.hd, ha := hd0.2.trans h.ha, ho := by rw [show (j.more L).gen = j.gen from rfl, hd1.1]; exact h.ho, recs := by show j.recs + 1 = _; rw [h.recs], room := ?_, fit := by rw [hs]; omega, len := ?_, parts := ?_, last := ?_ }
  · show j.room - Int.ofNat (npF L) = 60 - Int.ofNat (sumP (mS n m L) (n + 1) 0)
    rw [hs, h.room]; simp; omega
  · intro r hr
    by_cases c : r = n
    · subst c; rw [mS_eq]; exact hL
    · rw [mS_lt (by omega)]; exact h.len r (by omega)
  · intro r hr k hk
    show bB T (2 + j.area * 60 + (sumP (mS n m L) r 0 + k)) = pcB j.gen r _ _ _ k
    rw [sumP_mS n m L (by omega)]
    by_cases c : r = n
    · subst c
      rw [mS_eq] at hk ⊢
      rw [bS_eq]
      have := new k hk
      rw [Nat.add_assoc] at this
      exact this
    · have hr' : r < n := by omega
      rw [mS_lt hr'] at hk ⊢
      rw [bS_lt hr']
      have h1 := sumP_mono m (show r + 1 ≤ n by omega)
      rw [sumP_at] at h1
      rw [old _ (by omega) (.inl (by omega))]
      exact h.parts r hr' k hk
  · intro i hi1 hi2 hg
    rw [hs] at hi1
    have e := a_same (s := s) (S := T) (a := j.area) (i := i) (old _ (by omega) (.inr (by omega)))
    have hg' : aG T j.area i = j.gen := hg
    rw [e.1] at hg'
    have hl := h.last i (by omega) hi2 hg'
    show aN T j.area i ≤ n + 1 ∧ (aN T j.area i = n + 1 → aI T j.area i + 1 < aP T j.area i)
    rw [e.2.1]
    exact ⟨by omega, fun h' => by omega⟩
theorem JI.idle (h : JI s j mm n m b) (kk : Int) (tt : Bool) : JI (s.fail.revived kk tt) j mm n m b := by
  obtain ⟨K, r⟩ := revd (s := s) (S := s.fail) (c := fun _ _ => 0) (a := 2) (w := 0) h.on h.P rfl ⟨rfl, rfl, rfl, rfl⟩ kk tt
  have k0 : K = 0 := by have := r.le; omega
  subst k0
  have hsn := h.hn
  have har := h.area
  have all : ∀ q, q < s.n → bB (s.fail.revived kk tt) q = bB s q := fun q hq => r.old q hq (by omega)
  exact h.same r.on r.P r.n (h.byt.fail.revived kk tt) (h.okm.fail.revived kk tt) (all _ (by omega)) (by rw [(hd_same (all (1 - j.gen % 2) (by omega))).1]; exact h.ho) fun i hi => all _ (by omega)
theorem JI.appendF (h : JI s j mm n m b) {L : Nat} {bs : Nat → Nat} (hL : L ≤ 1128) (hb : ∀ t, bs t < 256) (hf : npF L ≤ 60 - sumP m n 0) (e0 : apE j (60 - sumP m n 0) s L bs ≠ 0) (kk : Int) (tt : Bool) :
    (apS j (60 - sumP m n 0) s L bs).off = true ∧ (JI ((apS j (60 - sumP m n 0) s L bs).revived kk tt) j (mm + npF L) n m b ∨ JI ((apS j (60 - sumP m n 0) s L bs).revived kk tt) (j.more L) (mm + npF L) (n + 1) (mS n m L) (bS n b bs)) := by
  have hq := h.apQ
  have hfit := h.fit
  have har := h.area
  have hsn := h.hn
  have s1 : sumP (fun _ => L) 1 0 = npF L := sumP1 L
  unfold apE at e0
  unfold apS
  rw [hq, h.recs] at e0 ⊢
  have hin : 2 + j.area * 60 + sumP m n 0 + sumP (fun _ => L) 1 0 ≤ s.n := by rw [s1]; omega
  obtain ⟨_, off, w, hw, wr⟩ := cmt_off h.on hin e0
  have k1 := (cmtS_ok j.gen n 1 mm (fun _ => L) (fun _ => bs) s (2 + j.area * 60 + sumP m n 0) h.okm hin).1
  have k3 := cmtS_byt j.gen n 1 mm (fun _ => L) (fun _ => bs) (fun _ => hb) s (2 + j.area * 60 + sumP m n 0) h.okm h.byt hin
  rw [s1] at hw k1
  refine ⟨off, ?_⟩
  obtain ⟨K, r⟩ := revd h.on h.P off wr kk tt
  have cA : ∀ i, i < npF L → cAll j.gen n (fun _ => L) (fun _ => bs) 1 0 i = pcB j.gen n (npF L) L bs i := fun i hi => by
    have := cAll_at j.gen n (fun _ => L) (fun _ => bs) 1 0 0 i (by decide) hi
    rw [show sumP (fun _ => L) 0 0 + i = i from Nat.zero_add i] at this
    exact this
  have hle := r.le
  by_cases c : K < npF L
  · refine .inl (h.part hL hf c r.on r.P r.n (k3.revived kk tt) (k1.revived kk tt) (bs := bs) (fun i hi => ?_) ?_ fun q hq hc => r.old q hq (by omega))
    · rw [r.new i hi (by omega)]; exact cA i (by omega)
    · by_cases c2 : K < w
      · exact r.mid c2 (by omega)
      · exact .inl (r.old _ (by omega) (.inr (.inr ⟨rfl, by omega⟩)))
  · have hK : K = npF L := by omega
    subst hK
    exact .inr (h.full hL hf r.on r.P r.n (k3.revived kk tt) (k1.revived kk tt) (fun i hi => by rw [r.new i hi (by omega)]; exact cA i hi) fun q hq hc => r.old q hq (by omega))
theorem JI.rewriteF1 (h : JI s j mm n m b) {n' : Nat} {m' : Nat → Nat} {b' : Nat → Nat → Nat} (hs : sumP m' n' 0 ≤ 60) (hb : ∀ i t, b' i t < 256) (e0 : rwE s j n' m' b' ≠ 0) (kk : Int) (tt : Bool) :
    (rwS s j n' m' b').off = true ∧ JI ((rwS s j n' m' b').revived kk tt) j (mm + sumP m' n' 0) n m b := by
  have har := h.area
  have hsn := h.hn
  unfold rwE at e0
  unfold rwS
  have hin : 2 + (1 - j.area) * 60 + sumP m' n' 0 ≤ s.n := by omega
  obtain ⟨_, off, w, hw, wr⟩ := cmt_off h.on hin e0
  have k1 := (cmtS_ok (nxV s j) 0 n' mm m' b' s (2 + (1 - j.area) * 60) h.okm hin).1
  have k3 := cmtS_byt (nxV s j) 0 n' mm m' b' hb s (2 + (1 - j.area) * 60) h.okm h.byt hin
  refine ⟨off, ?_⟩
  obtain ⟨K, r⟩ := revd h.on h.P off wr kk tt
  have hle := r.le
  have far : ∀ q, q < s.n → (q < 2 + (1 - j.area) * 60 ∨ 2 + (1 - j.area) * 60 + 60 ≤ q) → bB ((cmtS (nxV s j) 0 n' m' b' s (2 + (1 - j.area) * 60)).revived kk tt) q = bB s q := fun q hq hc => r.old q hq (by omega)
  exact h.same r.on r.P r.n (k3.revived kk tt) (k1.revived kk tt) (far _ (by omega) (by omega)) (by rw [(hd_same (far (1 - j.gen % 2) (by omega) (by omega))).1]; exact h.ho) fun i hi => far _ (by omega) (by omega)
theorem JI.rewriteF2 (h : JI s j mm n m b) {n' : Nat} {m' : Nat → Nat} {b' : Nat → Nat → Nat} (hl : ∀ i, i < n' → m' i ≤ 1128) (hs : sumP m' n' 0 ≤ 60) (hb : ∀ i t, b' i t < 256) (hv : nxV s j ≤ 1073741824)
    (e0 : rwE s j n' m' b' = 0) (e1 : nmE (rwS s j n' m' b') (nxV s j) (1 - j.area) ≠ 0) (kk : Int) (tt : Bool) :
    (nmS (rwS s j n' m' b') (nxV s j) (1 - j.area)).off = true ∧ (JI ((nmS (rwS s j n' m' b') (nxV s j) (1 - j.area)).revived kk tt) j (mm + sumP m' n' 0 + 1) n m b ∨ JI ((nmS (rwS s j n' m' b') (nxV s j) (1 - j.area)).revived kk tt) (rwJ s j n' m') (mm + sumP m' n' 0 + 1) n' m' b') := by
  obtain ⟨g1, g2, g3⟩ := nxV_gt s j
  have har := h.area
  have hsn := h.hn
  have hgen := h.g1
  unfold rwE at e0
  unfold rwS at e1 ⊢
  unfold nmE at e1
  unfold nmS
  have hin : 2 + (1 - j.area) * 60 + sumP m' n' 0 ≤ s.n := by omega
  obtain ⟨o1, o2, _⟩ := cmt_on _ _ _ _ _ _ _ e0
  obtain ⟨k1, k2⟩ := cmtS_ok (nxV s j) 0 n' mm m' b' s (2 + (1 - j.area) * 60) h.okm hin
  have k3 := cmtS_byt (nxV s j) 0 n' mm m' b' hb s (2 + (1 - j.area) * 60) h.okm h.byt hin
  have rd := fun q hq => cmt_bB (nxV s j) 0 n' mm m' b' s (2 + (1 - j.area) * 60) h.okm hin h.on e0 q hq
  generalize cmtS (nxV s j) 0 n' m' b' s (2 + (1 - j.area) * 60) = S at o1 o2 k1 k2 k3 rd e1
  have hin2 : nxV s j % 2 + sumP (fun _ => 1) 1 0 ≤ S.n := by rw [sumP1, one_parts 0, k2]; omega
  obtain ⟨_, off, w, hw, wr⟩ := cmt_off o1 hin2 e1
  obtain ⟨q1, q2⟩ := cmtS_ok (nxV s j) 0 1 (mm + sumP m' n' 0) (fun _ => 1) (fun _ _ => (1 - j.area) % 256) S (nxV s j % 2) k1 hin2
  have q3 := cmtS_byt (nxV s j) 0 1 (mm + sumP m' n' 0) (fun _ => 1) (fun _ _ => (1 - j.area) % 256) (fun _ _ => by omega) S (nxV s j % 2) k1 k3 hin2
  rw [sumP1, one_parts 0] at q1 hw
  refine ⟨off, ?_⟩
  obtain ⟨K, r⟩ := revd o1 o2 off wr kk tt
  have hle := r.le
  have q1' := q1.revived kk tt
  have q3' := q3.revived kk tt
  generalize (cmtS (nxV s j) 0 1 (fun _ => 1) (fun _ _ => (1 - j.area) % 256) S (nxV s j % 2)).revived kk tt = T at r q1' q3'
  have far : ∀ q, q < s.n → q ≠ nxV s j % 2 → bB T q = bB S q := fun q hq hc => r.old q (by omega) (by omega)
  have far2 : ∀ q, q < s.n → q ≠ nxV s j % 2 → (q < 2 + (1 - j.area) * 60 ∨ 2 + (1 - j.area) * 60 + 60 ≤ q) → bB T q = bB s q := fun q hq hc hd => (far q hq hc).trans ((rd q hq).2 (by omega))
  have nT : T.n = s.n := r.n.trans k2
  by_cases c : K = 0
  · subst c
    refine .inl (h.same r.on r.P nT q3' q1' (far2 _ (by omega) (by omega) (by omega)) ?_ fun i hi => far2 _ (by omega) (by omega) (by omega))
    have e2 : bB T (1 - j.gen % 2) = bB s (1 - j.gen % 2) ∨ bB T (1 - j.gen % 2) = fun _ => 0 := by
      have eq : nxV s j % 2 + 0 = 1 - j.gen % 2 := by omega
      have es : bB S (1 - j.gen % 2) = bB s (1 - j.gen % 2) := (rd _ (by omega)).2 (.inl (by omega))
      by_cases c2 : 0 < w
      · have := r.mid c2 (by omega)
        rw [eq, es] at this
        exact this
      · have := r.old (1 - j.gen % 2) (by omega) (.inr (.inr ⟨by omega, by omega⟩))
        exact .inl (this.trans es)
    rcases e2 with e | e
    · rw [(hd_same e).1]; exact h.ho
    · rw [hdG_zero e]; exact h.g1
  · have hK : K = 1 := by omega
    subst hK
    have hh : bB T (nxV s j % 2) = pcB (nxV s j) 0 (npF 1) 1 (fun _ => (1 - j.area) % 256) 0 := by
      have := r.new 0 (by decide) (by omega)
      rw [Nat.add_zero] at this
      rw [this]
      exact cAll_at (nxV s j) 0 (fun _ => 1) (fun _ _ => (1 - j.area) % 256) 1 0 0 0 (by decide) (npF_pos 1)
    have hl1 := head_laid (by omega) hv (show 1 - j.area ≤ 1 by omega) hh
    have oth : bB T (1 - nxV s j % 2) = bB s (1 - nxV s j % 2) := far2 _ (by omega) (by omega) (by omega)
    have ho : hdG T (1 - nxV s j % 2) = j.gen := by
      rw [(hd_same oth).1, show 1 - nxV s j % 2 = j.gen % 2 by omega]; exact h.hd
    refine .inr { on := r.on, P := r.P, hn := by rw [nT]; exact hsn, byt := q3', okm := q1', dead := h.dead, area := (by show 1 - j.area ≤ 1; omega), g1 := (by show 1 ≤ nxV s j; omega), g2 := hv, hd := hl1.1, ha := hl1.2, ho := (by show hdG T (1 - nxV s j % 2) < nxV s j; rw [ho]; exact g1), recs := rfl, room := rfl, fit := hs, len := hl, parts := ?_, last := ?_ }
    · intro p hp k hk
      show bB T (2 + (1 - j.area) * 60 + (sumP m' p 0 + k)) = pcB (nxV s j) p _ _ _ k
      have h1 := sumP_mono m' (show p + 1 ≤ n' by omega)
      rw [sumP_at] at h1
      rw [far _ (by omega) (by omega)]
      have := (rd (2 + (1 - j.area) * 60 + (sumP m' p 0 + k)) (by omega)).1 p k hp hk (by omega)
      rw [Nat.zero_add] at this
      exact this
    · intro i hi1 hi2 hg
      have e : bB T (2 + (1 - j.area) * 60 + i) = bB s (2 + (1 - j.area) * 60 + i) := by
        rw [far _ (by omega) (by omega)]
        exact (rd _ (by omega)).2 (.inr (by omega))
      have hg' : aG T (1 - j.area) i = nxV s j := hg
      rw [(a_same e).1] at hg'
      have := g3 i hi2
      omega
end
noncomputable def nvF (KK K : Nat → Int) (T : Nat → Bool) (BL : Nat → Nat) (BB : Nat → Nat → Nat) (LN : Nat → Nat) (LM : Nat → Nat → Nat) (LB : Nat → Nat → Nat → Nat) (i j : Nat) : CV :=
  Nat.rec (.i .i64 (KK i)) (fun j _ => Nat.rec (.i .i64 (K i)) (fun j _ => Nat.rec (.b (T i)) (fun j _ => Nat.rec (.sv 1 (BL i) (byF (BB i))) (fun _ _ => .sv 1 (LN i) (recF (LM i) (LB i))) j) j) j) j
theorem oaR_vc (n k : Nat) (m : Nat → Nat) (b : Nat → Nat → Nat) (h1 : decide (Int.ofNat k < Int.ofNat n) = true) (K : Res → Orc → Prop) : runK Tryd.prog 1000000 (.code (loopAt
  Tryd.prog 15 0) 19 (mkT [(3, .lr 0 1 0 k false), (6, .sv 1 n (recF m b)), (7, .i .i64 (Int.ofNat n)), (8, .i .i64 (Int.ofNat k))]) (mkH [some (.rows 38 1 k (recF m b))])) (Orc.t
  (Orc.cal [] (AV.sv 1 (m k) (byF (b (Int.toNat (Int.ofNat k))))) [] Orc.z)) K = (decide (Int.ofNat k < Int.ofNat n) = true ∧ ((0 : Int) ≤ Int.ofNat k ∧ Int.ofNat k < ↑n) ∧ True ∧
  Con Tryd.prog 25 [AV.sv 1 (m k) (byF (b (Int.toNat (Int.ofNat k))))] [] (AV.sv 1 (m k) (byF (b (Int.toNat (Int.ofNat k))))) [] ∧ (0 + k ≤ k ∧ True ∧ k + 1 ≤ 140737488355328 ∧ (3 *
  (k + 1) + 1536) * 24 ≤ 562949953421312) ∧ ((-9223372036854775808 : Int) ≤ Int.ofNat k + (1 : Int) ∧ Int.ofNat k + (1 : Int) ≤ (9223372036854775807 : Int)) ∧ K (Res.st XO.nrm (T.n
  none (T.n none (T.n (some (AV.lr 2 1 0 (addN k 1) false)) (T.n (some (AV.i IntKind.i64 (Int.ofNat n))) (T.n (some (AV.l 1 0 1 1 1 true)) T.e T.e) T.e) (T.n (some (AV.sv 1 (m k)
  (byF (b (Int.toNat (Int.ofNat k)))))) T.e T.e)) (T.n (some (AV.sv 1 (m k) (byF (b (Int.toNat (Int.ofNat k)))))) (T.n (some (AV.b (decide (Int.ofNat k < Int.ofNat n)))) (T.n (some
  (AV.i IntKind.i64 (Int.ofNat k + (1 : Int)))) T.e T.e) T.e) (T.n (some (AV.sv 1 (m k) (byF (b (Int.toNat (Int.ofNat k)))))) T.e T.e))) (T.n none (T.n none (T.n (some (AV.i
  IntKind.i64 (Int.ofNat k + (1 : Int)))) (T.n (some (AV.lr 2 1 0 (addN k 1) false)) T.e T.e) T.e) (T.n (some (AV.lr 0 1 0 k false)) T.e T.e)) (T.n (some (AV.sv 1 n (recF m b)))
  (T.n (some (AV.pv 1 (recF m b k))) T.e T.e) (T.n (some (AV.sv 1 (m k) (byF (b (Int.toNat (Int.ofNat k)))))) T.e T.e)))) { tree := T.n none (T.n (some (AObj.cells 38 1 [] (T.n (some (AV.sv 1 (m k) (byF (b (Int.toNat (Int.ofNat k)))))) T.e T.e))) T.e T.e) (T.n (some (AObj.rows 38 1 (addN k 1) (appZ k (recF m b) (listF 1 [CV.sv 1 (m k) (byF (b (Int.toNat (Int.ofNat k))))] 1)))) T.e T.e), next := 3, log := [2, 0, 1] })
  Orc.z) := by kernel_rfl
theorem oaE_vc (n k : Nat) (m : Nat → Nat) (b : Nat → Nat → Nat) (h1 : decide (Int.ofNat k < Int.ofNat n) = false) (K : Res → Orc → Prop) : runK Tryd.prog 1000000 (.code (loopAt
  Tryd.prog 15 0) 19 (mkT [(3, .lr 0 1 0 k false), (6, .sv 1 n (recF m b)), (7, .i .i64 (Int.ofNat n)), (8, .i .i64 (Int.ofNat k))]) (mkH [some (.rows 38 1 k (recF m b))])) (Orc.f
  Orc.z) K = (decide (Int.ofNat k < Int.ofNat n) = false ∧ K (Res.st (XO.exit 0) (T.n none (T.n none (T.n (some (AV.lr 0 1 0 k false)) (T.n (some (AV.i IntKind.i64 (Int.ofNat n)))
  T.e T.e) T.e) (T.n none (T.n (some (AV.b (decide (Int.ofNat k < Int.ofNat n)))) T.e T.e) T.e)) (T.n none (T.n none (T.n (some (AV.i IntKind.i64 (Int.ofNat k))) T.e T.e) T.e) (T.n
  (some (AV.sv 1 n (recF m b))) T.e T.e))) { tree := T.n (some (AObj.rows 38 1 k (recF m b))) T.e T.e, next := 1, log := [] }) Orc.z) := by kernel_rfl
theorem oaM_vc (n : Nat) (m : Nat → Nat) (b : Nat → Nat → Nat) (K : Res → Orc → Prop) : runK Tryd.prog 1000000 (.call 15 [.sv 1 n (recF m b)] (mkH [])) (Orc.lop [] [3, 6, 7, 8] 0
  (XO.exit 0) [(3, AV.lr 0 1 0 n false)] [some (AObj.rows 38 1 n (recF m b))] Orc.z) K = (LDoes Tryd.prog (loopAt Tryd.prog 15 0) 19 0 (mkT [(3, AV.l0), (6, AV.sv 1 n (recF m b)),
  (7, AV.i IntKind.i64 (Int.ofNat n)), (8, AV.i IntKind.i64 (0 : Int))]) [] (XO.exit 0) (mkT [(3, AV.lr 0 1 0 n false)]) [some (AObj.rows 38 1 n (recF m b))] ∧ K (Res.rv (AV.lr 0 1
  0 n false) { tree := T.n (some (AObj.rows 38 1 n (recF m b))) T.e T.e, next := 1, log := [0] }) Orc.z) := by kernel_rfl
theorem smR_vc (n n2 i : Nat) (m m2 : Nat → Nat) (b b2 : Nat → Nat → Nat) (h1 : decide (Int.ofNat i < Int.ofNat n) = true) (K : Res → Orc → Prop) : runK Tryd.prog 1000000 (.code
  (loopAt Tryd.prog 33 0) 28 (mkT [(0, .sv 1 n (recF m b)), (1, .lr 0 1 0 n2 false), (5, .i .i64 (Int.ofNat i))]) (mkH [some (.rows 38 1 n2 (recF m2 b2))])) (Orc.t (Orc.s Orc.z
  Orc.z)) K = (decide (Int.ofNat i < Int.ofNat n) = true ∧ ((0 : Int) ≤ Int.ofNat i ∧ Int.ofNat i < ↑n) ∧ True ∧ U8s (m i) (byF (b (Int.toNat (Int.ofNat i)))) ∧ ((0 : Int) ≤
  Int.ofNat i ∧ Int.ofNat i < ↑n2) ∧ i < n2 ∧ U8s (m2 i) (byF (b2 (addN 0 (Int.toNat (Int.ofNat i))))) ∧ ((!natsEq (bytesF (m i) (byF (b (Int.toNat (Int.ofNat i))))) (bytesF (m2 i)
  (byF (b2 (addN 0 (Int.toNat (Int.ofNat i))))))) = true → K (Res.st XO.ret (T.n (some (AV.sv 1 n (recF m b))) (T.n (some (AV.lr 0 1 0 n2 false)) (T.n none (T.n none T.e (T.n (some
  (AV.i IntKind.i64 (Int.ofNat i))) T.e T.e)) (T.n (some (AV.i IntKind.i64 (Int.ofNat i))) (T.n (some (AV.pv 1 (recF m b i))) T.e T.e) (T.n (some (AV.b !natsEq (bytesF (m i) (byF (b
  (Int.toNat (Int.ofNat i))))) (bytesF (m2 i) (byF (b2 (addN 0 (Int.toNat (Int.ofNat i)))))))) T.e T.e))) (T.n (some (AV.i IntKind.i64 (Int.ofNat i))) (T.n none (T.n (some (AV.sv 1
  n (recF m b))) T.e T.e) (T.n (some (AV.sv 1 (m2 i) (byF (b2 (addN 0 (Int.toNat (Int.ofNat i))))))) T.e T.e)) (T.n (some (AV.i IntKind.i64 (Int.ofNat n))) (T.n (some (AV.s (bytesF
  (m i) (byF (b (Int.toNat (Int.ofNat i))))))) T.e T.e) T.e))) (T.n none (T.n (some (AV.b false)) (T.n none T.e (T.n (some (AV.pr 0 1 i 0)) T.e T.e)) (T.n (some (AV.sv 1 n (recF m
  b))) (T.n (some (AV.sv 1 (m i) (byF (b (Int.toNat (Int.ofNat i)))))) T.e T.e) T.e)) (T.n none (T.n none (T.n (some (AV.i IntKind.i64 (Int.ofNat i))) T.e T.e) (T.n (some (AV.s
  (bytesF (m2 i) (byF (b2 (addN 0 (Int.toNat (Int.ofNat i)))))))) T.e T.e)) (T.n (some (AV.b (decide (Int.ofNat i < Int.ofNat n)))) (T.n (some (AV.lr 0 1 0 n2 false)) T.e T.e)
  T.e)))) { tree := T.n (some (AObj.rows 38 1 n2 (recF m2 b2))) T.e T.e, next := 1, log := [] }) Orc.z) ∧ ((!natsEq (bytesF (m i) (byF (b (Int.toNat (Int.ofNat i))))) (bytesF (m2 i)
  (byF (b2 (addN 0 (Int.toNat (Int.ofNat i))))))) = false → ((-9223372036854775808 : Int) ≤ Int.ofNat i + (1 : Int) ∧ Int.ofNat i + (1 : Int) ≤ (9223372036854775807 : Int)) ∧ K
  (Res.st XO.nrm (T.n (some (AV.sv 1 n (recF m b))) (T.n (some (AV.lr 0 1 0 n2 false)) (T.n none (T.n none (T.n (some (AV.i IntKind.i64 (Int.ofNat i))) T.e T.e) (T.n (some (AV.i
  IntKind.i64 (Int.ofNat i))) T.e T.e)) (T.n (some (AV.i IntKind.i64 (Int.ofNat i))) (T.n (some (AV.pv 1 (recF m b i))) T.e T.e) (T.n (some (AV.b !natsEq (bytesF (m i) (byF (b
  (Int.toNat (Int.ofNat i))))) (bytesF (m2 i) (byF (b2 (addN 0 (Int.toNat (Int.ofNat i)))))))) T.e T.e))) (T.n (some (AV.i IntKind.i64 (Int.ofNat i + (1 : Int)))) (T.n none (T.n
  (some (AV.sv 1 n (recF m b))) T.e T.e) (T.n (some (AV.sv 1 (m2 i) (byF (b2 (addN 0 (Int.toNat (Int.ofNat i))))))) T.e T.e)) (T.n (some (AV.i IntKind.i64 (Int.ofNat n))) (T.n (some
  (AV.s (bytesF (m i) (byF (b (Int.toNat (Int.ofNat i))))))) T.e T.e) T.e))) (T.n none (T.n none (T.n none (T.n (some (AV.i IntKind.i64 (Int.ofNat i + (1 : Int)))) T.e T.e) (T.n
  (some (AV.pr 0 1 i 0)) T.e T.e)) (T.n (some (AV.sv 1 n (recF m b))) (T.n (some (AV.sv 1 (m i) (byF (b (Int.toNat (Int.ofNat i)))))) T.e T.e) T.e)) (T.n none (T.n none (T.n (some
  (AV.i IntKind.i64 (Int.ofNat i))) T.e T.e) (T.n (some (AV.s (bytesF (m2 i) (byF (b2 (addN 0 (Int.toNat (Int.ofNat i)))))))) T.e T.e)) (T.n (some (AV.b (decide (Int.ofNat i <
  Int.ofNat n)))) (T.n (some (AV.lr 0 1 0 n2 false)) T.e T.e) T.e)))) { tree := T.n (some (AObj.rows 38 1 n2 (recF m2 b2))) T.e T.e, next := 1, log := [] }) Orc.z)) := by kernel_rfl
theorem smE_vc (n n2 i : Nat) (m m2 : Nat → Nat) (b b2 : Nat → Nat → Nat) (h1 : decide (Int.ofNat i < Int.ofNat n) = false) (K : Res → Orc → Prop) : runK Tryd.prog 1000000 (.code
  (loopAt Tryd.prog 33 0) 28 (mkT [(0, .sv 1 n (recF m b)), (1, .lr 0 1 0 n2 false), (5, .i .i64 (Int.ofNat i))]) (mkH [some (.rows 38 1 n2 (recF m2 b2))])) (Orc.f Orc.z) K =
  (decide (Int.ofNat i < Int.ofNat n) = false ∧ K (Res.st (XO.exit 0) (T.n (some (AV.sv 1 n (recF m b))) (T.n (some (AV.lr 0 1 0 n2 false)) (T.n none T.e (T.n (some (AV.i
  IntKind.i64 (Int.ofNat i))) T.e T.e)) (T.n (some (AV.i IntKind.i64 (Int.ofNat i))) T.e (T.n (some (AV.i IntKind.i64 (Int.ofNat n))) T.e T.e))) (T.n none (T.n none T.e (T.n (some
  (AV.sv 1 n (recF m b))) T.e T.e)) (T.n none T.e (T.n (some (AV.b (decide (Int.ofNat i < Int.ofNat n)))) T.e T.e)))) { tree := T.n (some (AObj.rows 38 1 n2 (recF m2 b2))) T.e T.e, next := 1, log := [] })
  Orc.z) := by kernel_rfl
theorem sm1_vc (n n2 : Nat) (m m2 : Nat → Nat) (b b2 : Nat → Nat → Nat) (h : (!decide (Int.ofNat n = Int.ofNat n2)) = false) (K : Res → Orc → Prop) : runK Tryd.prog 1000000 (.call
  23 [.sv 1 n (recF m b), .lr 0 1 0 n2 false] (mkH [some (.rows 38 1 n2 (recF m2 b2))])) (Orc.inl (Orc.f (Orc.lop [0] [0, 1, 5] 1 (XO.exit 0) [] [some (AObj.rows 38 1 n2 (recF m2
  b2))] Orc.z))) K = ((!decide (Int.ofNat n = Int.ofNat n2)) = false ∧ LDoes Tryd.prog (loopAt Tryd.prog 33 0) 28 1 (mkT [(0, AV.sv 1 n (recF m b)), (1, AV.lr 0 1 0 n2 false), (5,
  AV.i IntKind.i64 (0 : Int))]) [some (AObj.rows 38 1 n2 (recF m2 b2))] (XO.exit 0) (mkT []) [some (AObj.rows 38 1 n2 (recF m2 b2))] ∧ K (Res.rv (AV.b true) { tree := T.n (some (AObj.rows 38 1 n2 (recF m2 b2))) T.e T.e, next := 1, log := [0] })
  Orc.z) := by kernel_rfl
theorem sm2_vc (n n2 : Nat) (m m2 : Nat → Nat) (b b2 : Nat → Nat → Nat) (h : (!decide (Int.ofNat n = Int.ofNat n2)) = false) (K : Res → Orc → Prop) : runK Tryd.prog 1000000 (.call
  23 [.sv 1 n (recF m b), .lr 0 1 0 n2 false] (mkH [some (.rows 38 1 n2 (recF m2 b2))])) (Orc.inl (Orc.f (Orc.lop [0] [0, 1, 5] 1 XO.ret [(4, AV.b false)] [some (AObj.rows 38 1 n2
  (recF m2 b2))] Orc.z))) K = ((!decide (Int.ofNat n = Int.ofNat n2)) = false ∧ LDoes Tryd.prog (loopAt Tryd.prog 33 0) 28 1 (mkT [(0, AV.sv 1 n (recF m b)), (1, AV.lr 0 1 0 n2
  false), (5, AV.i IntKind.i64 (0 : Int))]) [some (AObj.rows 38 1 n2 (recF m2 b2))] XO.ret (mkT [(4, AV.b false)]) [some (AObj.rows 38 1 n2 (recF m2 b2))] ∧ K (Res.rv (AV.b false) { tree := T.n (some (AObj.rows 38 1 n2 (recF m2 b2))) T.e T.e, next := 1, log := [0] })
  Orc.z) := by kernel_rfl
theorem sm3_vc (n n2 : Nat) (m m2 : Nat → Nat) (b b2 : Nat → Nat → Nat) (h : (!decide (Int.ofNat n = Int.ofNat n2)) = true) (K : Res → Orc → Prop) : runK Tryd.prog 1000000 (.call
  23 [.sv 1 n (recF m b), .lr 0 1 0 n2 false] (mkH [some (.rows 38 1 n2 (recF m2 b2))])) (Orc.inl (Orc.t Orc.z)) K = ((!decide (Int.ofNat n = Int.ofNat n2)) = true ∧ K (Res.rv (AV.b
  false) { tree := T.n (some (AObj.rows 38 1 n2 (recF m2 b2))) T.e T.e, next := 1, log := [] }) Orc.z) := by kernel_rfl
theorem oa_lp (n : Nat) (m : Nat → Nat) (b : Nat → Nat → Nat) (hn : n ≤ 5864062014634) (hm : ∀ i, i < n → m i ≤ 140737488351232) : LDoes Tryd.prog (loopAt Tryd.prog 15 0) 19 0 (mkT [(3, .l0), (6, .sv 1 n (recF m b)), (7, .i .i64 (Int.ofNat n)), (8, .i .i64 0)]) [] (.exit 0) (mkT [(3, .lr 0 1 0 n false)]) [some (.rows 38 1 n (recF m b))] := by
  have key : LDoes Tryd.prog (loopAt Tryd.prog 15 0) 19 0 (mkT [(3, .lr 0 1 0 0 false), (6, .sv 1 n (recF m b)), (7, .i .i64 (Int.ofNat n)), (8, .i .i64 0)]) [some (.rows 38 1 0 (recF m b))] (.exit 0) (mkT [(3, .lr 0 1 0 n false)]) [some (.rows 38 1 n (recF m b))] := by
    refine loop_indV (D := Nat) (l' := [(3, .lr 0 1 0 n false)]) (fun k => ([(3, .lr 0 1 0 k false), (6, .sv 1 n (recF m b)), (7, .i .i64 (Int.ofNat n)), (8, .i .i64 (Int.ofNat k))], [some (.rows 38 1 k (recF m b))])) (fun k => n - k) (fun k => k ≤ n) (fun k hk => ?_) 0 (Nat.zero_le _)
    refine ⟨Nat.zero_le _, ?_⟩
    by_cases e : k = n
    · subst e
      have h1 : decide (Int.ofNat k < Int.ofNat k) = false := by simp
      exact ⟨_, _, (oaE_vc k k m b h1 _).mpr ⟨h1, .inr ⟨[0], [], _, _, _, _, rfl, by simp, st_k [0] (by kernel_rfl), TVL.refl _, OVL.refl _⟩⟩⟩
    have hlt : k < n := by omega
    have h1 : decide (Int.ofNat k < Int.ofNat n) = true := by simp; omega
    refine ⟨_, _, (oaR_vc n k m b h1 _).mpr ⟨h1, ⟨by simp, by simp; omega⟩, trivial, jown_con _ _ (hm k hlt), ⟨by omega, trivial, by omega, by omega⟩, ⟨by simp <;> omega, by simp <;> omega⟩, .inl ⟨k + 1, [2], [], _, _, [(3, .lr 0 1 0 (addN k 1) false), (6, .sv 1 n (recF m b)), (7, .i .i64 (Int.ofNat n)), (8, .i .i64 (Int.ofNat k + 1))],
      [some (.rows 38 1 (addN k 1) (appZ k (recF m b) (listF 1 [CV.sv 1 (m k) (byF (b (Int.toNat (Int.ofNat k))))] 1)))], hlt, by show n - (k + 1) < n - k; omega, rfl, st_k [2] (by kernel_rfl), ?_, ?_⟩⟩⟩
    · rw [addN_eq]; exact .refl _
    · rw [addN_eq]
      refine ⟨.rowsW fun t j ht hj => ?_, trivial⟩
      obtain rfl : j = 0 := by omega
      refine (appZ_CW _ _ _ _ _).trans ?_
      by_cases hc : t < k
      · rw [lt_ hc, cond_true]; exact .refl _
      · rw [lf hc, cond_false]
        have : t = k := by omega
        subst this
        rw [Nat.sub_self]
        exact .refl _
  exact key.weak ⟨rfl, .inr ⟨rfl, .inl ⟨0, 1, 0, false, rfl⟩⟩, rfl, .inl rfl, rfl, .inl rfl, rfl, .inl rfl, trivial⟩ (by intro o ho; simp at ho; subst ho; exact ⟨_, rfl, rfl⟩)
theorem jownA_con (n : Nat) (m : Nat → Nat) (b : Nat → Nat → Nat) (hn : n ≤ 5864062014634) (hm : ∀ i, i < n → m i ≤ 140737488351232) : Con Tryd.prog 15 [.sv 1 n (recF m b)] [] (.lr 0 1 0 n false) [.set (.rows 38 1 n (recF m b))] :=
  con_of_run [] [0] ((oaM_vc n m b _).mpr ⟨oa_lp n m b hn hm, _, _, rfl, ret_k (by kernel_rfl)⟩)
noncomputable def eqB (m m2 : Nat → Nat) (b b2 : Nat → Nat → Nat) (i : Nat) : Bool := natsEq (bytesF (m i) (byF (b i))) (bytesF (m2 i) (byF (b2 i)))
def allN (f : Nat → Bool) : Nat → Bool
  | 0 => true
  | k + 1 => allN f k && f k
noncomputable def sameB (n n2 : Nat) (m m2 : Nat → Nat) (b b2 : Nat → Nat → Nat) : Bool := decide (n = n2) && allN (eqB m m2 b b2) n
theorem allN_t {f : Nat → Bool} : ∀ {k : Nat}, allN f k = true → ∀ i, i < k → f i = true
  | 0, _, i, h => absurd h (by omega)
  | k + 1, h, i, hi => by
    have h' : (allN f k && f k) = true := h
    rw [Bool.and_eq_true] at h'
    by_cases c : i = k
    · subst c; exact h'.2
    · exact allN_t h'.1 i (by omega)
theorem allN_f {f : Nat → Bool} : ∀ {k : Nat}, allN f k = false → ∃ i, i < k ∧ f i = false ∧ ∀ j, j < i → f j = true
  | 0, h => Bool.noConfusion h
  | k + 1, h => by
    have h' : (allN f k && f k) = false := h
    cases c : allN f k with
    | false =>
      obtain ⟨i, a, b, d⟩ := allN_f c
      exact ⟨i, by omega, b, d⟩
    | true =>
      rw [c] at h'
      exact ⟨k, by omega, h', fun j hj => allN_t c j hj⟩
theorem eqB_of {m m2 : Nat → Nat} {b b2 : Nat → Nat → Nat} {i : Nat} (h1 : m i = m2 i) (h2 : ∀ t, t < m i → b i t = b2 i t) : eqB m m2 b b2 i = true := by
  refine (natsEq_iff _ _).2 ?_
  unfold bytesF
  rw [← h1]
  refine List.map_congr_left fun t ht => ?_
  rw [List.mem_range] at ht
  show Sim.byteOf (CV.i .u8 (Int.ofNat (b i t))) = Sim.byteOf (CV.i .u8 (Int.ofNat (b2 i t)))
  rw [h2 t ht]
theorem sameB_of {n n2 : Nat} {m m2 : Nat → Nat} {b b2 : Nat → Nat → Nat} (h0 : n = n2) (h : ∀ i, i < n → m i = m2 i ∧ ∀ t, t < m i → b i t = b2 i t) : sameB n n2 m m2 b b2 = true := by
  unfold sameB
  rw [decide_eq_true h0, Bool.true_and]
  cases c : allN (eqB m m2 b b2) n with
  | true => rfl
  | false =>
    obtain ⟨i, a, e, _⟩ := allN_f c
    rw [eqB_of (h i a).1 (h i a).2] at e
    exact Bool.noConfusion e
theorem sm_lp (n n2 : Nat) (m m2 : Nat → Nat) (b b2 : Nat → Nat → Nat) (he : n = n2) (hn : n ≤ 5864062014634) (x : XO) (l' : List (Nat × AV)) (k0 : Nat) (hk0 : k0 ≤ n) (good : ∀ i, i < k0 → eqB m m2 b b2 i = true)
    (fin : (k0 = n ∧ x = .exit 0 ∧ l' = []) ∨ (k0 < n ∧ eqB m m2 b b2 k0 = false ∧ x = .ret ∧ l' = [(4, .b false)])) : LDoes Tryd.prog (loopAt Tryd.prog 33 0) 28 1 (mkT [(0, .sv 1 n (recF m b)), (1, .lr 0 1 0 n2 false), (5, .i .i64 0)]) [some (.rows 38 1 n2 (recF m2 b2))] x (mkT l') [some (.rows 38 1 n2 (recF m2 b2))] := by
  refine loop_ind (D := Nat) (fun i => ([(0, .sv 1 n (recF m b)), (1, .lr 0 1 0 n2 false), (5, .i .i64 (Int.ofNat i))], [some (.rows 38 1 n2 (recF m2 b2))])) (fun i => k0 - i) (fun i => i ≤ k0) (fun i hi => ?_) 0 (Nat.zero_le _)
  refine ⟨Nat.le_refl _, ?_⟩
  have us : ∀ (L : Nat) (f : Nat → Nat), U8s L (byF f) := fun L f k _ => ⟨f k, rfl⟩
  have ea : addN 0 (Int.toNat (Int.ofNat i)) = i := by rw [addN_eq]; exact Nat.zero_add i
  by_cases e : i = k0
  · subst e
    rcases fin with ⟨h0, rfl, rfl⟩ | ⟨h0, c, rfl, rfl⟩
    · have h1 : decide (Int.ofNat i < Int.ofNat n) = false := by simp; omega
      exact ⟨_, _, (smE_vc n n2 i m m2 b b2 h1 _).mpr ⟨h1, .inr ⟨[0], [], _, _, rfl, by simp, st_k [0] (by kernel_rfl)⟩⟩⟩
    · have h1 : decide (Int.ofNat i < Int.ofNat n) = true := by simp; omega
      have c' : (!natsEq (bytesF (m i) (byF (b (Int.toNat (Int.ofNat i))))) (bytesF (m2 i) (byF (b2 (addN 0 (Int.toNat (Int.ofNat i))))))) = true := by
        rw [ea]; show (!eqB m m2 b b2 i) = true; rw [c]; rfl
      exact ⟨_, _, (smR_vc n n2 i m m2 b b2 h1 _).mpr ⟨h1, ⟨by simp, by simp; omega⟩, trivial, us _ _, ⟨by simp, by simp; omega⟩, by omega, us _ _, fun _ => .inr ⟨[0], [], _, _, rfl, by simp, st_k [0] (by kernel_rfl)⟩, fun a => absurd (a.symm.trans c') (by decide)⟩⟩
  · have hlt : i < n := by omega
    have h1 : decide (Int.ofNat i < Int.ofNat n) = true := by simp; omega
    have c' : (!natsEq (bytesF (m i) (byF (b (Int.toNat (Int.ofNat i))))) (bytesF (m2 i) (byF (b2 (addN 0 (Int.toNat (Int.ofNat i))))))) = false := by
      rw [ea]; show (!eqB m m2 b b2 i) = false; rw [good i (by omega)]; rfl
    exact ⟨_, _, (smR_vc n n2 i m m2 b b2 h1 _).mpr ⟨h1, ⟨by simp, by simp; omega⟩, trivial, us _ _, ⟨by simp, by simp; omega⟩, by omega, us _ _, fun a => absurd (a.symm.trans c') (by decide), fun _ => ⟨⟨by simp <;> omega, by simp <;> omega⟩, .inl ⟨i + 1, [0], [], _, _, by omega, by show k0 - (i + 1) < k0 - i; omega, rfl, st_k [0] (by kernel_rfl)⟩⟩⟩⟩
theorem jsame_con (n n2 : Nat) (m m2 : Nat → Nat) (b b2 : Nat → Nat → Nat) (hn : n ≤ 5864062014634) : Con Tryd.prog 23 [.sv 1 n (recF m b), .lr 0 1 0 n2 false] [some (.rows 38 1 n2 (recF m2 b2))] (.b (sameB n n2 m m2 b b2)) [.keep] := by
  unfold sameB
  by_cases he : n = n2
  · have h : (!decide (Int.ofNat n = Int.ofNat n2)) = false := by rw [he]; simp
    rw [decide_eq_true he, Bool.true_and]
    cases c : allN (eqB m m2 b b2) n with
    | true => exact con_of_run [] [] ((sm1_vc n n2 m m2 b b2 h _).mpr ⟨h, sm_lp n n2 m m2 b b2 he hn _ _ n (Nat.le_refl _) (fun i hi => allN_t c i hi) (.inl ⟨rfl, rfl, rfl⟩), _, _, rfl, ret_k (by kernel_rfl)⟩)
    | false =>
      obtain ⟨i, a, e, g⟩ := allN_f c
      exact con_of_run [] [] ((sm2_vc n n2 m m2 b b2 h _).mpr ⟨h, sm_lp n n2 m m2 b b2 he hn _ _ i (by omega) g (.inr ⟨a, e, rfl, rfl⟩), _, _, rfl, ret_k (by kernel_rfl)⟩)
  · have h : (!decide (Int.ofNat n = Int.ofNat n2)) = true := by rw [decide_eq_false (by simp; omega)]; rfl
    rw [decide_eq_false he, Bool.false_and]
    exact con_of_run [] [] ((sm3_vc n n2 m m2 b b2 h _).mpr ⟨h, _, _, rfl, ret_k (by kernel_rfl)⟩)
end Go.Proofs.Jn
