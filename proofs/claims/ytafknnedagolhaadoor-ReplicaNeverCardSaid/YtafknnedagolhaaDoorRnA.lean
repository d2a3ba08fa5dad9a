/- Runs over unknown values, told by the kernel: part RnA. -/
import Derived.Test.YtafknnedagolhaaDoorClB
set_option linter.unusedSimpArgs false
set_option linter.unusedVariables false
set_option maxRecDepth 20000
namespace Go.Proofs.Cl
open Go Go.Sim Go.Proofs Go.Proofs.Cd Go.Proofs.St Go.Proofs.YtafknnedagolhaaDoor
theorem nw_q1 {a b : Nat} (h : nwS a b = 0) : nwQ a b = b ∧ (a < b ∨ a = 0 ∧ b = 0) := by
  unfold nwS at h
  by_cases hab : a < b
  · unfold nwQ; rw [lt_ hab]; exact ⟨rfl, .inl hab⟩
  · rw [lf hab] at h
    simp only at h
    by_cases ha : a = 0
    · subst ha
      have : b = 0 := by omega
      subst this
      unfold nwQ; exact ⟨rfl, .inr ⟨rfl, rfl⟩⟩
    · rw [ef ha] at h; cases h
theorem nw_q0 {a b : Nat} (h : nwS a b = 1) : nwQ a b = a ∧ ¬ a < b ∧ a ≠ 0 := by
  unfold nwS at h
  by_cases hab : a < b
  · rw [lt_ hab] at h; cases h
  · rw [lf hab] at h
    simp only at h
    by_cases ha : a = 0
    · subst ha; cases h
    · unfold nwQ; rw [lf hab]; exact ⟨rfl, hab, ha⟩
theorem nw_lt {a b : Nat} (h : a < b) (x y : List Nat) : nwQ a b = b ∧ nwD a b x y = y ∧ nwS a b = 0 := by
  unfold nwQ nwD nwS; rw [lt_ h]; exact ⟨rfl, rfl, rfl⟩
theorem nw_ge {a b : Nat} (h : ¬ a < b) (h0 : a ≠ 0) (x y : List Nat) : nwQ a b = a ∧ nwD a b x y = x ∧ nwS a b = 1 := by
  unfold nwQ nwD nwS; rw [lf h, ef h0]; exact ⟨rfl, rfl, rfl⟩
theorem v_zero (s : SS) (a : Nat) (h : vQ s a = 0) : vD s a = [] := by
  unfold vQ at h
  unfold vD
  cases ht : s.torn a with
  | true => rw [cond_true]
  | false =>
    rw [ht, cond_false] at h
    rw [cond_false]
    unfold lkQ at h
    unfold lkD
    cases ho : okB (fun k => (s.dur a k).toNat) with
    | false => rw [cond_false]
    | true =>
      rw [ho, cond_true] at h
      unfold okB at ho
      rw [h] at ho
      simp at ho
theorem nw_after {q0 q1 q0' q1' : Nat} {d0 d1 d0' d1' x : List Nat} (z : q0 = 0 → d0 = [])
    (h : (nwS q0 q1 = 0 ∧ (q1' = q1 ∧ d1' = d1) ∧ ((q0' = nwQ q0 q1 + 1 ∧ d0' = x) ∨ (q0' = 0 ∧ d0' = []) ∨ (q0' = q0 ∧ d0' = d0))) ∨
      (nwS q0 q1 = 1 ∧ (q0' = q0 ∧ d0' = d0) ∧ ((q1' = nwQ q0 q1 + 1 ∧ d1' = x) ∨ (q1' = 0 ∧ d1' = []) ∨ (q1' = q1 ∧ d1' = d1)))) :
    (nwQ q0' q1' = nwQ q0 q1 + 1 ∧ nwD q0' q1' d0' d1' = x ∧ nwS q0' q1' = 1 - nwS q0 q1) ∨
    (nwQ q0' q1' = nwQ q0 q1 ∧ nwD q0' q1' d0' d1' = nwD q0 q1 d0 d1 ∧ nwS q0' q1' = nwS q0 q1) := by
  rcases h with ⟨hs, ⟨rfl, rfl⟩, h⟩ | ⟨hs, ⟨rfl, rfl⟩, h⟩
  · obtain ⟨hq, hc⟩ := nw_q1 hs
    rcases h with ⟨rfl, rfl⟩ | ⟨rfl, rfl⟩ | ⟨rfl, rfl⟩
    · rw [hq, hs]
      exact .inl (nw_ge (by omega) (by omega) _ _)
    · rcases hc with hc | ⟨rfl, rfl⟩
      · have a := nw_lt hc d0 d1'
        have b := nw_lt (show 0 < q1' by omega) [] d1'
        exact .inr ⟨b.1.trans a.1.symm, b.2.1.trans a.2.1.symm, b.2.2.trans a.2.2.symm⟩
      · exact .inr ⟨rfl, (z rfl).symm, rfl⟩
    · exact .inr ⟨rfl, rfl, rfl⟩
  · obtain ⟨hq, hc, h0⟩ := nw_q0 hs
    rcases h with ⟨rfl, rfl⟩ | ⟨rfl, rfl⟩ | ⟨rfl, rfl⟩
    · rw [hq, hs]
      exact .inl (nw_lt (by omega) _ _)
    · have a := nw_ge hc h0 d0' d1
      have b := nw_ge (show ¬ q0' < 0 by omega) h0 d0' []
      exact .inr ⟨b.1.trans a.1.symm, b.2.1.trans a.2.1.symm, b.2.2.trans a.2.2.symm⟩
    · exact .inr ⟨rfl, rfl, rfl⟩
theorem nw_done {q0 q1 q0' q1' : Nat} {d0' d1' x : List Nat}
    (h : (nwS q0 q1 = 0 ∧ q1' = q1 ∧ q0' = nwQ q0 q1 + 1 ∧ d0' = x) ∨ (nwS q0 q1 = 1 ∧ q0' = q0 ∧ q1' = nwQ q0 q1 + 1 ∧ d1' = x)) :
    nwQ q0' q1' = nwQ q0 q1 + 1 ∧ nwD q0' q1' d0' d1' = x ∧ nwS q0' q1' = 1 - nwS q0 q1 := by
  rcases h with ⟨hs, rfl, rfl, rfl⟩ | ⟨hs, rfl, rfl, rfl⟩
  · obtain ⟨hq, hc⟩ := nw_q1 hs
    rw [hq, hs]
    exact nw_ge (by omega) (by omega) _ _
  · obtain ⟨hq, hc, h0⟩ := nw_q0 hs
    rw [hq, hs]
    exact nw_lt (by omega) _ _
theorem sp01 (a b : Nat) : nwS a b = 0 ∨ nwS a b = 1 := by have := nwS_le a b; omega
theorem open_after {s s' : SS} {i a q : Nat} {x : List Nat} (hP : s.P = []) (ho : s.off = false) (hn : s.n = 258) (hi : i < 129) (ha : a = i * 2 + opS s i) (hq : q = opQ s i + 1) (h : Aft s s' a q x) :
    (∀ j, j < 129 → j ≠ i → opQ s' j = opQ s j ∧ opD s' j = opD s j ∧ opS s' j = opS s j) ∧
    ((opQ s' i = opQ s i + 1 ∧ opD s' i = x ∧ opS s' i = 1 - opS s i) ∨ (opQ s' i = opQ s i ∧ opD s' i = opD s i ∧ opS s' i = opS s i)) ∧
    (vQ s' a = q → vD s' a = x → opQ s' i = opQ s i + 1 ∧ opD s' i = x ∧ opS s' i = 1 - opS s i) := by
  have old : ∀ j, j < 129 → _ := fun j hj => op_v hP ho (i := j) (by omega)
  have new : ∀ j, j < 129 → _ := fun j hj => op_v h.P h.off (i := j) (by rw [h.n]; omega)
  have sp := sp01 (vQ s (2 * i)) (vQ s (2 * i + 1))
  rw [(old i hi).2.2] at ha
  rw [(old i hi).1] at hq
  subst hq
  refine ⟨fun j hj hne => ?_, ?_, fun h1 h2 => ?_⟩
  · obtain ⟨a1, a2, a3⟩ := old j hj
    obtain ⟨b1, b2, b3⟩ := new j hj
    have k0 := h.other (2 * j) (by omega)
    have k1 := h.other (2 * j + 1) (by omega)
    rw [k0.1, k1.1] at b1 b3
    rw [k0.1, k1.1, k0.2, k1.2] at b2
    exact ⟨b1.trans a1.symm, b2.trans a2.symm, b3.trans a3.symm⟩
  · obtain ⟨a1, a2, a3⟩ := old i hi
    obtain ⟨b1, b2, b3⟩ := new i hi
    rw [a1, a2, a3, b1, b2, b3]
    refine nw_after (v_zero s (2 * i)) ?_
    rcases sp with e | e
    · have : a = 2 * i := by omega
      subst this
      have k1 := h.other (2 * i + 1) (by omega)
      exact .inl ⟨e, k1, h.here⟩
    · have : a = 2 * i + 1 := by omega
      subst this
      have k1 := h.other (2 * i) (by omega)
      exact .inr ⟨e, k1, h.here⟩
  · obtain ⟨a1, a2, a3⟩ := old i hi
    obtain ⟨b1, b2, b3⟩ := new i hi
    rw [a1, a3, b1, b2, b3]
    refine nw_done ?_
    rcases sp with e | e
    · have : a = 2 * i := by omega
      subst this
      exact .inl ⟨e, (h.other (2 * i + 1) (by omega)).1, h1, h2⟩
    · have : a = 2 * i + 1 := by omega
      subst this
      exact .inr ⟨e, (h.other (2 * i) (by omega)).1, h1, h2⟩
noncomputable def tookD (d : Nat → List Nat) (k : Nat) (x : List Nat) : Nat → List Nat := fun j => bif Nat.beq j k then x else d j
structure RvI (k : Nat) (c : CS) (s : SS) : Prop where
  hk : k ≤ 1001
  inv : Inv c s k
  n : c.n = 129
  dead : c.dead = false
  off : s.off = false
  P : s.P = []
  sn : s.n = 258
  f : ∀ j, j < 129 → c.q j = opQ s j ∧ c.d j = opD s j ∧ c.sp j = opS s j
  q : ∀ j, j < 129 → c.q j ≤ k
theorem opened_at (s : SS) {j : Nat} (hj : j < 129) : (opened s 129).q j = opQ s j ∧ (opened s 129).d j = opD s j ∧ (opened s 129).sp j = opS s j := by
  refine ⟨?_, ?_, ?_⟩
  · show (bif Nat.blt j 129 then opQ s j else 0) = _
    rw [lt_ hj, cond_true]
  · show (bif Nat.blt j 129 then opD s j else []) = _
    rw [lt_ hj, cond_true]
  · show (bif Nat.blt j 129 then opS s j else 0) = _
    rw [lt_ hj, cond_true]
theorem RvI.opened {s : SS} {k : Nat} (hk : k ≤ 1001) (ok : OkM s k) (hb : Byt s) (ho : s.off = false) (hP : s.P = []) (hn : s.n = 258) (hq : ∀ j, j < 129 → opQ s j ≤ k) : RvI k (opened s 129) s :=
  ⟨hk, .opened (by decide) (by rw [hn]; decide) ok hb, rfl, rfl, ho, hP, hn, fun j hj => opened_at s hj, fun j hj => by rw [(opened_at s hj).1]; exact hq j hj⟩
theorem op_eq {s s' : SS} (hP : s.P = []) (ho : s.off = false) (hn : s.n = 258) (hP' : s'.P = []) (ho' : s'.off = false) (hn' : s'.n = 258) (hd : s'.dur = s.dur) (ht : s'.torn = s.torn) {j : Nat} (hj : j < 129) :
    opQ s' j = opQ s j ∧ opD s' j = opD s j ∧ opS s' j = opS s j := by
  have a := op_v hP ho (i := j) (by omega)
  have b := op_v hP' ho' (i := j) (by omega)
  have e1 : vQ s' = vQ s := by funext k; unfold vQ; rw [hd, ht]
  have e2 : vD s' = vD s := by funext k; unfold vD; rw [hd, ht]
  rw [e1, e2] at b
  exact ⟨b.1.trans a.1.symm, b.2.1.trans a.2.1.symm, b.2.2.trans a.2.2.symm⟩
theorem RvI.arm {k : Nat} {c : CS} {s : SS} (h : RvI k c s) (hk : k < 1001) {i : Int} (hi : i ≤ 9223372036854775807) : RvI (k + 1) c (s.arm i) := by
  refine ⟨hk, ⟨h.inv.hc, h.inv.hs, h.inv.sp, (h.inv.ok.arm hi).mono (Nat.le_succ k), h.inv.byt.arm i⟩, h.n, h.dead, h.off, h.P, h.sn, fun j hj => ?_, fun j hj => Nat.le_succ_of_le (h.q j hj)⟩
  obtain ⟨a1, a2, a3⟩ := h.f j hj
  obtain ⟨b1, b2, b3⟩ := op_eq (s' := s.arm i) h.P h.off h.sn h.P h.off h.sn rfl rfl hj
  exact ⟨a1.trans b1.symm, a2.trans b2.symm, a3.trans b3.symm⟩
theorem RvI.flat {k : Nat} {c : CS} {s : SS} (h : RvI k c s) (hk : k < 1001) (kk : Int) (tt : Bool) :
    RvI (k + 1) (Cl.opened (s.fail.revived kk tt) 129) (s.fail.revived kk tt) ∧ ∀ j, j < 129 → opD (s.fail.revived kk tt) j = c.d j := by
  obtain ⟨f1, f2, f3, f4, f5⟩ := rev_flat h.P kk tt
  have op := fun j hj => op_eq (s' := s.fail.revived kk tt) (j := j) h.P h.off h.sn f3 f2 (by rw [f1]; exact h.sn) f4 f5 hj
  refine ⟨.opened hk ((h.inv.ok.fail.revived kk tt).mono (Nat.le_succ k)) (h.inv.byt.fail.revived kk tt) f2 f3 (by rw [f1]; exact h.sn) fun j hj => ?_, fun j hj => ?_⟩
  · rw [(op j hj).1, ← (h.f j hj).1]; exact Nat.le_succ_of_le (h.q j hj)
  · rw [(op j hj).2.1, ← (h.f j hj).2.1]
theorem RvI.put {k : Nat} {c : CS} {s : SS} (h : RvI k c s) (hk : k < 1001) (i : Int) (x : List Nat) (hx : ∀ b ∈ x, b < 256) :
    (c.putE s i x = 2 ∧ c.putC s i x = c ∧ c.putS s i x = s) ∨
    ((0 ≤ i ∧ i < 129) ∧ c.putE s i x = 0 ∧ RvI (k + 1) (c.putC s i x) (c.putS s i x) ∧ ∀ j, (c.putC s i x).d j = tookD c.d i.toNat x j) ∨
    (c.putE s i x = 13 ∧ (c.putS s i x).off = true ∧ OkM (c.putS s i x) (k + 1) ∧ ∀ (kk : Int) (tt : Bool),
      RvI (k + 1) (Cl.opened ((c.putS s i x).revived kk tt) 129) ((c.putS s i x).revived kk tt) ∧ ∀ j, j < 129 → opD ((c.putS s i x).revived kk tt) j = c.d j ∨ (Int.ofNat j = i ∧ opD ((c.putS s i x).revived kk tt) j = x)) := by
  by_cases hb : ¬ (0 ≤ i ∧ i < Int.ofNat c.n) ∨ 51 < x.length
  · exact .inl (put_bad s h.dead hb)
  have hi : 0 ≤ i ∧ i < Int.ofNat c.n := Classical.byContradiction fun g => hb (.inl g)
  have hl : x.length ≤ 51 := Nat.not_lt.mp fun g => hb (.inr g)
  have hi4 : 0 ≤ i ∧ i < 129 := by rw [h.n] at hi; exact hi
  have it : i.toNat < 129 := by omega
  have ei : Int.ofNat i.toNat = i := by simp; omega
  obtain ⟨g1, g2, g3⟩ := h.f i.toNat it
  have hq := h.q i.toNat it
  have iv := h.inv.put i x hx
  rcases put_or h.inv h.dead h.off h.P hi hl (by omega) hx with ⟨e1, e2, e3, e4, e5⟩ | ⟨e1, e2, e3⟩
  · refine .inr (.inl ⟨hi4, e1, ?_, fun j => by rw [e2]; exact Eq.refl _⟩)
    obtain ⟨o1, _, o3⟩ := open_after (i := i.toNat) h.P h.off h.sn it (by rw [g3]) (by rw [g1]) e3
    obtain ⟨n1, n2, n3⟩ := o3 e4 e5
    refine ⟨hk, iv, by rw [e2]; exact h.n, by rw [e2]; exact h.dead, e3.off, e3.P, by rw [e3.n]; exact h.sn, fun j hj => ?_, fun j hj => ?_⟩
    · rw [e2]
      show (bif Nat.beq j i.toNat then c.q i.toNat + 1 else c.q j) = _ ∧ (bif Nat.beq j i.toNat then x else c.d j) = _ ∧ (bif Nat.beq j i.toNat then 1 - c.sp i.toNat else c.sp j) = _
      by_cases e : j = i.toNat
      · rw [e, Nat.beq_refl, cond_true, cond_true, cond_true, g1, g3]
        exact ⟨n1.symm, n2.symm, n3.symm⟩
      · rw [ef e, cond_false, cond_false, cond_false]
        obtain ⟨a1, a2, a3⟩ := h.f j hj
        obtain ⟨b1, b2, b3⟩ := o1 j hj e
        exact ⟨a1.trans b1.symm, a2.trans b2.symm, a3.trans b3.symm⟩
    · rw [e2]
      show (bif Nat.beq j i.toNat then c.q i.toNat + 1 else c.q j) ≤ k + 1
      cases Nat.beq j i.toNat with
      | true => rw [cond_true]; omega
      | false => rw [cond_false]; have := h.q j hj; omega
  · refine .inr (.inr ⟨e1, e2, iv.ok, fun kk tt => ?_⟩)
    have af := e3.rev e2 kk tt (by omega) (by omega) hl hx
    obtain ⟨o1, o2, _⟩ := open_after (i := i.toNat) h.P h.off h.sn it (by rw [g3]) (by rw [g1]) af
    refine ⟨.opened hk (iv.ok.revived kk tt) (iv.byt.revived kk tt) af.off af.P (by rw [af.n]; exact h.sn) fun j hj => ?_, fun j hj => ?_⟩
    · by_cases e : j = i.toNat
      · rw [e]
        rcases o2 with ⟨m1, _, _⟩ | ⟨m1, _, _⟩ <;> rw [m1, ← g1] <;> omega
      · rw [(o1 j hj e).1, ← (h.f j hj).1]; have := h.q j hj; omega
    · by_cases e : j = i.toNat
      · rw [e]
        rcases o2 with ⟨_, m, _⟩ | ⟨_, m, _⟩
        · exact .inr ⟨ei, m⟩
        · exact .inl (by rw [m, ← g2])
      · exact .inl (by rw [(o1 j hj e).2.1, ← (h.f j hj).2.1])
end Go.Proofs.Cl
namespace Go.Proofs.Cl
open Go Go.Sim Go.Proofs Go.Proofs.Cd Go.Proofs.St
noncomputable def opF7 (KK NN QQ : Nat → Int) (XX : Nat → List Nat) (VV GG : Nat → Int) (TT : Nat → Bool) : Nat → Nat → CV := fun i j => match j with
  | 0 => .i .i64 (KK i)
  | 1 => .i .i64 (NN i)
  | 2 => .i .i64 (QQ i)
  | 3 => .s (XX i)
  | 4 => .i .i64 (VV i)
  | 5 => .i .i64 (GG i)
  | _ => .b (TT i)
end Go.Proofs.Cl
namespace Go.Proofs.Cl
open Go Go.Sim Go.Proofs Go.Proofs.Cd Go.Proofs.St Go.Proofs.YtafknnedagolhaaDoor
theorem no_len {c : CS} {i : Int} {x : List Nat} (h : c.no i x = 0) : x.length ≤ 51 := by
  unfold CS.no at h
  cases hd : c.dead with
  | true => rw [hd] at h; cases h
  | false =>
    rw [hd] at h
    cases h1 : decide (0 ≤ i ∧ i < Int.ofNat c.n) with
    | false => rw [h1] at h; cases h
    | true =>
      rw [h1] at h
      cases h2 : decide ((51 : Int) < Int.ofNat x.length) with
      | true => rw [h2] at h; cases h
      | false => have := of_decide_eq_false h2; simp at this; omega
theorem Txt.put {c : CS} (h : Txt c) (s : SS) (i : Int) {x : List Nat} (hx : ∀ b ∈ x, b < 256) : Txt (c.putC s i x) := by
  unfold CS.putC
  cases hd : decide (c.no i x = 0) with
  | false => exact h
  | true =>
    have hl := no_len (of_decide_eq_true hd)
    cases decide (cmE s (c.at_ i) (c.nx i) x = 0) with
    | false => exact ⟨h.n, h.b, h.l⟩
    | true =>
      refine ⟨h.n, fun j hj => ?_, fun j hj => ?_⟩
      · show ∀ y ∈ (bif Nat.beq j i.toNat then x else c.d j), y < 256
        cases Nat.beq j i.toNat with
        | true => exact hx
        | false => exact h.b j hj
      · show (bif Nat.beq j i.toNat then x else c.d j).length ≤ 51
        cases Nat.beq j i.toNat with
        | true => exact hl
        | false => exact h.l j hj
theorem btx_lt' {x : Int} {d : List Nat} (hx : x ≤ 1099511627776) (hd : ∀ b ∈ d, b < 256) : ∀ b ∈ btx x.toNat d, b < 256 := btx_lt (by omega) hd
theorem bQ_of {c c' : CS} {b : Int} (hn : c.n = 129) (hn' : c'.n = 129) (h : 0 ≤ b → b < 128 → c'.d b.toNat = c.d b.toNat) : bQ c' b = bQ c b ∧ bD c' b = bD c b := by
  unfold bQ bD
  cases hd : decide (0 ≤ b ∧ b < 128) with
  | false => exact ⟨rfl, rfl⟩
  | true =>
    have hb := of_decide_eq_true hd
    have e : c'.getD b = c.getD b := by
      unfold CS.getD
      rw [show decide (0 ≤ b ∧ b < Int.ofNat c'.n) = true by rw [hn']; exact decide_eq_true ⟨hb.1, by have := hb.2; show b < 129; omega⟩,
        show decide (0 ≤ b ∧ b < Int.ofNat c.n) = true by rw [hn]; exact decide_eq_true ⟨hb.1, by have := hb.2; show b < 129; omega⟩]
      exact h hb.1 hb.2
    rw [e]; exact ⟨rfl, rfl⟩
theorem mV_eq {c : CS} (hn : c.n = 129) (j : Nat) : mV c j = mtV (c.d 128) j := by
  unfold mV CS.getD
  rw [show decide ((0 : Int) ≤ 128 ∧ (128 : Int) < Int.ofNat c.n) = true by rw [hn]; decide]
  rfl
theorem mV_of {c c' : CS} (hn : c.n = 129) (hn' : c'.n = 129) (h : c'.d 128 = c.d 128) (j : Nat) : mV c' j = mV c j := by
  rw [mV_eq hn, mV_eq hn', h]
theorem rev_of {s : SS} (ho : s.off = true) (a : Bool) (l : Nat) (kk : Int) (tt : Bool) :
    ({ s with armed := a, left := l } : SS).revived kk tt = { s.revived kk tt with armed := a, left := l } := by
  obtain ⟨n, dur, torn, P, wr, off, armed, left⟩ := s
  simp only at ho
  subst ho
  unfold SS.revived
  simp only
  cases (tt && Nat.blt (keepN kk P.length) P.length) <;> rfl
structure Off (k : Nat) (c : CS) (s : SS) : Prop where
  off : s.off = true
  ok : OkM s k
  byt : Byt s
  n : ∀ kk tt, (s.revived kk tt).n = 258 ∧ (s.revived kk tt).off = false ∧ (s.revived kk tt).P = []
  q : ∀ kk tt j, j < 129 → opQ (s.revived kk tt) j ≤ k
  t : ∀ kk tt j, j < 129 → (∀ b ∈ opD (s.revived kk tt) j, b < 256) ∧ (opD (s.revived kk tt) j).length ≤ 51
  m : ∀ kk tt j, j < 5 → mV c j ≤ mtV (opD (s.revived kk tt) 128) j
theorem RvI.mono {k m : Nat} {c : CS} {s : SS} (h : RvI k c s) (hm : k ≤ m) (h1 : m ≤ 1001) : RvI m c s :=
  ⟨h1, h.inv.mono hm, h.n, h.dead, h.off, h.P, h.sn, h.f, fun j hj => Nat.le_trans (h.q j hj) hm⟩
structure FI (k : Nat) (c : CS) (rd : Bool) (s : SS) : Prop where
  hk : k ≤ 1001
  inv : Inv c s k
  txt : Txt c
  n : c.n = 129
  live : rd = false → RvI k c s
  dead : rd = true → Off k c s
theorem Txt.opened {s : SS} (h : ∀ j, j < 129 → (∀ b ∈ opD s j, b < 256) ∧ (opD s j).length ≤ 51) : Txt (Cl.opened s 129) := by
  refine ⟨(by decide : (129 : Nat) ≤ 256), fun j hj => ?_, fun j hj => ?_⟩
  · rw [(opened_at s hj).2.1]; exact (h j hj).1
  · rw [(opened_at s hj).2.1]; exact (h j hj).2
theorem act_no {w : Int} (hw : w ≠ -1) (c : CS) (rd : Bool) (s : SS) (i : Int) (x : List Nat) : actE w c s i x = w ∧ actC w c s i x = c ∧ actD w rd c s i x = rd ∧ actS w c s i x = s := by
  unfold actE actC actD actS
  rw [show decide (w = -1) = false from decide_eq_false hw]
  exact ⟨rfl, rfl, rfl, rfl⟩
theorem act_yes (c : CS) (rd : Bool) (s : SS) (i : Int) (x : List Nat) : actE (-1) c s i x = c.putE s i x ∧ actC (-1) c s i x = c.putC s i x ∧ actD (-1) rd c s i x = decide (c.putE s i x = 13) ∧ actS (-1) c s i x = c.putS s i x := by
  unfold actE actC actD actS
  rw [show decide ((-1 : Int) = -1) = true from rfl]
  exact ⟨rfl, rfl, rfl, rfl⟩
theorem nat_of {x : Int} (h : 0 ≤ x) : Int.ofNat x.toNat = x := by simp; omega
theorem load_put {c : CS} {rd : Bool} {b x : Int} {d : List Nat} (h : loadW c rd b x d = -1) : rd = false ∧ mayL b x d = true := by
  unfold loadW at h
  cases rd with
  | true => exact absurd (show (13 : Int) = -1 from h) (by decide)
  | false =>
    cases hm : mayL b x d with
    | true => exact ⟨rfl, rfl⟩
    | false => rw [hm] at h; exact absurd (show (2 : Int) = -1 from h) (by decide)
theorem mayL_bd {b x : Int} {d : List Nat} (h : mayL b x d = true) : b ≤ 127 ∧ x ≤ 1099511627776 := by
  unfold mayL nxt at h
  rw [Bool.and_eq_true, Bool.and_eq_true, Bool.or_eq_true] at h
  refine ⟨of_decide_eq_true h.2.1, ?_⟩
  rcases h.2.2 with g | g
  · rw [Bool.and_eq_true, Bool.and_eq_true] at g
    exact of_decide_eq_true g.2.1
  · rw [Bool.and_eq_true] at g
    have := of_decide_eq_true g.1; omega
theorem fence_may {sv gen : Int} (h : mayF sv gen = true) : (0 ≤ sv ∧ sv ≤ 2) ∧ 1 ≤ gen ∧ gen ≤ 1099511627776 := by
  unfold mayF at h
  rw [Bool.and_eq_true, Bool.and_eq_true, Bool.and_eq_true] at h
  exact ⟨⟨of_decide_eq_true h.1, of_decide_eq_true h.2.1⟩, of_decide_eq_true h.2.2.1, of_decide_eq_true h.2.2.2⟩
theorem fence_put {c : CS} {rd : Bool} {sv gen : Int} (h : fenceW c rd sv gen = -1) : rd = false ∧ mayF sv gen = true ∧ fnc c sv < gen := by
  unfold fenceW at h
  cases rd with
  | true => exact absurd (show (13 : Int) = -1 from h) (by decide)
  | false =>
    cases hm : mayF sv gen with
    | false => rw [hm] at h; exact absurd (show (2 : Int) = -1 from h) (by decide)
    | true =>
      rw [hm] at h
      cases hd : decide (gen ≤ fnc c sv) with
      | true => rw [hd] at h; exact absurd (show (0 : Int) = -1 from h) (by decide)
      | false => have := of_decide_eq_false hd; exact ⟨rfl, rfl, by omega⟩
theorem fv_le {c : CS} {sv gen : Int} (hg : gen ≤ 1099511627776) {k : Nat} (hk : k < 3) : fv c sv gen k ≤ 1099511627776 := by
  unfold fv
  cases decide (sv = Int.ofNat k) with
  | true => show gen.toNat ≤ _; omega
  | false => exact mV_le c (2 + k) (by omega)
theorem adopt_cases (c : CS) (rd : Bool) (n : Int) :
    (adoptI c rd n = -1 ∧ rd = false ∧ n ≤ 1099511627776 ∧ Int.ofNat (mV c 0) ≤ n ∧ 0 ≤ n) ∨ (adoptI c rd n = 0 ∧ n = Int.ofNat (mV c 0)) ∨ (adoptI c rd n ≠ -1 ∧ adoptI c rd n ≠ 0) := by
  unfold adoptI
  cases h0 : decide ((0 : Int) ≤ n) with
  | false =>
    cases rd with
    | true => exact .inr (.inr ⟨(by decide : (13 : Int) ≠ -1), (by decide : (13 : Int) ≠ 0)⟩)
    | false => exact .inr (.inr ⟨(by decide : (2 : Int) ≠ -1), (by decide : (2 : Int) ≠ 0)⟩)
  | true =>
    have n0 := of_decide_eq_true h0
    have nn := nat_of n0
    show (adoptW c rd n.toNat = -1 ∧ _) ∨ (adoptW c rd n.toNat = 0 ∧ _) ∨ (adoptW c rd n.toNat ≠ -1 ∧ adoptW c rd n.toNat ≠ 0)
    unfold adoptW
    rw [nn]
    cases rd with
    | true => exact .inr (.inr ⟨(by decide : (13 : Int) ≠ -1), (by decide : (13 : Int) ≠ 0)⟩)
    | false =>
      cases h1 : decide ((1 : Int) ≤ n) with
      | false => exact .inr (.inr ⟨(by decide : (2 : Int) ≠ -1), (by decide : (2 : Int) ≠ 0)⟩)
      | true =>
        cases h2 : decide (n ≤ (1099511627776 : Int)) with
        | false => exact .inr (.inr ⟨(by decide : (2 : Int) ≠ -1), (by decide : (2 : Int) ≠ 0)⟩)
        | true =>
          cases h3 : decide (n < Int.ofNat (mV c 0)) with
          | true => exact .inr (.inr ⟨(by decide : (21 : Int) ≠ -1), (by decide : (21 : Int) ≠ 0)⟩)
          | false =>
            cases h4 : decide (n = Int.ofNat (mV c 0)) with
            | true => exact .inr (.inl ⟨rfl, of_decide_eq_true h4⟩)
            | false => exact .inl ⟨rfl, rfl, of_decide_eq_true h2, by have := of_decide_eq_false h3; omega, n0⟩
theorem adopt_put {c : CS} {rd : Bool} {n : Int} (h : adoptI c rd n = -1) : rd = false ∧ n ≤ 1099511627776 ∧ Int.ofNat (mV c 0) ≤ n ∧ 0 ≤ n := by
  rcases adopt_cases c rd n with ⟨_, g⟩ | ⟨g, _⟩ | ⟨g, _⟩
  · exact g
  · rw [h] at g; exact absurd g (by decide)
  · exact absurd h g
theorem apply_cases (c : CS) (rd : Bool) (b x : Int) (d : List Nat) (sv gen : Int) :
    (applyW c rd b x d sv gen = -1 ∧ rd = false ∧ mayA b x d sv gen = true ∧ fnc c sv ≤ gen ∧ Int.ofNat (bQ c b) < x) ∨
    (applyW c rd b x d sv gen = 0 ∧ mayA b x d sv gen = true ∧ fnc c sv ≤ gen ∧ x = Int.ofNat (bQ c b) ∧ d = bD c b) ∨ (applyW c rd b x d sv gen ≠ -1 ∧ applyW c rd b x d sv gen ≠ 0) := by
  unfold applyW
  cases rd with
  | true => exact .inr (.inr ⟨(by decide : (13 : Int) ≠ -1), (by decide : (13 : Int) ≠ 0)⟩)
  | false =>
    cases h0 : mayA b x d sv gen with
    | false => exact .inr (.inr ⟨(by decide : (2 : Int) ≠ -1), (by decide : (2 : Int) ≠ 0)⟩)
    | true =>
      cases h1 : decide (gen < fnc c sv) with
      | true => exact .inr (.inr ⟨(by decide : (22 : Int) ≠ -1), (by decide : (22 : Int) ≠ 0)⟩)
      | false =>
        have g1 := of_decide_eq_false h1
        cases h2 : (decide (x = Int.ofNat (bQ c b)) && natsEq d (bD c b)) with
        | true =>
          rw [Bool.and_eq_true] at h2
          exact .inr (.inl ⟨rfl, rfl, by omega, of_decide_eq_true h2.1, (natsEq_iff _ _).1 h2.2⟩)
        | false =>
          cases h3 : decide (x ≤ Int.ofNat (bQ c b)) with
          | true => exact .inr (.inr ⟨(by decide : (25 : Int) ≠ -1), (by decide : (25 : Int) ≠ 0)⟩)
          | false => exact .inl ⟨rfl, rfl, rfl, by omega, by have := of_decide_eq_false h3; omega⟩
theorem apply_put {c : CS} {rd : Bool} {b x : Int} {d : List Nat} {sv gen : Int} (h : applyW c rd b x d sv gen = -1) : rd = false ∧ mayA b x d sv gen = true ∧ fnc c sv ≤ gen ∧ Int.ofNat (bQ c b) < x := by
  rcases apply_cases c rd b x d sv gen with ⟨_, g⟩ | ⟨g, _⟩ | ⟨g, _⟩
  · exact g
  · rw [h] at g; exact absurd g (by decide)
  · exact absurd h g
theorem apply_may {b x : Int} {d : List Nat} {sv gen : Int} (h : mayA b x d sv gen = true) :
    (0 ≤ b ∧ b ≤ 127) ∧ (1 ≤ x ∧ x ≤ 1099511627776) ∧ d.length ≤ 44 ∧ (0 ≤ sv ∧ sv ≤ 2) := by
  obtain ⟨h0, h1, h2, h3, h4, h5, h6, h7, h8⟩ := mayA_all h
  have := of_decide_eq_true h4
  refine ⟨⟨of_decide_eq_true h0, of_decide_eq_true h1⟩, ⟨of_decide_eq_true h2, of_decide_eq_true h3⟩, by simp at this; omega, of_decide_eq_true h5, of_decide_eq_true h6⟩
end Go.Proofs.Cl
