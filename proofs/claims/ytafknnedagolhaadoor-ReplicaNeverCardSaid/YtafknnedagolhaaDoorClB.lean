/- Runs over unknown values, told by the kernel: part ClB. -/
import Derived.Test.YtafknnedagolhaaDoorRmB
set_option linter.unusedSimpArgs false
set_option linter.unusedVariables false
namespace Go.Proofs.Cl
open Go Go.Sim Go.Proofs Go.Proofs.Cd Go.Proofs.St Go.Proofs.YtafknnedagolhaaDoor
set_option maxRecDepth 20000
theorem put_bad {c : CS} (s : SS) {i : Int} {x : List Nat} (hd : c.dead = false) (h : ¬ (0 ≤ i ∧ i < Int.ofNat c.n) ∨ 51 < x.length) : c.putE s i x = 2 ∧ c.putC s i x = c ∧ c.putS s i x = s := by
  have hno : c.no i x = 2 := by
    unfold CS.no
    rw [hd]
    simp only
    cases h1 : decide (0 ≤ i ∧ i < Int.ofNat c.n) with
    | false => rfl
    | true =>
      have h2 : decide ((51 : Int) < Int.ofNat x.length) = true := by
        rcases h with h | h
        · exact absurd (of_decide_eq_true h1) h
        · simp; omega
      simp only [h2]
  have d : decide (c.no i x = 0) = false := by rw [hno]; rfl
  refine ⟨?_, ?_, ?_⟩
  · unfold CS.putE; rw [d]; exact hno
  · unfold CS.putC; rw [d]
  · unfold CS.putS; rw [d]
set_option maxRecDepth 20000
theorem bf {n m : Nat} (h : ¬ n ≤ m) : Nat.ble n m = false := by rw [Bool.eq_false_iff, ne_eq, Nat.ble_eq]; exact h
theorem bt {n m : Nat} (h : n ≤ m) : Nat.ble n m = true := Nat.ble_eq_true_of_le h
theorem lf {n m : Nat} (h : ¬ n < m) : Nat.blt n m = false := by rw [Bool.eq_false_iff, ne_eq, Nat.blt_eq]; exact h
theorem lt_ {n m : Nat} (h : n < m) : Nat.blt n m = true := by rw [Nat.blt_eq]; exact h
theorem ef {n m : Nat} (h : n ≠ m) : Nat.beq n m = false := by rw [Bool.eq_false_iff, ne_eq, Nat.beq_eq]; exact h
theorem body_lo (q : Nat) (d : List Nat) {k : Nat} (h : k < 4) : bodyB q d k = fourB (q % 4294967296) k := by
  unfold bodyB
  rw [bf (by omega : ¬ 9 ≤ k), ef (by omega : k ≠ 8), bf (by omega : ¬ 4 ≤ k), bt (Nat.zero_le k), lt_ h]
  simp only [Bool.false_and, Bool.and_self, cond_false, cond_true]
theorem body_hi (q : Nat) (d : List Nat) {k : Nat} (h1 : 4 ≤ k) (h : k < 8) : bodyB q d k = fourB (q / 4294967296 % 4294967296) (k - 4) := by
  unfold bodyB
  rw [bf (by omega : ¬ 9 ≤ k), ef (by omega : k ≠ 8), bt h1, lt_ h]
  simp only [Bool.false_and, Bool.and_self, cond_false, cond_true]
theorem body_8 (q : Nat) (d : List Nat) : bodyB q d 8 = d.length % 256 := by
  unfold bodyB
  rw [bf (by omega : ¬ 9 ≤ 8), Nat.beq_refl]
  simp only [Bool.false_and, cond_false, cond_true]
theorem body_txt (q : Nat) (d : List Nat) {i : Nat} (h : i < d.length) : bodyB q d (9 + i) = d.getD i 0 := by
  unfold bodyB
  rw [bt (by omega : 9 ≤ 9 + i), lt_ (by omega : 9 + i < 9 + d.length)]
  simp only [Bool.and_self, cond_true]
  rw [Nat.add_sub_cancel_left]
theorem body_rest (q : Nat) (d : List Nat) {k : Nat} (h : 9 + d.length ≤ k) : bodyB q d k = 0 := by
  unfold bodyB
  rw [bt (by omega : 9 ≤ k), lf (by omega : ¬ k < 9 + d.length), ef (by omega : k ≠ 8), lf (by omega : ¬ k < 8), lf (by omega : ¬ k < 4)]
  simp only [Bool.and_false, cond_false]
theorem sect_body (q : Nat) (d : List Nat) {k : Nat} (h : k < 60) : sectB q d k = bodyB q d k := by
  unfold sectB; rw [lt_ h, cond_true]
theorem sect_sum (q : Nat) (d : List Nat) (k : Nat) : sectB q d (60 + k) = fourB (sumN (bodyB q d) 60) k := by
  unfold sectB; rw [lf (by omega : ¬ 60 + k < 60), cond_false, Nat.add_sub_cancel_left]
theorem bOf_by (b : Nat → Nat) (k : Nat) : bOf (byF b) k = b k := Eq.refl _
theorem bOf_sh (b : Nat → Nat) (l k : Nat) : bOf (shiftF l (byF b)) k = b (l + k) := by
  show cvN (shiftF l (byF b) k 0) = _
  rw [shiftF_eq]; exact Eq.refl _
theorem sect_open (q : Nat) (d : List Nat) : openB (byF (sectB q d)) = true := by
  unfold openB
  refine decide_eq_true ?_
  have e1 : sumN (bOf (byF (sectB q d))) 60 = sumN (bodyB q d) 60 := sumN_congr fun k hk => by rw [bOf_by, sect_body q d hk]
  have e2 : four1 (bOf (shiftF 60 (byF (sectB q d)))) = four1 (fourB (sumN (bodyB q d) 60)) := four1_congr fun k hk => by rw [bOf_sh, sect_sum]
  rw [e1, e2, four1_four (sumN_lt _ _)]
theorem sect_num (q : Nat) (d : List Nat) (h : q ≤ 1099511627776) : numN (sectB q d) = q := by
  have e1 : four1 (bOf (byF (sectB q d))) = q % 4294967296 := by
    rw [four1_congr (b' := fourB (q % 4294967296)) fun k hk => by rw [bOf_by, sect_body q d (by omega), body_lo q d hk]]
    exact four1_four (Nat.mod_lt _ (by decide))
  have e2 : four1 (bOf (shiftF 4 (byF (sectB q d)))) = q / 4294967296 % 4294967296 := by
    rw [four1_congr (b' := fourB (q / 4294967296 % 4294967296)) fun k hk => by rw [bOf_sh, sect_body q d (by omega), body_hi q d (by omega) (by omega), Nat.add_sub_cancel_left]]
    exact four1_four (Nat.mod_lt _ (by decide))
  unfold numN
  rw [e1, e2]
  omega
theorem sect_8 (q : Nat) (d : List Nat) (h : d.length ≤ 51) : sectB q d 8 = d.length := by
  rw [sect_body q d (by omega), body_8, Nat.mod_eq_of_lt (by omega)]
theorem sect_rest (q : Nat) (d : List Nat) (h : d.length ≤ 51) : restN (sectB q d) = 0 := by
  unfold restN
  rw [sect_8 q d h, trN_zero]
  intro k hk
  rw [bOf_sh, sect_body q d (by omega), body_rest q d (by omega)]
theorem sect_ok (q : Nat) (d : List Nat) (h1 : 1 ≤ q) (h2 : q ≤ 1099511627776) (hl : d.length ≤ 51) : okB (sectB q d) = true := by
  unfold okB
  rw [sect_open, sect_8 q d hl, sect_num q d h2, sect_rest q d hl, bt hl, bt h1, bt h2, Nat.beq_refl]
  simp only [Bool.and_self]
theorem sect_txt (q : Nat) (d : List Nat) (hl : d.length ≤ 51) (hd : ∀ x ∈ d, x < 256) : txtD (sectB q d) = d := by
  unfold txtD
  rw [sect_8 q d hl]
  unfold bytesF
  refine List.ext_getElem? fun i => ?_
  by_cases hi : i < d.length
  · rw [List.getElem?_map, List.getElem?_range hi]
    show some (Go.Sim.byteOf (shiftF 9 (byF (sectB q d)) i 0)) = _
    rw [shiftF_eq]
    show some (Go.Sim.byteOf (.i .u8 (Int.ofNat (sectB q d (9 + i))))) = _
    rw [sect_body q d (by omega), body_txt q d hi, List.getD_eq_getElem?_getD, List.getElem?_eq_getElem hi]
    show some (d[i] % 256) = some d[i]
    rw [Nat.mod_eq_of_lt (hd _ (List.getElem_mem hi))]
  · rw [List.getElem?_eq_none (by simp; omega), List.getElem?_eq_none (by omega)]
theorem sect_lk (q : Nat) (d : List Nat) (h1 : 1 ≤ q) (h2 : q ≤ 1099511627776) (hl : d.length ≤ 51) (hd : ∀ x ∈ d, x < 256) : lkQ (sectB q d) = q ∧ lkD (sectB q d) = d := by
  unfold lkQ lkD
  rw [sect_ok q d h1 h2 hl, cond_true, cond_true]
  exact ⟨sect_num q d h2, sect_txt q d hl hd⟩
noncomputable def vQ (s : SS) (a : Nat) : Nat := bif s.torn a then 0 else lkQ (fun k => (s.dur a k).toNat)
noncomputable def vD (s : SS) (a : Nat) : List Nat := bif s.torn a then [] else lkD (fun k => (s.dur a k).toNat)
theorem see_v {s : SS} (hP : s.P = []) (ho : s.off = false) {a : Nat} (ha : a < s.n) : seeQ s (Int.ofNat a) = vQ s a ∧ seeD s (Int.ofNat a) = vD s a := by
  have d : decide (0 ≤ Int.ofNat a ∧ Int.ofNat a < Int.ofNat s.n) = true := by simp; omega
  have et : (Int.ofNat a).toNat = a := rfl
  have lb : lB s.P a = false := by rw [hP]; rfl
  have eC : rdC s (Int.ofNat a) = fun k => (s.dur a k).toNat := by
    funext k
    unfold rdC SS.rdB
    rw [et, lb]
  cases ht : s.torn a with
  | true =>
    have e : s.rdE (Int.ofNat a) = 14 := by unfold SS.rdE; rw [ho]; simp only [d, et, lb, ht]
    unfold seeQ seeD vQ vD
    rw [e, ht, cond_true, cond_true]
    exact ⟨rfl, rfl⟩
  | false =>
    have e : s.rdE (Int.ofNat a) = 0 := by unfold SS.rdE; rw [ho]; simp only [d, et, lb, ht]
    unfold seeQ seeD vQ vD
    rw [e, ht, cond_false, cond_false, eC]
    exact ⟨rfl, rfl⟩
theorem op_v {s : SS} (hP : s.P = []) (ho : s.off = false) {i : Nat} (hi : 2 * i + 1 < s.n) :
    opQ s i = nwQ (vQ s (2 * i)) (vQ s (2 * i + 1)) ∧ opD s i = nwD (vQ s (2 * i)) (vQ s (2 * i + 1)) (vD s (2 * i)) (vD s (2 * i + 1)) ∧ opS s i = nwS (vQ s (2 * i)) (vQ s (2 * i + 1)) := by
  have e0 : Int.ofNat i * 2 + 0 = Int.ofNat (2 * i) := by simp; omega
  have e1 : Int.ofNat i * 2 + 1 = Int.ofNat (2 * i + 1) := by simp; omega
  have k0 := see_v hP ho (a := 2 * i) (by omega)
  have k1 := see_v hP ho (a := 2 * i + 1) hi
  unfold opQ opD opS
  rw [e0, e1, k0.1, k0.2, k1.1, k1.2]
  exact ⟨rfl, rfl, rfl⟩
structure Aft (s s' : SS) (a q : Nat) (x : List Nat) : Prop where
  n : s'.n = s.n
  off : s'.off = false
  P : s'.P = []
  other : ∀ b, b ≠ a → vQ s' b = vQ s b ∧ vD s' b = vD s b
  here : (vQ s' a = q ∧ vD s' a = x) ∨ (vQ s' a = 0 ∧ vD s' a = []) ∨ (vQ s' a = vQ s a ∧ vD s' a = vD s a)
set_option maxRecDepth 20000
theorem setD_at (dur : Nat → Nat → Int) (q : Nat) (bs : Nat → Int) (i : Nat) : setD dur q bs i = bif Nat.beq i q then bs else dur i := Eq.refl _
theorem setT_at (torn : Nat → Bool) (q : Nat) (b : Bool) (i : Nat) : setT torn q b i = bif Nat.beq i q then b else torn i := Eq.refl _
theorem aft_new {s s' : SS} {a q : Nat} {x : List Nat} (hn : s'.n = s.n) (ho : s'.off = false) (hP : s'.P = []) (hd : s'.dur = setD s.dur a (fun k => Int.ofNat (sectB q x k))) (ht : s'.torn = setT s.torn a false)
    (h1 : 1 ≤ q) (h2 : q ≤ 1099511627776) (hl : x.length ≤ 51) (hx : ∀ b ∈ x, b < 256) : Aft s s' a q x ∧ vQ s' a = q ∧ vD s' a = x := by
  have new : vQ s' a = q ∧ vD s' a = x := by
    unfold vQ vD
    rw [ht, hd, setT_at, setD_at, Nat.beq_refl, cond_true, cond_false, cond_false]
    exact sect_lk q x h1 h2 hl hx
  refine ⟨⟨hn, ho, hP, fun b hb => ?_, .inl new⟩, new⟩
  unfold vQ vD
  rw [ht, hd, setT_at, setD_at, ef hb, cond_false, cond_false]
  exact ⟨rfl, rfl⟩
theorem aft_old {s s' : SS} {a q : Nat} {x : List Nat} (hn : s'.n = s.n) (ho : s'.off = false) (hP : s'.P = []) (hd : s'.dur = s.dur) (ht : s'.torn = s.torn) : Aft s s' a q x := by
  refine ⟨hn, ho, hP, fun b _ => ?_, .inr (.inr ?_)⟩ <;> (unfold vQ vD; rw [ht, hd]; exact ⟨rfl, rfl⟩)
theorem aft_torn {s s' : SS} {a q : Nat} {x : List Nat} (hn : s'.n = s.n) (ho : s'.off = false) (hP : s'.P = []) (hd : s'.dur = setD s.dur a (fun _ => 0)) (ht : s'.torn = setT s.torn a true) : Aft s s' a q x := by
  refine ⟨hn, ho, hP, fun b hb => ?_, .inr (.inl ?_)⟩
  · unfold vQ vD
    rw [ht, hd, setT_at, setD_at, ef hb, cond_false, cond_false]
    exact ⟨rfl, rfl⟩
  · unfold vQ vD
    rw [ht, setT_at, Nat.beq_refl, cond_true, cond_true]
    exact ⟨rfl, rfl⟩
structure Pend (s t : SS) (a : Nat) (bs : Nat → Int) : Prop where
  n : t.n = s.n
  dur : t.dur = s.dur
  torn : t.torn = s.torn
  P : t.P = [(a, bs)]
theorem Pend.flush1 {s t : SS} {a : Nat} {bs : Nat → Int} (h : Pend s t a bs) : (t.flush 1).n = s.n ∧ (t.flush 1).dur = setD s.dur a bs ∧ (t.flush 1).torn = setT s.torn a false ∧ (t.flush 1).P = [] ∧ (t.flush 1).off = t.off := by
  refine ⟨h.n, ?_, ?_, rfl, rfl⟩
  · show durL t.dur (t.P.drop (t.P.length - 1)) = _
    rw [h.P, h.dur]; exact Eq.refl _
  · show tornL t.torn (t.P.drop (t.P.length - 1)) = _
    rw [h.P, h.torn]; exact Eq.refl _
theorem Pend.flush0 {s t : SS} {a : Nat} {bs : Nat → Int} (h : Pend s t a bs) : (t.flush 0).n = s.n ∧ (t.flush 0).dur = s.dur ∧ (t.flush 0).torn = s.torn ∧ (t.flush 0).P = [] ∧ (t.flush 0).off = t.off := by
  refine ⟨h.n, ?_, ?_, rfl, rfl⟩
  · show durL t.dur (t.P.drop (t.P.length - 0)) = _
    rw [h.P, h.dur]; exact Eq.refl _
  · show tornL t.torn (t.P.drop (t.P.length - 0)) = _
    rw [h.P, h.torn]; exact Eq.refl _
theorem Pend.rev {s t : SS} {a q : Nat} {x : List Nat} (h : Pend s t a (fun k => Int.ofNat (sectB q x k))) (ho : t.off = true) (kk : Int) (tt : Bool)
    (h1 : 1 ≤ q) (h2 : q ≤ 1099511627776) (hl : x.length ≤ 51) (hx : ∀ b ∈ x, b < 256) : Aft s (t.revived kk tt) a q x := by
  have hL : t.P.length = 1 := by rw [h.P]; rfl
  have hk : keepN kk t.P.length = 0 ∨ keepN kk t.P.length = 1 := by unfold keepN; rw [hL]; omega
  unfold SS.revived
  rw [ho]
  simp only
  rcases hk with hk | hk <;> rw [hk, hL]
  · obtain ⟨f1, f2, f3, f4, f5⟩ := h.flush0
    have ea : oA t.P 0 = a := by rw [h.P]; exact Eq.refl _
    rw [ea]
    cases tt with
    | true => exact aft_torn f1 rfl f4 (by show setD (t.flush 0).dur a (fun _ => 0) = _; rw [f2]) (by show setT (t.flush 0).torn a true = _; rw [f3])
    | false => exact aft_old f1 rfl f4 f2 f3
  · obtain ⟨f1, f2, f3, f4, f5⟩ := h.flush1
    have eb : (tt && Nat.blt 1 1) = false := by cases tt <;> rfl
    rw [eb]
    exact (aft_new (s' := (t.flush 1).on) f1 rfl f4 f2 f3 h1 h2 hl hx).1
theorem rev_flat {s : SS} (hP : s.P = []) (kk : Int) (tt : Bool) : (s.fail.revived kk tt).n = s.n ∧ (s.fail.revived kk tt).off = false ∧ (s.fail.revived kk tt).P = [] ∧ (s.fail.revived kk tt).dur = s.dur ∧ (s.fail.revived kk tt).torn = s.torn := by
  have hP' : s.fail.P = [] := hP
  have hk : keepN kk s.fail.P.length = 0 := by unfold keepN; rw [hP']; exact Nat.min_zero _
  have e : s.fail.revived kk tt = (s.fail.flush 0).on := by
    unfold SS.revived
    rw [show s.fail.off = true from rfl]
    simp only
    rw [hk, hP']
    have eb : (tt && Nat.blt 0 ([] : PW).length) = false := by cases tt <;> rfl
    rw [eb]
  rw [e]
  refine ⟨rfl, rfl, rfl, ?_, ?_⟩
  · show durL s.dur (s.fail.P.drop (s.fail.P.length - 0)) = _
    rw [hP']; exact Eq.refl _
  · show tornL s.torn (s.fail.P.drop (s.fail.P.length - 0)) = _
    rw [hP']; exact Eq.refl _
theorem pay_a0 {s : SS} (h : s.armed = true) (h0 : Nat.beq s.left 0 = true) : s.pay = { s with off := true, armed := false } := by
  obtain ⟨n, dur, torn, P, wr, off, armed, left⟩ := s
  simp only at h h0
  subst h
  unfold SS.pay
  simp only
  rw [h0]
theorem pay_a1 {s : SS} (h : s.armed = true) (h0 : Nat.beq s.left 0 = false) : s.pay = { s with left := s.left - 1 } := by
  obtain ⟨n, dur, torn, P, wr, off, armed, left⟩ := s
  simp only at h h0
  subst h
  unfold SS.pay
  simp only
  rw [h0]
theorem put_or {c : CS} {s : SS} {m : Nat} (h : Inv c s m) {i : Int} {x : List Nat} (hd : c.dead = false) (ho : s.off = false) (hP : s.P = []) (hi : 0 ≤ i ∧ i < Int.ofNat c.n) (hl : x.length ≤ 51) (hq : c.q i.toNat < 1099511627776) (hx : ∀ b ∈ x, b < 256) :
    (c.putE s i x = 0 ∧ c.putC s i x = c.upd i.toNat (c.q i.toNat + 1) x (1 - c.sp i.toNat) ∧ Aft s (c.putS s i x) (i.toNat * 2 + c.sp i.toNat) (c.q i.toNat + 1) x ∧ vQ (c.putS s i x) (i.toNat * 2 + c.sp i.toNat) = c.q i.toNat + 1 ∧ vD (c.putS s i x) (i.toNat * 2 + c.sp i.toNat) = x) ∨
    (c.putE s i x = 13 ∧ (c.putS s i x).off = true ∧ Pend s (c.putS s i x) (i.toNat * 2 + c.sp i.toNat) (fun k => Int.ofNat (sectB (c.q i.toNat + 1) x k))) := by
  obtain ⟨ea, hlt⟩ := h.at_ hi
  have hno : c.no i x = 0 := by
    unfold CS.no
    rw [hd, decide_eq_true hi, show decide ((51 : Int) < Int.ofNat x.length) = false by simp; omega, show decide ((1099511627776 : Int) ≤ Int.ofNat (c.q i.toNat)) = false by simp; omega]
  have d : decide (c.no i x = 0) = true := by rw [hno]; rfl
  have en : (c.nx i).toNat = c.q i.toNat + 1 := by unfold CS.nx; simp
  generalize hA : i.toNat * 2 + c.sp i.toNat = a at *
  have eW : wrote s (c.at_ i) (c.nx i) x = (s.wrote a (fun k => Int.ofNat (sectB (c.q i.toNat + 1) x k))).pay := by unfold wrote; rw [ea, en]; exact wrS_on ho hlt _
  have eE : s.wrE (c.at_ i) 64 = (s.wrote a fun _ => 0).payE := by
    rw [ea]
    have hd : decide (0 ≤ Int.ofNat a ∧ Int.ofNat a < Int.ofNat s.n ∧ 64 = 64) = true := by simp; omega
    unfold SS.wrE; rw [ho, hd]; exact Eq.refl _
  have pend : ∀ t : SS, t.n = s.n → t.dur = s.dur → t.torn = s.torn → t.P = (a, fun k => Int.ofNat (sectB (c.q i.toNat + 1) x k)) :: s.P → Pend s t a (fun k => Int.ofNat (sectB (c.q i.toNat + 1) x k)) := fun t h1 h2 h3 h4 => ⟨h1, h2, h3, by rw [h4, hP]⟩
  have good : s.wrE (c.at_ i) 64 = 0 → (wrote s (c.at_ i) (c.nx i) x).off = false → Pend s (wrote s (c.at_ i) (c.nx i) x) a (fun k => Int.ofNat (sectB (c.q i.toNat + 1) x k)) →
      (c.putE s i x = 0 ∧ c.putC s i x = c.upd i.toNat (c.q i.toNat + 1) x (1 - c.sp i.toNat) ∧ Aft s (c.putS s i x) a (c.q i.toNat + 1) x ∧ vQ (c.putS s i x) a = c.q i.toNat + 1 ∧ vD (c.putS s i x) a = x) := by
    intro g1 g2 g3
    have hcE : cmE s (c.at_ i) (c.nx i) x = 0 := by
      unfold cmE; rw [decide_eq_true g1]
      simp only
      unfold SS.faultE; rw [g2]; rfl
    have eS : c.putS s i x = (wrote s (c.at_ i) (c.nx i) x).flush 1 := by
      unfold CS.putS; rw [d]
      show cmS s (c.at_ i) (c.nx i) x = _
      unfold cmS; rw [decide_eq_true g1]
      simp only
      unfold SS.bar; rw [g2]
      simp only
      rw [g3.P]; exact Eq.refl _
    obtain ⟨f1, f2, f3, f4, f5⟩ := g3.flush1
    rw [← eS] at f1 f2 f3 f4 f5
    refine ⟨?_, ?_, aft_new f1 (by rw [f5]; exact g2) f4 f2 f3 (by omega) (by omega) hl hx⟩
    · unfold CS.putE; rw [d]; simp only; rw [decide_eq_true hcE]
    · unfold CS.putC; rw [d]; simp only; rw [decide_eq_true hcE]
  cases ham : s.armed with
  | false =>
    have e1 : (s.wrote a (fun k => Int.ofNat (sectB (c.q i.toNat + 1) x k))).pay = s.wrote a (fun k => Int.ofNat (sectB (c.q i.toNat + 1) x k)) := by
      unfold SS.pay; rw [show (s.wrote a (fun k => Int.ofNat (sectB (c.q i.toNat + 1) x k))).armed = s.armed from rfl, ham]
    have e2 : (s.wrote a fun _ => 0).payE = 0 := by unfold SS.payE; rw [show (s.wrote a fun _ => 0).armed = s.armed from rfl, ham]
    rw [e1] at eW; rw [e2] at eE
    exact .inl (good eE (by rw [eW]; exact ho) (by rw [eW]; exact pend _ rfl rfl rfl rfl))
  | true =>
    cases hl0 : Nat.beq s.left 0 with
    | false =>
      have e1 : (s.wrote a (fun k => Int.ofNat (sectB (c.q i.toNat + 1) x k))).pay = { s.wrote a (fun k => Int.ofNat (sectB (c.q i.toNat + 1) x k)) with left := s.left - 1 } := pay_a1 (s := s.wrote a (fun k => Int.ofNat (sectB (c.q i.toNat + 1) x k))) ham hl0
      have e2 : (s.wrote a fun _ => 0).payE = 0 := by unfold SS.payE; rw [show (s.wrote a fun _ => 0).armed = s.armed from rfl, ham, show (s.wrote a fun _ => 0).left = s.left from rfl, hl0]
      rw [e1] at eW; rw [e2] at eE
      exact .inl (good eE (by rw [eW]; exact ho) (by rw [eW]; exact pend _ rfl rfl rfl rfl))
    | true =>
      have e1 : (s.wrote a (fun k => Int.ofNat (sectB (c.q i.toNat + 1) x k))).pay = { s.wrote a (fun k => Int.ofNat (sectB (c.q i.toNat + 1) x k)) with off := true, armed := false } := pay_a0 (s := s.wrote a (fun k => Int.ofNat (sectB (c.q i.toNat + 1) x k))) ham hl0
      have e2 : (s.wrote a fun _ => 0).payE = 13 := by unfold SS.payE; rw [show (s.wrote a fun _ => 0).armed = s.armed from rfl, ham, show (s.wrote a fun _ => 0).left = s.left from rfl, hl0]
      rw [e1] at eW; rw [e2] at eE
      have g1 : s.wrE (c.at_ i) 64 ≠ 0 := by rw [eE]; decide
      have hcE : cmE s (c.at_ i) (c.nx i) x = 13 := by
        unfold cmE; rw [decide_eq_false g1]; exact eE
      have eS : c.putS s i x = wrote s (c.at_ i) (c.nx i) x := by
        unfold CS.putS; rw [d]
        show cmS s (c.at_ i) (c.nx i) x = _
        unfold cmS; rw [decide_eq_false g1]
      refine .inr ⟨?_, by rw [eS, eW], by rw [eS, eW]; exact pend _ rfl rfl rfl rfl⟩
      unfold CS.putE; rw [d]; simp only
      rw [show decide (cmE s (c.at_ i) (c.nx i) x = 0) = false by rw [hcE]; rfl]
end Go.Proofs.Cl
