/- Runs over unknown values, told by the kernel: part StP. -/
import Derived.Test.YtfbnaflnaancbaaStR
set_option linter.unusedSimpArgs false
set_option linter.unusedVariables false
/- The round's contracts, in one form. -/
namespace Go.Proofs.St
open Go Go.Sim
noncomputable def wrE (s : SS) (i : Int) (L : Nat) : Int := s.wrE i L
noncomputable def wrS (s : SS) (i : Int) (L : Nat) (c : Int) : SS := s.wrS i L (fB c)
noncomputable def rdE (s : SS) (i : Int) : Int := s.rdE i
noncomputable def rdN (s : SS) (i : Int) : Nat := s.rdN i
noncomputable def rdB (s : SS) (i : Int) : Nat → Int := s.rdB i
noncomputable def faE (s : SS) : Int := s.faultE
noncomputable def reE (s : SS) : Int := s.revE
noncomputable def barS (s : SS) : SS := s.bar
noncomputable def armS2 (s : SS) (k : Int) : SS := s.arm k
noncomputable def failS (s : SS) : SS := s.fail
noncomputable def revS (s : SS) (k : Int) (t : Bool) : SS := s.revived k t
/-- A script's calls. -/
noncomputable def opF (K I F L : Nat → Int) (T : Nat → Bool) : Nat → Nat → CV := fun i j => match j with
  | 0 => .i .i64 (K i)
  | 1 => .i .i64 (I i)
  | 2 => .i .u8 (F i)
  | 3 => .i .i64 (L i)
  | _ => .b (T i)
end Go.Proofs.St

/- Plain facts of a store's state. -/
set_option maxRecDepth 20000
namespace Go.Proofs.St
open Go Go.Sim Go.Proofs
structure Byt (s : SS) : Prop where
  dur : ∀ i j, ∃ n : Nat, n < 256 ∧ s.dur i j = Int.ofNat n
  P : ∀ w ∈ s.P, ∀ j, ∃ n : Nat, n < 256 ∧ w.2 j = Int.ofNat n
theorem lbs_mem : ∀ {P : PW} {k : Nat}, lB P k = true → ∃ w ∈ P, w.1 = k ∧ lbs P k = w.2
  | [], k, h => by cases h
  | w :: P, k, h => by
    have h' : (bif Nat.beq k w.1 then true else lB P k) = true := h
    show ∃ w' ∈ w :: P, w'.1 = k ∧ (bif Nat.beq k w.1 then w.2 else lbs P k) = w'.2
    cases hb : Nat.beq k w.1 with
    | true => exact ⟨w, List.mem_cons_self, (Nat.eq_of_beq_eq_true hb).symm, rfl⟩
    | false =>
      rw [hb] at h'
      obtain ⟨w', q1, q2, q3⟩ := lbs_mem (P := P) h'
      exact ⟨w', List.mem_cons_of_mem _ q1, q2, q3⟩
theorem Byt.rd {s : SS} (h : Byt s) (i : Int) (j : Nat) : ∃ n : Nat, n < 256 ∧ s.rdB i j = Int.ofNat n := by
  unfold SS.rdB
  cases hb : lB s.P i.toNat with
  | true =>
    obtain ⟨w, q1, _, q3⟩ := lbs_mem hb
    simp only [q3]
    exact h.P w q1 j
  | false => exact h.dur i.toNat j
/-- Bounds of a store's numbers. -/
structure OkM (s : SS) (m : Nat) : Prop where
  n : s.n ≤ 512
  P : s.P.length ≤ m
  wr : s.wr ≤ m
  left : s.left < 9223372036854775808
  at_ : ∀ w ∈ s.P, w.1 < s.n
theorem OkM.ok {s : SS} {m : Nat} (h : OkM s m) (hm : m < 1073741824) : s.Ok := ⟨h.n, by have := h.P; omega, by have := h.wr; omega, h.left, h.at_⟩
theorem OkM.mono {s : SS} {m k : Nat} (h : OkM s m) (hm : m ≤ k) : OkM s k := ⟨h.n, by have := h.P; omega, by have := h.wr; omega, h.left, h.at_⟩
theorem wrS_off {s : SS} (ho : s.off = true) (a : Int) (bs : Nat → Int) : s.wrS a 64 bs = s := by unfold SS.wrS; rw [ho]
theorem wrS_on {s : SS} {q : Nat} (ho : s.off = false) (hq : q < s.n) (bs : Nat → Int) : s.wrS (Int.ofNat q) 64 bs = (s.wrote q bs).pay := by
  have hd : decide (0 ≤ Int.ofNat q ∧ Int.ofNat q < Int.ofNat s.n ∧ 64 = 64) = true := by simp; omega
  unfold SS.wrS; rw [ho, hd]; exact Eq.refl _
theorem pay_or (s : SS) : s.pay = s ∨ s.pay = { s with off := true, armed := false } ∨ s.pay = { s with left := s.left - 1 } := by
  unfold SS.pay
  cases s.armed with
  | false => exact .inl rfl
  | true =>
    cases Nat.beq s.left 0 with
    | true => exact .inr (.inl rfl)
    | false => exact .inr (.inr rfl)
theorem OkM.wrS {s : SS} {m q : Nat} (h : OkM s m) (hq : q < s.n) (bs : Nat → Int) : OkM (s.wrS (Int.ofNat q) 64 bs) (m + 1) := by
  cases ho : s.off with
  | true => rw [wrS_off ho]; exact h.mono (Nat.le_succ m)
  | false =>
    rw [wrS_on ho hq]
    have base : OkM (s.wrote q bs) (m + 1) := ⟨h.n, by have := h.P; show (s.P.length + 1) ≤ _; omega, by have := h.wr; show s.wr + 1 ≤ _; omega, h.left, fun w hw => by
      rcases List.mem_cons.1 hw with rfl | hw
      · exact hq
      · exact h.at_ w hw⟩
    rcases pay_or (s.wrote q bs) with e | e | e <;> rw [e]
    · exact base
    · exact ⟨base.n, base.P, base.wr, base.left, base.at_⟩
    · exact ⟨base.n, base.P, base.wr, by have := base.left; show (s.wrote q bs).left - 1 < _; omega, base.at_⟩
theorem Byt.wrS {s : SS} {q : Nat} {bs : Nat → Int} (h : Byt s) (hq : q < s.n) (hb : ∀ j, ∃ n : Nat, n < 256 ∧ bs j = Int.ofNat n) : Byt (s.wrS (Int.ofNat q) 64 bs) := by
  cases ho : s.off with
  | true => rw [wrS_off ho]; exact h
  | false =>
    rw [wrS_on ho hq]
    have base : Byt (s.wrote q bs) := ⟨h.dur, fun w hw j => by
      rcases List.mem_cons.1 hw with rfl | hw
      · exact hb j
      · exact h.P w hw j⟩
    rcases pay_or (s.wrote q bs) with e | e | e <;> rw [e]
    · exact base
    · exact ⟨base.dur, base.P⟩
    · exact ⟨base.dur, base.P⟩
theorem durL_byt {dur : Nat → Nat → Int} (h : ∀ i j, ∃ n : Nat, n < 256 ∧ dur i j = Int.ofNat n) : ∀ (P : PW), (∀ w ∈ P, ∀ j, ∃ n : Nat, n < 256 ∧ w.2 j = Int.ofNat n) → ∀ i j, ∃ n : Nat, n < 256 ∧ durL dur P i j = Int.ofNat n
  | [], _, i, j => h i j
  | w :: P, hP, i, j => by
    have ih := durL_byt h P (fun w hw => hP w (List.mem_cons_of_mem _ hw)) i j
    have hw := hP w List.mem_cons_self j
    first
    | (show ∃ n : Nat, n < 256 ∧ (bif Nat.beq i w.1 then w.2 else durL dur P i) j = Int.ofNat n
       cases Nat.beq i w.1
       · exact ih
       · exact hw)
    | (show ∃ n : Nat, n < 256 ∧ durL (fun k => bif Nat.beq k w.1 then w.2 else dur k) P i j = Int.ofNat n
       exact durL_byt (fun i j => by
         show ∃ n : Nat, n < 256 ∧ (bif Nat.beq i w.1 then w.2 else dur i) j = Int.ofNat n
         cases Nat.beq i w.1
         · exact h i j
         · exact hP w List.mem_cons_self j) P (fun w hw => hP w (List.mem_cons_of_mem _ hw)) i j)
theorem Byt.flush {s : SS} (h : Byt s) (m : Nat) : Byt (s.flush m) :=
  ⟨durL_byt h.dur _ fun w hw => h.P w (List.mem_of_mem_drop hw), fun w hw => by cases hw⟩
theorem Byt.bar {s : SS} (h : Byt s) : Byt s.bar := by
  unfold SS.bar
  split
  · exact h
  · exact h.flush _
theorem OkM.bar {s : SS} {m : Nat} (h : OkM s m) : OkM s.bar m := by
  unfold SS.bar
  split
  · exact h
  · exact ⟨h.n, Nat.zero_le _, h.wr, h.left, fun w hw => by cases hw⟩
theorem Byt.new (n : Nat) : Byt (SS.new n) := ⟨fun _ _ => ⟨0, by decide, rfl⟩, fun w hw => by cases hw⟩
theorem OkM.new {n : Nat} (h : n ≤ 512) : OkM (SS.new n) 0 := ⟨h, Nat.le_refl 0, Nat.le_refl 0, (by decide : (0 : Nat) < 9223372036854775808), fun w hw => by cases hw⟩
theorem wrS_n (s : SS) (a : Int) (L : Nat) (bs : Nat → Int) : (s.wrS a L bs).n = s.n := by
  unfold SS.wrS
  split
  · rfl
  · split
    · rcases pay_or (s.wrote a.toNat bs) with e | e | e <;> rw [e] <;> rfl
    · rfl
theorem bar_n (s : SS) : s.bar.n = s.n := by
  unfold SS.bar
  split <;> rfl
theorem OkM.arm {s : SS} {m : Nat} (h : OkM s m) {k : Int} (hk : k ≤ 9223372036854775807) : OkM (s.arm k) m := ⟨h.n, h.P, h.wr, by show k.toNat < _; omega, h.at_⟩
theorem Byt.arm {s : SS} (h : Byt s) (k : Int) : Byt (s.arm k) := ⟨h.dur, h.P⟩
theorem OkM.fail {s : SS} {m : Nat} (h : OkM s m) : OkM s.fail m := ⟨h.n, h.P, h.wr, h.left, h.at_⟩
theorem Byt.fail {s : SS} (h : Byt s) : Byt s.fail := ⟨h.dur, h.P⟩
theorem lay_byt {s : SS} (h : Byt s) (q : Nat) (b : Bool) : Byt (s.lay q (fun _ => 0) b) := ⟨fun i j => by
  show ∃ n : Nat, n < 256 ∧ (bif Nat.beq i q then (fun _ => (0 : Int)) else s.dur i) j = Int.ofNat n
  cases Nat.beq i q
  · exact h.dur i j
  · exact ⟨0, by decide, rfl⟩, h.P⟩
theorem revived_or (s : SS) (kk : Int) (tt : Bool) : s.revived kk tt = s ∨ (s.revived kk tt).n = s.n ∧ (s.revived kk tt).wr = s.wr ∧ (s.revived kk tt).left = s.left ∧ (s.revived kk tt).P = [] ∧ (s.revived kk tt).off = false ∧ (Byt s → Byt (s.revived kk tt)) := by
  unfold SS.revived
  split
  · exact .inl rfl
  · refine .inr ?_
    split
    · exact ⟨rfl, rfl, rfl, rfl, rfl, fun h => ⟨(lay_byt (h.flush _) _ true).dur, fun w hw => by cases hw⟩⟩
    · exact ⟨rfl, rfl, rfl, rfl, rfl, fun h => ⟨(h.flush _).dur, fun w hw => by cases hw⟩⟩
theorem OkM.revived {s : SS} {m : Nat} (h : OkM s m) (kk : Int) (tt : Bool) : OkM (s.revived kk tt) m := by
  rcases revived_or s kk tt with e | ⟨e1, e2, e3, e4, _, _⟩
  · rw [e]; exact h
  · exact ⟨by rw [e1]; exact h.n, by rw [e4]; exact Nat.zero_le _, by rw [e2]; exact h.wr, by rw [e3]; exact h.left, fun w hw => by rw [e4] at hw; cases hw⟩
theorem Byt.revived {s : SS} (h : Byt s) (kk : Int) (tt : Bool) : Byt (s.revived kk tt) := by
  rcases revived_or s kk tt with e | ⟨_, _, _, _, _, e⟩
  · rw [e]; exact h
  · exact e h
/-- Bytes that are filled in. -/
theorem fB_by (c : Int) (k : Nat) : ∃ n : Nat, n < 256 ∧ fB c k = Int.ofNat n := by
  have h : ∀ x : Int, ∃ n : Nat, n < 256 ∧ wrapA .u8 x = Int.ofNat n := fun x => by
    cases x with
    | ofNat m => exact ⟨m % 256, Nat.mod_lt _ (by decide), rfl⟩
    | negSucc m =>
      have h : 0 ≤ wrapA .u8 (Int.negSucc m) ∧ wrapA .u8 (Int.negSucc m) < 256 := by
        rw [wrapA_eq]
        show 0 ≤ IntKind.u8.wrap (Int.negSucc m) ∧ IntKind.u8.wrap (Int.negSucc m) < 256
        simp [IntKind.wrap, IntKind.signed, IntKind.bits]
        try omega
      exact ⟨(wrapA .u8 (Int.negSucc m)).toNat, by omega, by simp; omega⟩
  exact h _
theorem wrS_no {s : SS} {i : Int} {L : Nat} (h : s.off = true ∨ ¬ (0 ≤ i ∧ i < Int.ofNat s.n ∧ L = 64)) (bs : Nat → Int) : s.wrS i L bs = s := by
  cases ho : s.off with
  | true => unfold SS.wrS; rw [ho]
  | false =>
    have hn : ¬ (0 ≤ i ∧ i < Int.ofNat s.n ∧ L = 64) := by
      rcases h with h | h
      · rw [ho] at h; cases h
      · exact h
    unfold SS.wrS
    rw [ho, decide_eq_false hn]
theorem OkM.wrU {s : SS} {m : Nat} (h : OkM s m) (i : Int) (L : Nat) (bs : Nat → Int) : OkM (s.wrS i L bs) (m + 1) := by
  by_cases hx : s.off = true ∨ ¬ (0 ≤ i ∧ i < Int.ofNat s.n ∧ L = 64)
  · rw [wrS_no hx]; exact h.mono (Nat.le_succ m)
  · have h1 : 0 ≤ i ∧ i < Int.ofNat s.n ∧ L = 64 := by
      by_cases q : 0 ≤ i ∧ i < Int.ofNat s.n ∧ L = 64
      · exact q
      · exact absurd (.inr q) hx
    obtain ⟨q, rfl⟩ : ∃ q, i = Int.ofNat q := ⟨i.toNat, by simp; omega⟩
    obtain ⟨_, h2, rfl⟩ := h1
    exact h.wrS (by simp at h2; omega) bs
theorem Byt.wrU {s : SS} (h : Byt s) (i : Int) (L : Nat) {bs : Nat → Int} (hb : ∀ j, ∃ n : Nat, n < 256 ∧ bs j = Int.ofNat n) : Byt (s.wrS i L bs) := by
  by_cases hx : s.off = true ∨ ¬ (0 ≤ i ∧ i < Int.ofNat s.n ∧ L = 64)
  · rw [wrS_no hx]; exact h
  · have h1 : 0 ≤ i ∧ i < Int.ofNat s.n ∧ L = 64 := by
      by_cases q : 0 ≤ i ∧ i < Int.ofNat s.n ∧ L = 64
      · exact q
      · exact absurd (.inr q) hx
    obtain ⟨q, rfl⟩ : ∃ q, i = Int.ofNat q := ⟨i.toNat, by simp; omega⟩
    obtain ⟨_, h2, rfl⟩ := h1
    exact h.wrS (by simp at h2; omega) hb

/-! ### a script -/

/-- What a call makes of the store. -/
noncomputable def opS (s : SS) (kk i f l : Int) (t : Bool) : SS :=
  bif decide (kk = 1) then s else bif decide (kk = 2) then barS s else bif decide (kk = 3) then armS2 s i else bif decide (kk = 4) then failS s else bif decide (kk = 5) then revS s i t else wrS s i (fN l) f
noncomputable def plS (n : Nat) (KK II FF LL : Nat → Int) (TT : Nat → Bool) : Nat → SS
  | 0 => SS.new n
  | k + 1 => opS (plS n KK II FF LL TT k) (KK k) (II k) (FF k) (LL k) (TT k)
noncomputable def fS (n M : Nat) (KK II FF LL : Nat → Int) (TT : Nat → Bool) : SS := plS n KK II FF LL TT (min M 401)
structure PlI (n k : Nat) (s : SS) : Prop where
  n : s.n = n
  ok : OkM s k
  byt : Byt s
theorem PlI.op {n k : Nat} {s : SS} (h : PlI n k s) (kk i f l : Int) (t : Bool) (hi : i ≤ 9223372036854775807) : PlI n (k + 1) (opS s kk i f l t) := by
  have up : PlI n (k + 1) s := ⟨h.n, h.ok.mono (Nat.le_succ k), h.byt⟩
  unfold opS
  cases decide (kk = 1) with
  | true => exact up
  | false =>
    cases decide (kk = 2) with
    | true => exact ⟨(bar_n s).trans h.n, up.ok.bar, h.byt.bar⟩
    | false =>
      cases decide (kk = 3) with
      | true => exact ⟨h.n, up.ok.arm hi, h.byt.arm i⟩
      | false =>
        cases decide (kk = 4) with
        | true => exact ⟨h.n, up.ok.fail, h.byt.fail⟩
        | false =>
          cases decide (kk = 5) with
          | true =>
            refine ⟨?_, up.ok.revived i t, h.byt.revived i t⟩
            show (s.revived i t).n = n
            rcases revived_or s i t with e | ⟨e, _⟩
            · rw [e]; exact h.n
            · rw [e]; exact h.n
          | false => exact ⟨(wrS_n _ _ _ _).trans h.n, h.ok.wrU _ _ _, h.byt.wrU _ _ (fB_by f)⟩
theorem PlI.at_ {n : Nat} (hn : n ≤ 512) (KK II FF LL : Nat → Int) (TT : Nat → Bool) (hI : ∀ k, II k ≤ 9223372036854775807) : ∀ k, PlI n k (plS n KK II FF LL TT k)
  | 0 => ⟨rfl, .new hn, .new n⟩
  | k + 1 => (PlI.at_ hn KK II FF LL TT hI k).op _ _ _ _ _ (hI k)

end Go.Proofs.St

set_option maxRecDepth 20000
namespace Go.Proofs.St
open Go Go.Sim Go.Proofs Go.Proofs.Ytfbnaflnaancbaa
theorem play1_vc (s : SS) (M k : Nat) (KK II FF LL : Nat → Int) (TT : Nat → Bool) (h0 : decide (Int.ofNat k < Int.ofNat M) = true) (h4 : decide ((400 : Int) < Int.ofNat k) = false)
  (y1 : decide (KK k = (1 : Int)) = true) (K : Res → Orc → Prop) : runK Try.prog 1000000 (.code (loopAt Try.prog 3 0) 179 (mkT [(5, .p 0 0), (7, .p 1 0), (40, .sv 5 M (opF KK II FF
  LL TT)), (41, .i .i64 (Int.ofNat M)), (42, .i .i64 (Int.ofNat k))]) (mkH [some s.o, some (.cells 49 5 [] (setAll .e 0 [.lr 2 1 0 s.n false, .lr 3 2 0 s.P.length false, .i .i64
  (Int.ofNat s.wr), .i .i64 s.am, .b s.off])), some (rsR s), some (rsP s)])) (Orc.t (Orc.f (Orc.t (Orc.cal [0] (AV.tup [AV.sv 1 (rdN s (II k)) fun k_1 x => CV.i .u8 (rdB s (II k)
  k_1), AV.i .i64 (rdE s (II k))]) [Upd.keep, Upd.gone] (Orc.cal [1, 2, 3] (AV.tup [AV.sv 1 (rdN s (II k)) fun k_1 x => CV.i .u8 (rdB s (II k) k_1), AV.i .i64 (rdE s (II k))])
  [Upd.keep, Upd.keep, Upd.keep] (Orc.t (Orc.t (Orc.t (Orc.t (Orc.t (Orc.t (Orc.cal [0] (AV.b (SS.off s)) [Upd.keep] (Orc.t (Orc.t (Orc.t (Orc.t (Orc.t (Orc.f (Orc.t (Orc.t (Orc.cal
  [0] (AV.i .i64 (Int.ofNat (List.length (SS.P s)))) [Upd.keep] (Orc.t (Orc.t (Orc.cal [1, 2, 3] (AV.i .i64 (Int.ofNat (List.length (SS.P s)))) [Upd.keep, Upd.keep, Upd.keep] (Orc.t
  (Orc.f (Orc.t (Orc.t (Orc.cal [0] (AV.i .i64 (Int.ofNat (SS.wr s))) [Upd.keep] (Orc.t (Orc.t (Orc.t (Orc.t (Orc.t (Orc.f (Orc.t (Orc.t (Orc.cal [0] (AV.i .i64 (Int.ofNat (SS.n
  s))) [Upd.keep] (Orc.t (Orc.t (Orc.t (Orc.t (Orc.t (Orc.t (Orc.f (Orc.f Orc.z)))))))))))))))))))))))))))))))))))))))))))))) K = (decide (Int.ofNat k < Int.ofNat M) = true ∧ ((0 :
  Int) ≤ Int.ofNat k ∧ Int.ofNat k < ↑M) ∧ True ∧ decide ((400 : Int) < Int.ofNat k) = false ∧ True ∧ decide (KK k = (1 : Int)) = true ∧ True ∧ Con Try.prog 7 [AV.p 0 0, AV.i .i64
  (II k)] [some (SS.o s)] (AV.tup [AV.sv 1 (rdN s (II k)) fun k_1 x => CV.i .u8 (rdB s (II k) k_1), AV.i .i64 (rdE s (II k))]) [Upd.keep, Upd.gone] ∧ True ∧ Con Try.prog 8 [AV.p 0
  0, AV.i .i64 (II k)] [some (rsA 2 s), some (rsR s), some (rsP s)] (AV.tup [AV.sv 1 (rdN s (II k)) fun k_1 x => CV.i .u8 (rdB s (II k) k_1), AV.i .i64 (rdE s (II k))]) [Upd.keep,
  Upd.keep, Upd.keep] ∧ (U8s (rdN s (II k)) fun k_1 x => CV.i .u8 (rdB s (II k) k_1)) ∧ (U8s (rdN s (II k)) fun k_1 x => CV.i .u8 (rdB s (II k) k_1)) ∧ natsEq (bytesF (rdN s (II k))
  fun k_1 x => CV.i .u8 (rdB s (II k) k_1)) (bytesF (rdN s (II k)) fun k_1 x => CV.i .u8 (rdB s (II k) k_1)) = true ∧ natsEq (bytesF (rdN s (II k)) fun k_1 x => CV.i .u8 (rdB s (II
  k) k_1)) (bytesF (rdN s (II k)) fun k_1 x => CV.i .u8 (rdB s (II k) k_1)) = true ∧ natsEq (bytesF (rdN s (II k)) fun k_1 x => CV.i .u8 (rdB s (II k) k_1)) (bytesF (rdN s (II k))
  fun k_1 x => CV.i .u8 (rdB s (II k) k_1)) = true ∧ natsEq (bytesF (rdN s (II k)) fun k_1 x => CV.i .u8 (rdB s (II k) k_1)) (bytesF (rdN s (II k)) fun k_1 x => CV.i .u8 (rdB s (II
  k) k_1)) = true ∧ True ∧ (!!decide (rdE s (II k) = rdE s (II k))) = true ∧ (!!decide (rdE s (II k) = rdE s (II k))) = true ∧ Con Try.prog 20 [AV.p 0 0] [some (SS.o s)] (AV.b
  (SS.off s)) [Upd.keep] ∧ (!!decide (rdE s (II k) = rdE s (II k))) = true ∧ (!!decide (rdE s (II k) = rdE s (II k))) = true ∧ (!!decide (rdE s (II k) = rdE s (II k))) = true ∧ True
  ∧ (!!decide (rdE s (II k) = rdE s (II k))) = true ∧ (!!decide (rdE s (II k) = rdE s (II k))) = true ∧ True ∧ (!decide (rdE s (II k) = rdE s (II k))) = false ∧ (!!SS.off s ==
  SS.off s) = true ∧ (!!SS.off s == SS.off s) = true ∧ Con Try.prog 21 [AV.p 0 0] [some (SS.o s)] (AV.i .i64 (Int.ofNat (List.length (SS.P s)))) [Upd.keep] ∧ (!!SS.off s == SS.off
  s) = true ∧ (!!SS.off s == SS.off s) = true ∧ Con Try.prog 22 [AV.p 0 0] [some (rsA 2 s), some (rsR s), some (rsP s)] (AV.i .i64 (Int.ofNat (List.length (SS.P s)))) [Upd.keep,
  Upd.keep, Upd.keep] ∧ (!!SS.off s == SS.off s) = true ∧ (!SS.off s == SS.off s) = false ∧ (!!decide (Int.ofNat (List.length (SS.P s)) = Int.ofNat (List.length (SS.P s)))) = true ∧
  (!!decide (Int.ofNat (List.length (SS.P s)) = Int.ofNat (List.length (SS.P s)))) = true ∧ Con Try.prog 23 [AV.p 0 0] [some (SS.o s)] (AV.i .i64 (Int.ofNat (SS.wr s))) [Upd.keep] ∧
  (!!decide (Int.ofNat (List.length (SS.P s)) = Int.ofNat (List.length (SS.P s)))) = true ∧ (!!decide (Int.ofNat (List.length (SS.P s)) = Int.ofNat (List.length (SS.P s)))) = true ∧
  (!!decide (Int.ofNat (List.length (SS.P s)) = Int.ofNat (List.length (SS.P s)))) = true ∧ True ∧ (!!decide (Int.ofNat (List.length (SS.P s)) = Int.ofNat (List.length (SS.P s)))) =
  true ∧ (!!decide (Int.ofNat (List.length (SS.P s)) = Int.ofNat (List.length (SS.P s)))) = true ∧ (!decide (Int.ofNat (List.length (SS.P s)) = Int.ofNat (List.length (SS.P s)))) =
  false ∧ (!!decide (Int.ofNat (SS.wr s) = Int.ofNat (SS.wr s))) = true ∧ (!!decide (Int.ofNat (SS.wr s) = Int.ofNat (SS.wr s))) = true ∧ Con Try.prog 24 [AV.p 0 0] [some (SS.o s)]
  (AV.i .i64 (Int.ofNat (SS.n s))) [Upd.keep] ∧ (!!decide (Int.ofNat (SS.wr s) = Int.ofNat (SS.wr s))) = true ∧ (!!decide (Int.ofNat (SS.wr s) = Int.ofNat (SS.wr s))) = true ∧
  (!!decide (Int.ofNat (SS.wr s) = Int.ofNat (SS.wr s))) = true ∧ True ∧ (!!decide (Int.ofNat (SS.wr s) = Int.ofNat (SS.wr s))) = true ∧ (!!decide (Int.ofNat (SS.wr s) = Int.ofNat
  (SS.wr s))) = true ∧ (!!decide (Int.ofNat (SS.wr s) = Int.ofNat (SS.wr s))) = true ∧ (!decide (Int.ofNat (SS.wr s) = Int.ofNat (SS.wr s))) = false ∧ (!decide (Int.ofNat (SS.n s) =
  Int.ofNat (SS.n s))) = false ∧ ((-9223372036854775808 : Int) ≤ Int.ofNat k + (1 : Int) ∧ Int.ofNat k + (1 : Int) ≤ (9223372036854775807 : Int)) ∧ K (Res.st XO.nrm (z0 (z0 (z0 (z1
  (AV.p 1 0) (z1 (AV.i .i64 (rdE s (II k))) (z0 T.e (z1 (AV.b (decide (rdE s (II k) = rdE s (II k)))) (zl (AV.b !decide (Int.ofNat (SS.wr s) = Int.ofNat (SS.wr s)))) T.e)) (z1 (AV.i
  .i64 (Int.ofNat k)) (z1 (AV.tup [AV.sv 1 (rdN s (II k)) fun k_1 x => CV.i .u8 (rdB s (II k) k_1), AV.i .i64 (rdE s (II k))]) (zl (AV.b !SS.off s == SS.off s)) T.e) T.e)) (z0 (z0
  (z1 (AV.b (decide (KK k = (1 : Int)))) (zl (AV.b !decide (rdE s (II k) = rdE s (II k)))) T.e) (z0 (zl (AV.lr 2 1 0 (SS.n s) false)) T.e)) (z0 (z1 (AV.s (bytesF (rdN s (II k)) fun
  k_1 x => CV.i .u8 (rdB s (II k) k_1))) (zl (AV.b !decide (Int.ofNat (List.length (SS.P s)) = Int.ofNat (List.length (SS.P s))))) T.e) T.e))) (z1 (AV.b (decide (rdE s (II k) = rdE
  s (II k)))) (z0 (z0 T.e (z0 (zl (AV.i .i64 (Int.ofNat (SS.n s)))) T.e)) (z0 (z1 (AV.tup [AV.sv 1 (rdN s (II k)) fun k_1 x => CV.i .u8 (rdB s (II k) k_1), AV.i .i64 (rdE s (II
  k))]) (zl (AV.i .i64 (Int.ofNat (List.length (SS.P s))))) T.e) T.e)) (z0 (z1 (AV.b (decide (Int.ofNat k < Int.ofNat M))) (z1 (AV.i .i64 (II k)) (zl (AV.p 1 0)) T.e) (z0 (zl (AV.i
  .i64 (Int.ofNat k + (1 : Int)))) T.e)) (z0 (z1 (AV.b (natsEq (bytesF (rdN s (II k)) fun k_1 x => CV.i .u8 (rdB s (II k) k_1)) (bytesF (rdN s (II k)) fun k_1 x => CV.i .u8 (rdB s
  (II k) k_1)))) (zl (AV.p 1 0)) T.e) T.e)))) (z1 (AV.p 0 0) (z1 (AV.i .i64 (Int.ofNat k)) (z0 (z0 T.e (z0 (zl (AV.b !decide (Int.ofNat (SS.wr s) = Int.ofNat (SS.wr s)))) T.e)) (z1
  (AV.p 4 0) (z1 (AV.p 4 1) (zl (AV.b !SS.off s == SS.off s)) T.e) T.e)) (z0 (z1 (AV.i .i64 (Int.ofNat M)) (z1 (AV.p 0 0) (zl (AV.p 0 0)) T.e) (z0 (zl (AV.b !decide (Int.ofNat (SS.n
  s) = Int.ofNat (SS.n s)))) T.e)) (z0 (z1 (AV.s (bytesF (rdN s (II k)) fun k_1 x => CV.i .u8 (rdB s (II k) k_1))) (zl (AV.p 0 0)) T.e) T.e))) (z1 (AV.i .i64 (rdE s (II k))) (z0 (z0
  T.e (z0 (zl (AV.p 1 0)) T.e)) (z0 (z1 (AV.i .i64 (rdE s (II k))) (zl (AV.i .i64 (Int.ofNat (List.length (SS.P s))))) T.e) T.e)) (z0 (z1 (AV.pv 5 (opF KK II FF LL TT k)) (z1 (AV.sv
  1 (rdN s (II k)) fun k_1 x => CV.i .u8 (rdB s (II k) k_1)) (zl (AV.p 1 4)) T.e) T.e) (z0 (z1 (AV.i .i64 (rdE s (II k))) (zl (AV.p 1 2)) T.e) T.e))))) (z0 (z0 (z0 (z0 (z0 T.e (z0
  (zl (AV.b !decide (Int.ofNat (SS.wr s) = Int.ofNat (SS.wr s)))) T.e)) (z1 (AV.b (decide ((400 : Int) < Int.ofNat k))) (z1 (AV.p 1 0) (zl (AV.b !SS.off s == SS.off s)) T.e) T.e))
  (z0 (z1 (AV.sv 5 M (opF KK II FF LL TT)) (z1 (AV.tup [AV.sv 1 (rdN s (II k)) fun k_1 x => CV.i .u8 (rdB s (II k) k_1), AV.i .i64 (rdE s (II k))]) (zl (AV.b !decide (rdE s (II k) =
  rdE s (II k)))) T.e) (z0 (zl (AV.i .i64 (Int.ofNat (SS.n s)))) T.e)) (z0 (z1 (AV.sv 1 (rdN s (II k)) fun k_1 x => CV.i .u8 (rdB s (II k) k_1)) (zl (AV.b !decide (Int.ofNat
  (List.length (SS.P s)) = Int.ofNat (List.length (SS.P s))))) T.e) T.e))) (z1 (AV.sv 1 (rdN s (II k)) fun k_1 x => CV.i .u8 (rdB s (II k) k_1)) (z0 (z0 T.e (z0 (zl (AV.p 1 0))
  T.e)) (z0 (z1 (AV.sv 1 (rdN s (II k)) fun k_1 x => CV.i .u8 (rdB s (II k) k_1)) (zl (AV.p 1 0)) T.e) T.e)) (z0 (z1 (AV.i .i64 (Int.ofNat k)) (z1 (AV.tup [AV.sv 1 (rdN s (II k))
  fun k_1 x => CV.i .u8 (rdB s (II k) k_1), AV.i .i64 (rdE s (II k))]) (zl (AV.p 1 0)) T.e) T.e) (z0 (z1 (AV.i .i64 (rdE s (II k))) (zl (AV.p 1 0)) T.e) T.e)))) (z0 (z1 (AV.p 4 0)
  (z0 (z0 T.e (z0 (zl (AV.p 0 0)) T.e)) (z1 (AV.i .i64 (KK k)) (z1 (AV.i .i64 (II k)) (zl (AV.p 0 0)) T.e) T.e)) (z0 (z1 (AV.i .i64 (Int.ofNat k + (1 : Int))) (z1 (AV.p 4 1) (zl
  (AV.b (SS.off s))) T.e) (z0 (zl (AV.b !decide (Int.ofNat (SS.n s) = Int.ofNat (SS.n s)))) T.e)) (z0 (z1 (AV.b (natsEq (bytesF (rdN s (II k)) fun k_1 x => CV.i .u8 (rdB s (II k)
  k_1)) (bytesF (rdN s (II k)) fun k_1 x => CV.i .u8 (rdB s (II k) k_1)))) (zl (AV.i .i64 (Int.ofNat (SS.wr s)))) T.e) T.e))) (z1 (AV.sv 1 (rdN s (II k)) fun k_1 x => CV.i .u8 (rdB
  s (II k) k_1)) (z0 (z0 (z1 (AV.b (decide (KK k = (1 : Int)))) (zl (AV.b (decide (rdE s (II k) = rdE s (II k))))) T.e) (z0 (zl (AV.p 1 0)) T.e)) (z0 (z1 (AV.sv 1 (rdN s (II k)) fun
  k_1 x => CV.i .u8 (rdB s (II k) k_1)) (zl (AV.b !decide (Int.ofNat (List.length (SS.P s)) = Int.ofNat (List.length (SS.P s))))) T.e) T.e)) (z0 (z1 (AV.agg [AV.i .i64 (KK k), AV.i
  .i64 (II k), AV.i .u8 (FF k), AV.i .i64 (LL k), AV.b (TT k)]) (z1 (AV.i .i64 (rdE s (II k))) (zl (AV.b (SS.off s))) T.e) T.e) (z0 (z1 (AV.b (decide (rdE s (II k) = rdE s (II k))))
  (zl (AV.i .i64 (Int.ofNat (SS.wr s)))) T.e) T.e)))))) { tree := z1 (AObj.segs 63 33799 [{ st := 0, sz := 1, n := 1, f := oneF (CV.i .i64 (Int.ofNat (SS.n s))) }, { st := 1, sz := 65, n := 512, f := durF (SS.dur s) (SS.torn s) }, { st := 33281, sz := 1, n := 1, f := oneF (CV.opv (pB (SS.P s)) 66 (pW (SS.P s))) }, { st := 33282, sz := 1, n := 512, f := latF (lB (SS.P s)) (lW (SS.P s)) }, { st := 33794, sz := 5, n := 1, f := tailF (Int.ofNat (List.length (SS.P s))) (Int.ofNat (SS.wr s)) (SS.off s) (SS.armed s) (Int.ofNat (SS.left s)) }]) (z1 (AObj.cells 49 5 [] (z1 (AV.lr 2 1 0 (SS.n s) false) (z1 (AV.lr 3 2 0 (List.length (SS.P s)) false) (zl (AV.i .i64 (SS.am s))) T.e) (z1 (AV.i .i64 (Int.ofNat (SS.wr s))) (zl (AV.b (SS.off s))) T.e))) (zl (AObj.rows 69 2 (List.length (SS.P s)) (penF (oA (SS.P s)) (oB (SS.P s))))) (z0 T.e T.e)) (z1 (AObj.rows 33 1 (SS.n s) (imgF s)) (zl (AObj.cells 32 5 [AV.i .i64 (0 : Int), AV.i .i64 (0 : Int), AV.i .u8 (0 : Int), AV.i .i64 (0 : Int), AV.b false] (z1 (AV.i .i64 (KK k)) (z1 (AV.i .i64 (II k)) (zl (AV.i .i64 (LL k))) T.e) (z1 (AV.i .u8 (FF k)) (zl (AV.b (TT k))) T.e)))) T.e), next := 6, log := [5, 4, 4] })
  Orc.z) := by kernel_rfl

theorem play2_vc (s : SS) (M k : Nat) (KK II FF LL : Nat → Int) (TT : Nat → Bool) (h0 : decide (Int.ofNat k < Int.ofNat M) = true) (h4 : decide ((400 : Int) < Int.ofNat k) = false)
  (n1 : decide (KK k = (1 : Int)) = false) (y2 : decide (KK k = (2 : Int)) = true) (K : Res → Orc → Prop) : runK Try.prog 1000000 (.code (loopAt Try.prog 3 0) 179 (mkT [(5, .p 0 0),
  (7, .p 1 0), (40, .sv 5 M (opF KK II FF LL TT)), (41, .i .i64 (Int.ofNat M)), (42, .i .i64 (Int.ofNat k))]) (mkH [some s.o, some (.cells 49 5 [] (setAll .e 0 [.lr 2 1 0 s.n false,
  .lr 3 2 0 s.P.length false, .i .i64 (Int.ofNat s.wr), .i .i64 s.am, .b s.off])), some (rsR s), some (rsP s)])) (Orc.t (Orc.f (Orc.f (Orc.t (Orc.cal [0] (AV.i .i64 (faE s))
  [Upd.set (SS.o (barS s))] (Orc.cal [1, 2, 3] (AV.i .i64 (faE s)) [Upd.set (rsA 2 (barS s)), Upd.set (rsR (barS s)), Upd.set (rsP (barS s))] (Orc.t (Orc.t (Orc.cal [0] (AV.b
  (SS.off (barS s))) [Upd.keep] (Orc.t (Orc.t (Orc.t (Orc.t (Orc.t (Orc.f (Orc.t (Orc.t (Orc.cal [0] (AV.i .i64 (Int.ofNat (List.length (SS.P (barS s))))) [Upd.keep] (Orc.t (Orc.t
  (Orc.cal [1, 2, 3] (AV.i .i64 (Int.ofNat (List.length (SS.P (barS s))))) [Upd.keep, Upd.keep, Upd.keep] (Orc.t (Orc.f (Orc.t (Orc.t (Orc.cal [0] (AV.i .i64 (Int.ofNat (SS.wr (barS
  s)))) [Upd.keep] (Orc.t (Orc.t (Orc.t (Orc.t (Orc.t (Orc.f (Orc.t (Orc.t (Orc.cal [0] (AV.i .i64 (Int.ofNat (SS.n (barS s)))) [Upd.keep] (Orc.t (Orc.t (Orc.t (Orc.t (Orc.t (Orc.t
  (Orc.f (Orc.f Orc.z))))))))))))))))))))))))))))))))))))))))))) K = (decide (Int.ofNat k < Int.ofNat M) = true ∧ ((0 : Int) ≤ Int.ofNat k ∧ Int.ofNat k < ↑M) ∧ True ∧ decide ((400
  : Int) < Int.ofNat k) = false ∧ True ∧ decide (KK k = (1 : Int)) = false ∧ decide (KK k = (2 : Int)) = true ∧ Con Try.prog 9 [AV.p 0 0] [some (SS.o s)] (AV.i .i64 (faE s))
  [Upd.set (SS.o (barS s))] ∧ Con Try.prog 10 [AV.p 0 0] [some (rsA 2 s), some (rsR s), some (rsP s)] (AV.i .i64 (faE s)) [Upd.set (rsA 2 (barS s)), Upd.set (rsR (barS s)), Upd.set
  (rsP (barS s))] ∧ True ∧ (!!decide (faE s = faE s)) = true ∧ (!!decide (faE s = faE s)) = true ∧ Con Try.prog 20 [AV.p 0 0] [some (SS.o (barS s))] (AV.b (SS.off (barS s)))
  [Upd.keep] ∧ (!!decide (faE s = faE s)) = true ∧ (!!decide (faE s = faE s)) = true ∧ (!!decide (faE s = faE s)) = true ∧ True ∧ (!!decide (faE s = faE s)) = true ∧ (!!decide (faE
  s = faE s)) = true ∧ True ∧ (!decide (faE s = faE s)) = false ∧ (!!SS.off (barS s) == SS.off (barS s)) = true ∧ (!!SS.off (barS s) == SS.off (barS s)) = true ∧ Con Try.prog 21
  [AV.p 0 0] [some (SS.o (barS s))] (AV.i .i64 (Int.ofNat (List.length (SS.P (barS s))))) [Upd.keep] ∧ (!!SS.off (barS s) == SS.off (barS s)) = true ∧ (!!SS.off (barS s) == SS.off
  (barS s)) = true ∧ Con Try.prog 22 [AV.p 0 0] [some (rsA 2 (barS s)), some (rsR (barS s)), some (rsP (barS s))] (AV.i .i64 (Int.ofNat (List.length (SS.P (barS s))))) [Upd.keep,
  Upd.keep, Upd.keep] ∧ (!!SS.off (barS s) == SS.off (barS s)) = true ∧ (!SS.off (barS s) == SS.off (barS s)) = false ∧ (!!decide (Int.ofNat (List.length (SS.P (barS s))) =
  Int.ofNat (List.length (SS.P (barS s))))) = true ∧ (!!decide (Int.ofNat (List.length (SS.P (barS s))) = Int.ofNat (List.length (SS.P (barS s))))) = true ∧ Con Try.prog 23 [AV.p 0
  0] [some (SS.o (barS s))] (AV.i .i64 (Int.ofNat (SS.wr (barS s)))) [Upd.keep] ∧ (!!decide (Int.ofNat (List.length (SS.P (barS s))) = Int.ofNat (List.length (SS.P (barS s))))) =
  true ∧ (!!decide (Int.ofNat (List.length (SS.P (barS s))) = Int.ofNat (List.length (SS.P (barS s))))) = true ∧ (!!decide (Int.ofNat (List.length (SS.P (barS s))) = Int.ofNat
  (List.length (SS.P (barS s))))) = true ∧ True ∧ (!!decide (Int.ofNat (List.length (SS.P (barS s))) = Int.ofNat (List.length (SS.P (barS s))))) = true ∧ (!!decide (Int.ofNat
  (List.length (SS.P (barS s))) = Int.ofNat (List.length (SS.P (barS s))))) = true ∧ (!decide (Int.ofNat (List.length (SS.P (barS s))) = Int.ofNat (List.length (SS.P (barS s))))) =
  false ∧ (!!decide (Int.ofNat (SS.wr (barS s)) = Int.ofNat (SS.wr (barS s)))) = true ∧ (!!decide (Int.ofNat (SS.wr (barS s)) = Int.ofNat (SS.wr (barS s)))) = true ∧ Con Try.prog 24
  [AV.p 0 0] [some (SS.o (barS s))] (AV.i .i64 (Int.ofNat (SS.n (barS s)))) [Upd.keep] ∧ (!!decide (Int.ofNat (SS.wr (barS s)) = Int.ofNat (SS.wr (barS s)))) = true ∧ (!!decide
  (Int.ofNat (SS.wr (barS s)) = Int.ofNat (SS.wr (barS s)))) = true ∧ (!!decide (Int.ofNat (SS.wr (barS s)) = Int.ofNat (SS.wr (barS s)))) = true ∧ True ∧ (!!decide (Int.ofNat
  (SS.wr (barS s)) = Int.ofNat (SS.wr (barS s)))) = true ∧ (!!decide (Int.ofNat (SS.wr (barS s)) = Int.ofNat (SS.wr (barS s)))) = true ∧ (!!decide (Int.ofNat (SS.wr (barS s)) =
  Int.ofNat (SS.wr (barS s)))) = true ∧ (!decide (Int.ofNat (SS.wr (barS s)) = Int.ofNat (SS.wr (barS s)))) = false ∧ (!decide (Int.ofNat (SS.n (barS s)) = Int.ofNat (SS.n (barS
  s)))) = false ∧ ((-9223372036854775808 : Int) ≤ Int.ofNat k + (1 : Int) ∧ Int.ofNat k + (1 : Int) ≤ (9223372036854775807 : Int)) ∧ K (Res.st XO.nrm (z0 (z0 (z0 (z1 (AV.p 1 0) (z0
  (z0 T.e (z0 (zl (AV.b !decide (Int.ofNat (SS.wr (barS s)) = Int.ofNat (SS.wr (barS s))))) T.e)) (z1 (AV.i .i64 (Int.ofNat k)) (z0 (zl (AV.b !SS.off (barS s) == SS.off (barS s)))
  T.e) T.e)) (z0 (z0 (z1 (AV.b (decide (KK k = (1 : Int)))) (zl (AV.b !decide (faE s = faE s))) T.e) (z0 (zl (AV.lr 2 1 0 (SS.n (barS s)) false)) T.e)) (z0 (z0 (zl (AV.b !decide
  (Int.ofNat (List.length (SS.P (barS s))) = Int.ofNat (List.length (SS.P (barS s)))))) T.e) T.e))) (z1 (AV.b (decide (faE s = faE s))) (z0 (z0 T.e (z1 (AV.i .i64 (faE s)) (zl (AV.i
  .i64 (Int.ofNat (SS.n (barS s))))) T.e)) (z0 (z0 (zl (AV.i .i64 (Int.ofNat (List.length (SS.P (barS s)))))) T.e) T.e)) (z0 (z1 (AV.b (decide (Int.ofNat k < Int.ofNat M))) (z0 (zl
  (AV.p 1 0)) T.e) (z0 (zl (AV.i .i64 (Int.ofNat k + (1 : Int)))) T.e)) (z0 (z0 (zl (AV.p 1 0)) T.e) T.e)))) (z1 (AV.p 0 0) (z1 (AV.i .i64 (Int.ofNat k)) (z0 (z0 T.e (z1 (AV.b
  (decide (KK k = (2 : Int)))) (zl (AV.b !decide (Int.ofNat (SS.wr (barS s)) = Int.ofNat (SS.wr (barS s))))) T.e)) (z1 (AV.p 4 0) (z0 (zl (AV.b !SS.off (barS s) == SS.off (barS s)))
  T.e) T.e)) (z0 (z1 (AV.i .i64 (Int.ofNat M)) (z0 (zl (AV.p 0 0)) T.e) (z0 (zl (AV.b !decide (Int.ofNat (SS.n (barS s)) = Int.ofNat (SS.n (barS s))))) T.e)) (z0 (z0 (zl (AV.p 0 0))
  T.e) T.e))) (z0 (z0 (z0 T.e (z1 (AV.i .i64 (faE s)) (zl (AV.p 1 0)) T.e)) (z0 (z0 (zl (AV.i .i64 (Int.ofNat (List.length (SS.P (barS s)))))) T.e) T.e)) (z0 (z1 (AV.pv 5 (opF KK II
  FF LL TT k)) (z0 (zl (AV.p 1 4)) T.e) T.e) (z0 (z0 (zl (AV.p 1 2)) T.e) T.e))))) (z0 (z0 (z0 (z0 (z0 T.e (z1 (AV.b (decide (KK k = (2 : Int)))) (zl (AV.b !decide (Int.ofNat (SS.wr
  (barS s)) = Int.ofNat (SS.wr (barS s))))) T.e)) (z1 (AV.b (decide ((400 : Int) < Int.ofNat k))) (z0 (zl (AV.b !SS.off (barS s) == SS.off (barS s))) T.e) T.e)) (z0 (z1 (AV.sv 5 M
  (opF KK II FF LL TT)) (z0 (zl (AV.b !decide (faE s = faE s))) T.e) (z0 (zl (AV.i .i64 (Int.ofNat (SS.n (barS s))))) T.e)) (z0 (z0 (zl (AV.b !decide (Int.ofNat (List.length (SS.P
  (barS s))) = Int.ofNat (List.length (SS.P (barS s)))))) T.e) T.e))) (z0 (z0 (z0 T.e (z1 (AV.p 1 0) (zl (AV.p 1 0)) T.e)) (z0 (z0 (zl (AV.p 1 0)) T.e) T.e)) (z0 (z1 (AV.i .i64
  (Int.ofNat k)) (z0 (zl (AV.p 1 0)) T.e) T.e) (z0 (z0 (zl (AV.p 1 0)) T.e) T.e)))) (z0 (z1 (AV.p 4 0) (z0 (z0 T.e (z1 (AV.p 0 0) (zl (AV.p 0 0)) T.e)) (z1 (AV.i .i64 (KK k)) (z0
  (zl (AV.p 0 0)) T.e) T.e)) (z0 (z1 (AV.i .i64 (Int.ofNat k + (1 : Int))) (z0 (zl (AV.b (SS.off (barS s)))) T.e) (z0 (zl (AV.b !decide (Int.ofNat (SS.n (barS s)) = Int.ofNat (SS.n
  (barS s))))) T.e)) (z0 (z0 (zl (AV.i .i64 (Int.ofNat (SS.wr (barS s))))) T.e) T.e))) (z0 (z0 (z0 (z1 (AV.b (decide (KK k = (1 : Int)))) (zl (AV.b (decide (faE s = faE s)))) T.e)
  (z1 (AV.b (decide (faE s = faE s))) (zl (AV.p 1 0)) T.e)) (z0 (z0 (zl (AV.b !decide (Int.ofNat (List.length (SS.P (barS s))) = Int.ofNat (List.length (SS.P (barS s)))))) T.e)
  T.e)) (z0 (z1 (AV.agg [AV.i .i64 (KK k), AV.i .i64 (II k), AV.i .u8 (FF k), AV.i .i64 (LL k), AV.b (TT k)]) (z0 (zl (AV.b (SS.off (barS s)))) T.e) T.e) (z0 (z0 (zl (AV.i .i64
  (Int.ofNat (SS.wr (barS s))))) T.e) T.e)))))) { tree := z1 (AObj.segs 63 33799 [{ st := 0, sz := 1, n := 1, f := oneF (CV.i .i64 (Int.ofNat (SS.n (barS s)))) }, { st := 1, sz := 65, n := 512, f := durF (SS.dur (barS s)) (SS.torn (barS s)) }, { st := 33281, sz := 1, n := 1, f := oneF (CV.opv (pB (SS.P (barS s))) 66 (pW (SS.P (barS s)))) }, { st := 33282, sz := 1, n := 512, f := latF (lB (SS.P (barS s))) (lW (SS.P (barS s))) }, { st := 33794, sz := 5, n := 1, f := tailF (Int.ofNat (List.length (SS.P (barS s)))) (Int.ofNat (SS.wr (barS s))) (SS.off (barS s)) (SS.armed (barS s)) (Int.ofNat (SS.left (barS s))) }]) (z1 (AObj.cells 49 5 [] (z1 (AV.lr 2 1 0 (SS.n (barS s)) false) (z1 (AV.lr 3 2 0 (List.length (SS.P (barS s))) false) (zl (AV.i .i64 (SS.am (barS s)))) T.e) (z1 (AV.i .i64 (Int.ofNat (SS.wr (barS s)))) (zl (AV.b (SS.off (barS s)))) T.e))) (zl (AObj.rows 69 2 (List.length (SS.P (barS s))) (penF (oA (SS.P (barS s))) (oB (SS.P (barS s)))))) T.e) (z1 (AObj.rows 33 1 (SS.n (barS s)) (imgF (barS s))) (zl (AObj.cells 32 5 [AV.i .i64 (0 : Int), AV.i .i64 (0 : Int), AV.i .u8 (0 : Int), AV.i .i64 (0 : Int), AV.b false] (z1 (AV.i .i64 (KK k)) (z1 (AV.i .i64 (II k)) (zl (AV.i .i64 (LL k))) T.e) (z1 (AV.i .u8 (FF k)) (zl (AV.b (TT k))) T.e)))) T.e), next := 5, log := [3, 2, 1, 0, 4, 4] })
  Orc.z) := by kernel_rfl

theorem play3_vc (s : SS) (M k : Nat) (KK II FF LL : Nat → Int) (TT : Nat → Bool) (h0 : decide (Int.ofNat k < Int.ofNat M) = true) (h4 : decide ((400 : Int) < Int.ofNat k) = false)
  (n1 : decide (KK k = (1 : Int)) = false) (n2 : decide (KK k = (2 : Int)) = false) (y3 : decide (KK k = (3 : Int)) = true) (K : Res → Orc → Prop) : runK Try.prog 1000000 (.code
  (loopAt Try.prog 3 0) 179 (mkT [(5, .p 0 0), (7, .p 1 0), (40, .sv 5 M (opF KK II FF LL TT)), (41, .i .i64 (Int.ofNat M)), (42, .i .i64 (Int.ofNat k))]) (mkH [some s.o, some
  (.cells 49 5 [] (setAll .e 0 [.lr 2 1 0 s.n false, .lr 3 2 0 s.P.length false, .i .i64 (Int.ofNat s.wr), .i .i64 s.am, .b s.off])), some (rsR s), some (rsP s)])) (Orc.t (Orc.f
  (Orc.f (Orc.f (Orc.t (Orc.cal [0] (AV.tup []) [Upd.set (SS.o (armS2 s (II k)))] (Orc.cal [1, 2, 3] (AV.tup []) [Upd.set (rsA 2 (armS2 s (II k))), Upd.set (rsR (armS2 s (II k))),
  Upd.set (rsP (armS2 s (II k)))] (Orc.c (Orc.c (Orc.cal [0] (AV.b (SS.off (armS2 s (II k)))) [Upd.keep] (Orc.c (Orc.c (Orc.c (Orc.c (Orc.c (Orc.c (Orc.t (Orc.t (Orc.cal [0] (AV.i
  .i64 (Int.ofNat (List.length (SS.P (armS2 s (II k)))))) [Upd.keep] (Orc.t (Orc.t (Orc.cal [1, 2, 3] (AV.i .i64 (Int.ofNat (List.length (SS.P (armS2 s (II k)))))) [Upd.keep,
  Upd.keep, Upd.keep] (Orc.t (Orc.f (Orc.t (Orc.t (Orc.cal [0] (AV.i .i64 (Int.ofNat (SS.wr (armS2 s (II k))))) [Upd.keep] (Orc.t (Orc.t (Orc.t (Orc.t (Orc.t (Orc.f (Orc.t (Orc.t
  (Orc.cal [0] (AV.i .i64 (Int.ofNat (SS.n (armS2 s (II k))))) [Upd.keep] (Orc.t (Orc.t (Orc.t (Orc.t (Orc.t (Orc.t (Orc.f (Orc.f Orc.z)))))))))))))))))))))))))))))))))))))))))))) K
  = (decide (Int.ofNat k < Int.ofNat M) = true ∧ ((0 : Int) ≤ Int.ofNat k ∧ Int.ofNat k < ↑M) ∧ True ∧ decide ((400 : Int) < Int.ofNat k) = false ∧ True ∧ decide (KK k = (1 : Int))
  = false ∧ decide (KK k = (2 : Int)) = false ∧ decide (KK k = (3 : Int)) = true ∧ True ∧ Con Try.prog 11 [AV.p 0 0, AV.i .i64 (II k)] [some (SS.o s)] (AV.tup []) [Upd.set (SS.o
  (armS2 s (II k)))] ∧ True ∧ Con Try.prog 12 [AV.p 0 0, AV.i .i64 (II k)] [some (rsA 2 s), some (rsR s), some (rsP s)] (AV.tup []) [Upd.set (rsA 2 (armS2 s (II k))), Upd.set (rsR
  (armS2 s (II k))), Upd.set (rsP (armS2 s (II k)))] ∧ True ∧ Con Try.prog 20 [AV.p 0 0] [some (SS.o (armS2 s (II k)))] (AV.b (SS.off (armS2 s (II k)))) [Upd.keep] ∧ True ∧ True ∧
  (!!SS.off (armS2 s (II k)) == SS.off (armS2 s (II k))) = true ∧ (!!SS.off (armS2 s (II k)) == SS.off (armS2 s (II k))) = true ∧ Con Try.prog 21 [AV.p 0 0] [some (SS.o (armS2 s (II
  k)))] (AV.i .i64 (Int.ofNat (List.length (SS.P (armS2 s (II k)))))) [Upd.keep] ∧ (!!SS.off (armS2 s (II k)) == SS.off (armS2 s (II k))) = true ∧ (!!SS.off (armS2 s (II k)) ==
  SS.off (armS2 s (II k))) = true ∧ Con Try.prog 22 [AV.p 0 0] [some (rsA 2 (armS2 s (II k))), some (rsR (armS2 s (II k))), some (rsP (armS2 s (II k)))] (AV.i .i64 (Int.ofNat
  (List.length (SS.P (armS2 s (II k)))))) [Upd.keep, Upd.keep, Upd.keep] ∧ (!!SS.off (armS2 s (II k)) == SS.off (armS2 s (II k))) = true ∧ (!SS.off (armS2 s (II k)) == SS.off (armS2
  s (II k))) = false ∧ (!!decide (Int.ofNat (List.length (SS.P (armS2 s (II k)))) = Int.ofNat (List.length (SS.P (armS2 s (II k)))))) = true ∧ (!!decide (Int.ofNat (List.length
  (SS.P (armS2 s (II k)))) = Int.ofNat (List.length (SS.P (armS2 s (II k)))))) = true ∧ Con Try.prog 23 [AV.p 0 0] [some (SS.o (armS2 s (II k)))] (AV.i .i64 (Int.ofNat (SS.wr (armS2
  s (II k))))) [Upd.keep] ∧ (!!decide (Int.ofNat (List.length (SS.P (armS2 s (II k)))) = Int.ofNat (List.length (SS.P (armS2 s (II k)))))) = true ∧ (!!decide (Int.ofNat (List.length
  (SS.P (armS2 s (II k)))) = Int.ofNat (List.length (SS.P (armS2 s (II k)))))) = true ∧ (!!decide (Int.ofNat (List.length (SS.P (armS2 s (II k)))) = Int.ofNat (List.length (SS.P
  (armS2 s (II k)))))) = true ∧ True ∧ (!!decide (Int.ofNat (List.length (SS.P (armS2 s (II k)))) = Int.ofNat (List.length (SS.P (armS2 s (II k)))))) = true ∧ (!!decide (Int.ofNat
  (List.length (SS.P (armS2 s (II k)))) = Int.ofNat (List.length (SS.P (armS2 s (II k)))))) = true ∧ (!decide (Int.ofNat (List.length (SS.P (armS2 s (II k)))) = Int.ofNat
  (List.length (SS.P (armS2 s (II k)))))) = false ∧ (!!decide (Int.ofNat (SS.wr (armS2 s (II k))) = Int.ofNat (SS.wr (armS2 s (II k))))) = true ∧ (!!decide (Int.ofNat (SS.wr (armS2
  s (II k))) = Int.ofNat (SS.wr (armS2 s (II k))))) = true ∧ Con Try.prog 24 [AV.p 0 0] [some (SS.o (armS2 s (II k)))] (AV.i .i64 (Int.ofNat (SS.n (armS2 s (II k))))) [Upd.keep] ∧
  (!!decide (Int.ofNat (SS.wr (armS2 s (II k))) = Int.ofNat (SS.wr (armS2 s (II k))))) = true ∧ (!!decide (Int.ofNat (SS.wr (armS2 s (II k))) = Int.ofNat (SS.wr (armS2 s (II k)))))
  = true ∧ (!!decide (Int.ofNat (SS.wr (armS2 s (II k))) = Int.ofNat (SS.wr (armS2 s (II k))))) = true ∧ True ∧ (!!decide (Int.ofNat (SS.wr (armS2 s (II k))) = Int.ofNat (SS.wr
  (armS2 s (II k))))) = true ∧ (!!decide (Int.ofNat (SS.wr (armS2 s (II k))) = Int.ofNat (SS.wr (armS2 s (II k))))) = true ∧ (!!decide (Int.ofNat (SS.wr (armS2 s (II k))) =
  Int.ofNat (SS.wr (armS2 s (II k))))) = true ∧ (!decide (Int.ofNat (SS.wr (armS2 s (II k))) = Int.ofNat (SS.wr (armS2 s (II k))))) = false ∧ (!decide (Int.ofNat (SS.n (armS2 s (II
  k))) = Int.ofNat (SS.n (armS2 s (II k))))) = false ∧ ((-9223372036854775808 : Int) ≤ Int.ofNat k + (1 : Int) ∧ Int.ofNat k + (1 : Int) ≤ (9223372036854775807 : Int)) ∧ K (Res.st
  XO.nrm (z0 (z0 (z0 (z1 (AV.p 1 0) (z0 (z0 T.e (z0 (zl (AV.b !decide (Int.ofNat (SS.wr (armS2 s (II k))) = Int.ofNat (SS.wr (armS2 s (II k)))))) T.e)) (z1 (AV.i .i64 (Int.ofNat k))
  (z0 (zl (AV.b !SS.off (armS2 s (II k)) == SS.off (armS2 s (II k)))) T.e) (zl (AV.i .i64 (II k))))) (z0 (z0 (z1 (AV.b (decide (KK k = (1 : Int)))) (zl (AV.b false)) T.e) (z1 (AV.b
  (decide (KK k = (3 : Int)))) (zl (AV.lr 2 1 0 (SS.n (armS2 s (II k))) false)) T.e)) (z0 (z0 (zl (AV.b !decide (Int.ofNat (List.length (SS.P (armS2 s (II k)))) = Int.ofNat
  (List.length (SS.P (armS2 s (II k))))))) T.e) T.e))) (z1 (AV.b true) (z0 (z0 T.e (z0 (zl (AV.i .i64 (Int.ofNat (SS.n (armS2 s (II k)))))) T.e)) (z0 (z0 (zl (AV.i .i64 (Int.ofNat
  (List.length (SS.P (armS2 s (II k))))))) T.e) T.e)) (z0 (z1 (AV.b (decide (Int.ofNat k < Int.ofNat M))) (z0 (zl (AV.p 1 0)) T.e) (z1 (AV.i .i64 (II k)) (zl (AV.i .i64 (Int.ofNat k
  + (1 : Int)))) T.e)) (z0 (z0 (zl (AV.p 1 0)) T.e) T.e)))) (z1 (AV.p 0 0) (z1 (AV.i .i64 (Int.ofNat k)) (z0 (z0 T.e (z1 (AV.b (decide (KK k = (2 : Int)))) (zl (AV.b !decide
  (Int.ofNat (SS.wr (armS2 s (II k))) = Int.ofNat (SS.wr (armS2 s (II k)))))) T.e)) (z1 (AV.p 4 0) (z0 (zl (AV.b !SS.off (armS2 s (II k)) == SS.off (armS2 s (II k)))) T.e) T.e)) (z0
  (z1 (AV.i .i64 (Int.ofNat M)) (z0 (zl (AV.p 0 0)) T.e) (z1 (AV.p 0 0) (zl (AV.b !decide (Int.ofNat (SS.n (armS2 s (II k))) = Int.ofNat (SS.n (armS2 s (II k)))))) T.e)) (z0 (z0 (zl
  (AV.p 0 0)) T.e) T.e))) (z0 (z0 (z0 T.e (z0 (zl (AV.p 1 0)) T.e)) (z0 (z0 (zl (AV.i .i64 (Int.ofNat (List.length (SS.P (armS2 s (II k))))))) T.e) T.e)) (z0 (z1 (AV.pv 5 (opF KK II
  FF LL TT k)) (z0 (zl (AV.p 1 4)) T.e) (zl (AV.p 1 0))) (z0 (z0 (zl (AV.p 1 2)) T.e) T.e))))) (z0 (z0 (z0 (z0 (z0 T.e (z1 (AV.b (decide (KK k = (2 : Int)))) (zl (AV.b !decide
  (Int.ofNat (SS.wr (armS2 s (II k))) = Int.ofNat (SS.wr (armS2 s (II k)))))) T.e)) (z1 (AV.b (decide ((400 : Int) < Int.ofNat k))) (z0 (zl (AV.b !SS.off (armS2 s (II k)) == SS.off
  (armS2 s (II k)))) T.e) (zl (AV.tup [])))) (z0 (z1 (AV.sv 5 M (opF KK II FF LL TT)) (z0 (zl (AV.b false)) T.e) (z1 (AV.b (decide (KK k = (3 : Int)))) (zl (AV.i .i64 (Int.ofNat
  (SS.n (armS2 s (II k)))))) T.e)) (z0 (z0 (zl (AV.b !decide (Int.ofNat (List.length (SS.P (armS2 s (II k)))) = Int.ofNat (List.length (SS.P (armS2 s (II k))))))) T.e) T.e))) (z0
  (z0 (z0 T.e (z0 (zl (AV.p 1 0)) T.e)) (z0 (z0 (zl (AV.p 1 0)) T.e) T.e)) (z0 (z1 (AV.i .i64 (Int.ofNat k)) (z0 (zl (AV.p 1 0)) T.e) (zl (AV.tup []))) (z0 (z0 (zl (AV.p 1 0)) T.e)
  T.e)))) (z0 (z1 (AV.p 4 0) (z0 (z0 T.e (z0 (zl (AV.p 0 0)) T.e)) (z1 (AV.i .i64 (KK k)) (z0 (zl (AV.p 0 0)) T.e) T.e)) (z0 (z1 (AV.i .i64 (Int.ofNat k + (1 : Int))) (z0 (zl (AV.b
  (SS.off (armS2 s (II k))))) T.e) (z1 (AV.p 4 1) (zl (AV.b !decide (Int.ofNat (SS.n (armS2 s (II k))) = Int.ofNat (SS.n (armS2 s (II k)))))) T.e)) (z0 (z0 (zl (AV.i .i64 (Int.ofNat
  (SS.wr (armS2 s (II k)))))) T.e) T.e))) (z0 (z0 (z0 (z1 (AV.b (decide (KK k = (1 : Int)))) (zl (AV.b true)) T.e) (z0 (zl (AV.p 1 0)) T.e)) (z0 (z0 (zl (AV.b !decide (Int.ofNat
  (List.length (SS.P (armS2 s (II k)))) = Int.ofNat (List.length (SS.P (armS2 s (II k))))))) T.e) T.e)) (z0 (z1 (AV.agg [AV.i .i64 (KK k), AV.i .i64 (II k), AV.i .u8 (FF k), AV.i
  .i64 (LL k), AV.b (TT k)]) (z0 (zl (AV.b (SS.off (armS2 s (II k))))) T.e) (zl (AV.p 4 1))) (z0 (z0 (zl (AV.i .i64 (Int.ofNat (SS.wr (armS2 s (II k)))))) T.e) T.e)))))) { tree := z1 (AObj.segs 63 33799 [{ st := 0, sz := 1, n := 1, f := oneF (CV.i .i64 (Int.ofNat (SS.n (armS2 s (II k))))) }, { st := 1, sz := 65, n := 512, f := durF (SS.dur (armS2 s (II k))) (SS.torn (armS2 s (II k))) }, { st := 33281, sz := 1, n := 1, f := oneF (CV.opv (pB (SS.P (armS2 s (II k)))) 66 (pW (SS.P (armS2 s (II k))))) }, { st := 33282, sz := 1, n := 512, f := latF (lB (SS.P (armS2 s (II k)))) (lW (SS.P (armS2 s (II k)))) }, { st := 33794, sz := 5, n := 1, f := tailF (Int.ofNat (List.length (SS.P (armS2 s (II k))))) (Int.ofNat (SS.wr (armS2 s (II k)))) (SS.off (armS2 s (II k))) (SS.armed (armS2 s (II k))) (Int.ofNat (SS.left (armS2 s (II k)))) }]) (z1 (AObj.cells 49 5 [] (z1 (AV.lr 2 1 0 (SS.n (armS2 s (II k))) false) (z1 (AV.lr 3 2 0 (List.length (SS.P (armS2 s (II k)))) false) (zl (AV.i .i64 (SS.am (armS2 s (II k))))) T.e) (z1 (AV.i .i64 (Int.ofNat (SS.wr (armS2 s (II k))))) (zl (AV.b (SS.off (armS2 s (II k))))) T.e))) (zl (AObj.rows 69 2 (List.length (SS.P (armS2 s (II k)))) (penF (oA (SS.P (armS2 s (II k)))) (oB (SS.P (armS2 s (II k))))))) T.e) (z1 (AObj.rows 33 1 (SS.n (armS2 s (II k))) (imgF (armS2 s (II k)))) (zl (AObj.cells 32 5 [AV.i .i64 (0 : Int), AV.i .i64 (0 : Int), AV.i .u8 (0 : Int), AV.i .i64 (0 : Int), AV.b false] (z1 (AV.i .i64 (KK k)) (z1 (AV.i .i64 (II k)) (zl (AV.i .i64 (LL k))) T.e) (z1 (AV.i .u8 (FF k)) (zl (AV.b (TT k))) T.e)))) T.e), next := 5, log := [3, 2, 1, 0, 4, 4] })
  Orc.z) := by kernel_rfl

theorem play4_vc (s : SS) (M k : Nat) (KK II FF LL : Nat → Int) (TT : Nat → Bool) (h0 : decide (Int.ofNat k < Int.ofNat M) = true) (h4 : decide ((400 : Int) < Int.ofNat k) = false)
  (n1 : decide (KK k = (1 : Int)) = false) (n2 : decide (KK k = (2 : Int)) = false) (n3 : decide (KK k = (3 : Int)) = false) (y4 : decide (KK k = (4 : Int)) = true) (K : Res → Orc →
  Prop) : runK Try.prog 1000000 (.code (loopAt Try.prog 3 0) 179 (mkT [(5, .p 0 0), (7, .p 1 0), (40, .sv 5 M (opF KK II FF LL TT)), (41, .i .i64 (Int.ofNat M)), (42, .i .i64
  (Int.ofNat k))]) (mkH [some s.o, some (.cells 49 5 [] (setAll .e 0 [.lr 2 1 0 s.n false, .lr 3 2 0 s.P.length false, .i .i64 (Int.ofNat s.wr), .i .i64 s.am, .b s.off])), some (rsR
  s), some (rsP s)])) (Orc.t (Orc.f (Orc.f (Orc.f (Orc.f (Orc.t (Orc.cal [0] (AV.tup []) [Upd.set (SS.o (failS s))] (Orc.cal [1, 2, 3] (AV.tup []) [Upd.set (rsA 2 (failS s)),
  Upd.set (rsR (failS s)), Upd.set (rsP (failS s))] (Orc.c (Orc.c (Orc.cal [0] (AV.b (SS.off (failS s))) [Upd.keep] (Orc.c (Orc.c (Orc.c (Orc.c (Orc.c (Orc.c (Orc.c (Orc.c (Orc.cal
  [0] (AV.i .i64 (Int.ofNat (List.length (SS.P (failS s))))) [Upd.keep] (Orc.c (Orc.c (Orc.cal [1, 2, 3] (AV.i .i64 (Int.ofNat (List.length (SS.P (failS s))))) [Upd.keep, Upd.keep,
  Upd.keep] (Orc.c (Orc.c (Orc.t (Orc.t (Orc.cal [0] (AV.i .i64 (Int.ofNat (SS.wr (failS s)))) [Upd.keep] (Orc.t (Orc.t (Orc.t (Orc.t (Orc.t (Orc.f (Orc.t (Orc.t (Orc.cal [0] (AV.i
  .i64 (Int.ofNat (SS.n (failS s)))) [Upd.keep] (Orc.t (Orc.t (Orc.t (Orc.t (Orc.t (Orc.t (Orc.f (Orc.f Orc.z))))))))))))))))))))))))))))))))))))))))))))) K = (decide (Int.ofNat k <
  Int.ofNat M) = true ∧ ((0 : Int) ≤ Int.ofNat k ∧ Int.ofNat k < ↑M) ∧ True ∧ decide ((400 : Int) < Int.ofNat k) = false ∧ True ∧ decide (KK k = (1 : Int)) = false ∧ decide (KK k =
  (2 : Int)) = false ∧ decide (KK k = (3 : Int)) = false ∧ decide (KK k = (4 : Int)) = true ∧ Con Try.prog 13 [AV.p 0 0] [some (SS.o s)] (AV.tup []) [Upd.set (SS.o (failS s))] ∧ Con
  Try.prog 14 [AV.p 0 0] [some (rsA 2 s), some (rsR s), some (rsP s)] (AV.tup []) [Upd.set (rsA 2 (failS s)), Upd.set (rsR (failS s)), Upd.set (rsP (failS s))] ∧ True ∧ Con Try.prog
  20 [AV.p 0 0] [some (SS.o (failS s))] (AV.b (SS.off (failS s))) [Upd.keep] ∧ True ∧ True ∧ Con Try.prog 21 [AV.p 0 0] [some (SS.o (failS s))] (AV.i .i64 (Int.ofNat (List.length
  (SS.P (failS s))))) [Upd.keep] ∧ Con Try.prog 22 [AV.p 0 0] [some (rsA 2 (failS s)), some (rsR (failS s)), some (rsP (failS s))] (AV.i .i64 (Int.ofNat (List.length (SS.P (failS
  s))))) [Upd.keep, Upd.keep, Upd.keep] ∧ (!!decide (Int.ofNat (List.length (SS.P (failS s))) = Int.ofNat (List.length (SS.P (failS s))))) = true ∧ (!!decide (Int.ofNat (List.length
  (SS.P (failS s))) = Int.ofNat (List.length (SS.P (failS s))))) = true ∧ Con Try.prog 23 [AV.p 0 0] [some (SS.o (failS s))] (AV.i .i64 (Int.ofNat (SS.wr (failS s)))) [Upd.keep] ∧
  (!!decide (Int.ofNat (List.length (SS.P (failS s))) = Int.ofNat (List.length (SS.P (failS s))))) = true ∧ (!!decide (Int.ofNat (List.length (SS.P (failS s))) = Int.ofNat
  (List.length (SS.P (failS s))))) = true ∧ (!!decide (Int.ofNat (List.length (SS.P (failS s))) = Int.ofNat (List.length (SS.P (failS s))))) = true ∧ True ∧ (!!decide (Int.ofNat
  (List.length (SS.P (failS s))) = Int.ofNat (List.length (SS.P (failS s))))) = true ∧ (!!decide (Int.ofNat (List.length (SS.P (failS s))) = Int.ofNat (List.length (SS.P (failS
  s))))) = true ∧ (!decide (Int.ofNat (List.length (SS.P (failS s))) = Int.ofNat (List.length (SS.P (failS s))))) = false ∧ (!!decide (Int.ofNat (SS.wr (failS s)) = Int.ofNat (SS.wr
  (failS s)))) = true ∧ (!!decide (Int.ofNat (SS.wr (failS s)) = Int.ofNat (SS.wr (failS s)))) = true ∧ Con Try.prog 24 [AV.p 0 0] [some (SS.o (failS s))] (AV.i .i64 (Int.ofNat
  (SS.n (failS s)))) [Upd.keep] ∧ (!!decide (Int.ofNat (SS.wr (failS s)) = Int.ofNat (SS.wr (failS s)))) = true ∧ (!!decide (Int.ofNat (SS.wr (failS s)) = Int.ofNat (SS.wr (failS
  s)))) = true ∧ (!!decide (Int.ofNat (SS.wr (failS s)) = Int.ofNat (SS.wr (failS s)))) = true ∧ True ∧ (!!decide (Int.ofNat (SS.wr (failS s)) = Int.ofNat (SS.wr (failS s)))) = true
  ∧ (!!decide (Int.ofNat (SS.wr (failS s)) = Int.ofNat (SS.wr (failS s)))) = true ∧ (!!decide (Int.ofNat (SS.wr (failS s)) = Int.ofNat (SS.wr (failS s)))) = true ∧ (!decide
  (Int.ofNat (SS.wr (failS s)) = Int.ofNat (SS.wr (failS s)))) = false ∧ (!decide (Int.ofNat (SS.n (failS s)) = Int.ofNat (SS.n (failS s)))) = false ∧ ((-9223372036854775808 : Int)
  ≤ Int.ofNat k + (1 : Int) ∧ Int.ofNat k + (1 : Int) ≤ (9223372036854775807 : Int)) ∧ K (Res.st XO.nrm (z0 (z0 (z0 (z1 (AV.p 1 0) (z0 (z0 T.e (z0 (zl (AV.b !decide (Int.ofNat
  (SS.wr (failS s)) = Int.ofNat (SS.wr (failS s))))) T.e)) (z1 (AV.i .i64 (Int.ofNat k)) (z0 (zl (AV.b !SS.off (failS s) == SS.off (failS s))) T.e) T.e)) (z0 (z0 (z1 (AV.b (decide
  (KK k = (1 : Int)))) (zl (AV.b false)) T.e) (z1 (AV.b (decide (KK k = (3 : Int)))) (zl (AV.lr 2 1 0 (SS.n (failS s)) false)) T.e)) (z0 (z0 (zl (AV.b !decide (Int.ofNat
  (List.length (SS.P (failS s))) = Int.ofNat (List.length (SS.P (failS s)))))) T.e) T.e))) (z1 (AV.b true) (z0 (z0 T.e (z0 (zl (AV.i .i64 (Int.ofNat (SS.n (failS s))))) T.e)) (z0
  (z0 (zl (AV.i .i64 (Int.ofNat (List.length (SS.P (failS s)))))) T.e) (zl (AV.p 0 0)))) (z0 (z1 (AV.b (decide (Int.ofNat k < Int.ofNat M))) (z0 (zl (AV.p 1 0)) T.e) (z0 (zl (AV.i
  .i64 (Int.ofNat k + (1 : Int)))) T.e)) (z0 (z0 (zl (AV.p 1 0)) T.e) T.e)))) (z1 (AV.p 0 0) (z1 (AV.i .i64 (Int.ofNat k)) (z0 (z0 T.e (z1 (AV.b (decide (KK k = (2 : Int)))) (zl
  (AV.b !decide (Int.ofNat (SS.wr (failS s)) = Int.ofNat (SS.wr (failS s))))) T.e)) (z1 (AV.p 4 0) (z0 (zl (AV.b !SS.off (failS s) == SS.off (failS s))) T.e) (zl (AV.b (decide (KK k
  = (4 : Int))))))) (z0 (z1 (AV.i .i64 (Int.ofNat M)) (z0 (zl (AV.p 0 0)) T.e) (z0 (zl (AV.b !decide (Int.ofNat (SS.n (failS s)) = Int.ofNat (SS.n (failS s))))) T.e)) (z0 (z0 (zl
  (AV.p 0 0)) T.e) T.e))) (z0 (z0 (z0 T.e (z0 (zl (AV.p 1 0)) T.e)) (z0 (z0 (zl (AV.i .i64 (Int.ofNat (List.length (SS.P (failS s)))))) T.e) (zl (AV.p 1 0)))) (z0 (z1 (AV.pv 5 (opF
  KK II FF LL TT k)) (z0 (zl (AV.p 1 4)) T.e) T.e) (z0 (z0 (zl (AV.p 1 2)) T.e) T.e))))) (z0 (z0 (z0 (z0 (z0 T.e (z1 (AV.b (decide (KK k = (2 : Int)))) (zl (AV.b !decide (Int.ofNat
  (SS.wr (failS s)) = Int.ofNat (SS.wr (failS s))))) T.e)) (z1 (AV.b (decide ((400 : Int) < Int.ofNat k))) (z0 (zl (AV.b !SS.off (failS s) == SS.off (failS s))) T.e) T.e)) (z0 (z1
  (AV.sv 5 M (opF KK II FF LL TT)) (z0 (zl (AV.b false)) T.e) (z1 (AV.b (decide (KK k = (3 : Int)))) (zl (AV.i .i64 (Int.ofNat (SS.n (failS s))))) T.e)) (z0 (z0 (zl (AV.b !decide
  (Int.ofNat (List.length (SS.P (failS s))) = Int.ofNat (List.length (SS.P (failS s)))))) T.e) T.e))) (z0 (z0 (z0 T.e (z0 (zl (AV.p 1 0)) T.e)) (z0 (z0 (zl (AV.p 1 0)) T.e) (zl
  (AV.tup [])))) (z0 (z1 (AV.i .i64 (Int.ofNat k)) (z0 (zl (AV.p 1 0)) T.e) T.e) (z0 (z0 (zl (AV.p 1 0)) T.e) T.e)))) (z0 (z1 (AV.p 4 0) (z0 (z0 T.e (z0 (zl (AV.p 0 0)) T.e)) (z1
  (AV.i .i64 (KK k)) (z0 (zl (AV.p 0 0)) T.e) (zl (AV.b (decide (KK k = (4 : Int))))))) (z0 (z1 (AV.i .i64 (Int.ofNat k + (1 : Int))) (z0 (zl (AV.b (SS.off (failS s)))) T.e) (z0 (zl
  (AV.b !decide (Int.ofNat (SS.n (failS s)) = Int.ofNat (SS.n (failS s))))) T.e)) (z0 (z0 (zl (AV.i .i64 (Int.ofNat (SS.wr (failS s))))) T.e) T.e))) (z0 (z0 (z0 (z1 (AV.b (decide
  (KK k = (1 : Int)))) (zl (AV.b true)) T.e) (z0 (zl (AV.p 1 0)) T.e)) (z0 (z0 (zl (AV.b !decide (Int.ofNat (List.length (SS.P (failS s))) = Int.ofNat (List.length (SS.P (failS
  s)))))) T.e) (zl (AV.tup [])))) (z0 (z1 (AV.agg [AV.i .i64 (KK k), AV.i .i64 (II k), AV.i .u8 (FF k), AV.i .i64 (LL k), AV.b (TT k)]) (z0 (zl (AV.b (SS.off (failS s)))) T.e) T.e)
  (z0 (z0 (zl (AV.i .i64 (Int.ofNat (SS.wr (failS s))))) T.e) T.e)))))) { tree := z1 (AObj.segs 63 33799 [{ st := 0, sz := 1, n := 1, f := oneF (CV.i .i64 (Int.ofNat (SS.n (failS s)))) }, { st := 1, sz := 65, n := 512, f := durF (SS.dur (failS s)) (SS.torn (failS s)) }, { st := 33281, sz := 1, n := 1, f := oneF (CV.opv (pB (SS.P (failS s))) 66 (pW (SS.P (failS s)))) }, { st := 33282, sz := 1, n := 512, f := latF (lB (SS.P (failS s))) (lW (SS.P (failS s))) }, { st := 33794, sz := 5, n := 1, f := tailF (Int.ofNat (List.length (SS.P (failS s)))) (Int.ofNat (SS.wr (failS s))) (SS.off (failS s)) (SS.armed (failS s)) (Int.ofNat (SS.left (failS s))) }]) (z1 (AObj.cells 49 5 [] (z1 (AV.lr 2 1 0 (SS.n (failS s)) false) (z1 (AV.lr 3 2 0 (List.length (SS.P (failS s))) false) (zl (AV.i .i64 (SS.am (failS s)))) T.e) (z1 (AV.i .i64 (Int.ofNat (SS.wr (failS s)))) (zl (AV.b (SS.off (failS s)))) T.e))) (zl (AObj.rows 69 2 (List.length (SS.P (failS s))) (penF (oA (SS.P (failS s))) (oB (SS.P (failS s)))))) T.e) (z1 (AObj.rows 33 1 (SS.n (failS s)) (imgF (failS s))) (zl (AObj.cells 32 5 [AV.i .i64 (0 : Int), AV.i .i64 (0 : Int), AV.i .u8 (0 : Int), AV.i .i64 (0 : Int), AV.b false] (z1 (AV.i .i64 (KK k)) (z1 (AV.i .i64 (II k)) (zl (AV.i .i64 (LL k))) T.e) (z1 (AV.i .u8 (FF k)) (zl (AV.b (TT k))) T.e)))) T.e), next := 5, log := [3, 2, 1, 0, 4, 4] })
  Orc.z) := by kernel_rfl

theorem play5_vc (s : SS) (M k : Nat) (KK II FF LL : Nat → Int) (TT : Nat → Bool) (h0 : decide (Int.ofNat k < Int.ofNat M) = true) (h4 : decide ((400 : Int) < Int.ofNat k) = false)
  (n1 : decide (KK k = (1 : Int)) = false) (n2 : decide (KK k = (2 : Int)) = false) (n3 : decide (KK k = (3 : Int)) = false) (n4 : decide (KK k = (4 : Int)) = false) (y5 : decide
  (KK k = (5 : Int)) = true) (K : Res → Orc → Prop) : runK Try.prog 1000000 (.code (loopAt Try.prog 3 0) 179 (mkT [(5, .p 0 0), (7, .p 1 0), (40, .sv 5 M (opF KK II FF LL TT)), (41,
  .i .i64 (Int.ofNat M)), (42, .i .i64 (Int.ofNat k))]) (mkH [some s.o, some (.cells 49 5 [] (setAll .e 0 [.lr 2 1 0 s.n false, .lr 3 2 0 s.P.length false, .i .i64 (Int.ofNat s.wr),
  .i .i64 s.am, .b s.off])), some (rsR s), some (rsP s)])) (Orc.t (Orc.f (Orc.f (Orc.f (Orc.f (Orc.f (Orc.t (Orc.cal [0] (AV.i .i64 (reE s)) [Upd.set (SS.o (revS s (II k) (TT k)))]
  (Orc.cal [1, 2, 3] (AV.i .i64 (reE s)) [Upd.set (rsA 2 (revS s (II k) (TT k))), Upd.set (rsR (revS s (II k) (TT k))), Upd.set (rsP (revS s (II k) (TT k)))] (Orc.t (Orc.t (Orc.cal
  [0] (AV.b (SS.off (revS s (II k) (TT k)))) [Upd.keep] (Orc.t (Orc.t (Orc.t (Orc.t (Orc.t (Orc.f (Orc.t (Orc.t (Orc.cal [0] (AV.i .i64 (Int.ofNat (List.length (SS.P (revS s (II k)
  (TT k)))))) [Upd.keep] (Orc.t (Orc.t (Orc.cal [1, 2, 3] (AV.i .i64 (Int.ofNat (List.length (SS.P (revS s (II k) (TT k)))))) [Upd.keep, Upd.keep, Upd.keep] (Orc.t (Orc.f (Orc.t
  (Orc.t (Orc.cal [0] (AV.i .i64 (Int.ofNat (SS.wr (revS s (II k) (TT k))))) [Upd.keep] (Orc.t (Orc.t (Orc.t (Orc.t (Orc.t (Orc.f (Orc.t (Orc.t (Orc.cal [0] (AV.i .i64 (Int.ofNat
  (SS.n (revS s (II k) (TT k))))) [Upd.keep] (Orc.t (Orc.t (Orc.t (Orc.t (Orc.t (Orc.t (Orc.f (Orc.f Orc.z)))))))))))))))))))))))))))))))))))))))))))))) K = (decide (Int.ofNat k <
  Int.ofNat M) = true ∧ ((0 : Int) ≤ Int.ofNat k ∧ Int.ofNat k < ↑M) ∧ True ∧ decide ((400 : Int) < Int.ofNat k) = false ∧ True ∧ decide (KK k = (1 : Int)) = false ∧ decide (KK k =
  (2 : Int)) = false ∧ decide (KK k = (3 : Int)) = false ∧ decide (KK k = (4 : Int)) = false ∧ decide (KK k = (5 : Int)) = true ∧ True ∧ True ∧ Con Try.prog 15 [AV.p 0 0, AV.i .i64
  (II k), AV.b (TT k)] [some (SS.o s)] (AV.i .i64 (reE s)) [Upd.set (SS.o (revS s (II k) (TT k)))] ∧ True ∧ True ∧ Con Try.prog 16 [AV.p 0 0, AV.i .i64 (II k), AV.b (TT k)] [some
  (rsA 2 s), some (rsR s), some (rsP s)] (AV.i .i64 (reE s)) [Upd.set (rsA 2 (revS s (II k) (TT k))), Upd.set (rsR (revS s (II k) (TT k))), Upd.set (rsP (revS s (II k) (TT k)))] ∧
  True ∧ (!!decide (reE s = reE s)) = true ∧ (!!decide (reE s = reE s)) = true ∧ Con Try.prog 20 [AV.p 0 0] [some (SS.o (revS s (II k) (TT k)))] (AV.b (SS.off (revS s (II k) (TT
  k)))) [Upd.keep] ∧ (!!decide (reE s = reE s)) = true ∧ (!!decide (reE s = reE s)) = true ∧ (!!decide (reE s = reE s)) = true ∧ True ∧ (!!decide (reE s = reE s)) = true ∧ (!!decide
  (reE s = reE s)) = true ∧ True ∧ (!decide (reE s = reE s)) = false ∧ (!!SS.off (revS s (II k) (TT k)) == SS.off (revS s (II k) (TT k))) = true ∧ (!!SS.off (revS s (II k) (TT k))
  == SS.off (revS s (II k) (TT k))) = true ∧ Con Try.prog 21 [AV.p 0 0] [some (SS.o (revS s (II k) (TT k)))] (AV.i .i64 (Int.ofNat (List.length (SS.P (revS s (II k) (TT k))))))
  [Upd.keep] ∧ (!!SS.off (revS s (II k) (TT k)) == SS.off (revS s (II k) (TT k))) = true ∧ (!!SS.off (revS s (II k) (TT k)) == SS.off (revS s (II k) (TT k))) = true ∧ Con Try.prog
  22 [AV.p 0 0] [some (rsA 2 (revS s (II k) (TT k))), some (rsR (revS s (II k) (TT k))), some (rsP (revS s (II k) (TT k)))] (AV.i .i64 (Int.ofNat (List.length (SS.P (revS s (II k)
  (TT k)))))) [Upd.keep, Upd.keep, Upd.keep] ∧ (!!SS.off (revS s (II k) (TT k)) == SS.off (revS s (II k) (TT k))) = true ∧ (!SS.off (revS s (II k) (TT k)) == SS.off (revS s (II k)
  (TT k))) = false ∧ (!!decide (Int.ofNat (List.length (SS.P (revS s (II k) (TT k)))) = Int.ofNat (List.length (SS.P (revS s (II k) (TT k)))))) = true ∧ (!!decide (Int.ofNat
  (List.length (SS.P (revS s (II k) (TT k)))) = Int.ofNat (List.length (SS.P (revS s (II k) (TT k)))))) = true ∧ Con Try.prog 23 [AV.p 0 0] [some (SS.o (revS s (II k) (TT k)))]
  (AV.i .i64 (Int.ofNat (SS.wr (revS s (II k) (TT k))))) [Upd.keep] ∧ (!!decide (Int.ofNat (List.length (SS.P (revS s (II k) (TT k)))) = Int.ofNat (List.length (SS.P (revS s (II k)
  (TT k)))))) = true ∧ (!!decide (Int.ofNat (List.length (SS.P (revS s (II k) (TT k)))) = Int.ofNat (List.length (SS.P (revS s (II k) (TT k)))))) = true ∧ (!!decide (Int.ofNat
  (List.length (SS.P (revS s (II k) (TT k)))) = Int.ofNat (List.length (SS.P (revS s (II k) (TT k)))))) = true ∧ True ∧ (!!decide (Int.ofNat (List.length (SS.P (revS s (II k) (TT
  k)))) = Int.ofNat (List.length (SS.P (revS s (II k) (TT k)))))) = true ∧ (!!decide (Int.ofNat (List.length (SS.P (revS s (II k) (TT k)))) = Int.ofNat (List.length (SS.P (revS s
  (II k) (TT k)))))) = true ∧ (!decide (Int.ofNat (List.length (SS.P (revS s (II k) (TT k)))) = Int.ofNat (List.length (SS.P (revS s (II k) (TT k)))))) = false ∧ (!!decide
  (Int.ofNat (SS.wr (revS s (II k) (TT k))) = Int.ofNat (SS.wr (revS s (II k) (TT k))))) = true ∧ (!!decide (Int.ofNat (SS.wr (revS s (II k) (TT k))) = Int.ofNat (SS.wr (revS s (II
  k) (TT k))))) = true ∧ Con Try.prog 24 [AV.p 0 0] [some (SS.o (revS s (II k) (TT k)))] (AV.i .i64 (Int.ofNat (SS.n (revS s (II k) (TT k))))) [Upd.keep] ∧ (!!decide (Int.ofNat
  (SS.wr (revS s (II k) (TT k))) = Int.ofNat (SS.wr (revS s (II k) (TT k))))) = true ∧ (!!decide (Int.ofNat (SS.wr (revS s (II k) (TT k))) = Int.ofNat (SS.wr (revS s (II k) (TT
  k))))) = true ∧ (!!decide (Int.ofNat (SS.wr (revS s (II k) (TT k))) = Int.ofNat (SS.wr (revS s (II k) (TT k))))) = true ∧ True ∧ (!!decide (Int.ofNat (SS.wr (revS s (II k) (TT
  k))) = Int.ofNat (SS.wr (revS s (II k) (TT k))))) = true ∧ (!!decide (Int.ofNat (SS.wr (revS s (II k) (TT k))) = Int.ofNat (SS.wr (revS s (II k) (TT k))))) = true ∧ (!!decide
  (Int.ofNat (SS.wr (revS s (II k) (TT k))) = Int.ofNat (SS.wr (revS s (II k) (TT k))))) = true ∧ (!decide (Int.ofNat (SS.wr (revS s (II k) (TT k))) = Int.ofNat (SS.wr (revS s (II
  k) (TT k))))) = false ∧ (!decide (Int.ofNat (SS.n (revS s (II k) (TT k))) = Int.ofNat (SS.n (revS s (II k) (TT k))))) = false ∧ ((-9223372036854775808 : Int) ≤ Int.ofNat k + (1 :
  Int) ∧ Int.ofNat k + (1 : Int) ≤ (9223372036854775807 : Int)) ∧ K (Res.st XO.nrm (z0 (z0 (z0 (z1 (AV.p 1 0) (z0 (z0 (z0 (zl (AV.p 1 0)) T.e) (z0 (zl (AV.b !decide (Int.ofNat
  (SS.wr (revS s (II k) (TT k))) = Int.ofNat (SS.wr (revS s (II k) (TT k)))))) T.e)) (z1 (AV.i .i64 (Int.ofNat k)) (z0 (zl (AV.b !SS.off (revS s (II k) (TT k)) == SS.off (revS s (II
  k) (TT k)))) T.e) T.e)) (z0 (z0 (z1 (AV.b (decide (KK k = (1 : Int)))) (zl (AV.b !decide (reE s = reE s))) T.e) (z1 (AV.b (decide (KK k = (3 : Int)))) (zl (AV.lr 2 1 0 (SS.n (revS
  s (II k) (TT k))) false)) T.e)) (z0 (z0 (zl (AV.b !decide (Int.ofNat (List.length (SS.P (revS s (II k) (TT k)))) = Int.ofNat (List.length (SS.P (revS s (II k) (TT k))))))) T.e)
  (zl (AV.b (decide (KK k = (5 : Int)))))))) (z1 (AV.b (decide (reE s = reE s))) (z0 (z0 (z0 (zl (AV.b (TT k))) T.e) (z0 (zl (AV.i .i64 (Int.ofNat (SS.n (revS s (II k) (TT k))))))
  T.e)) (z0 (z0 (zl (AV.i .i64 (Int.ofNat (List.length (SS.P (revS s (II k) (TT k))))))) T.e) T.e)) (z0 (z1 (AV.b (decide (Int.ofNat k < Int.ofNat M))) (z0 (zl (AV.p 1 0)) T.e) (z0
  (zl (AV.i .i64 (Int.ofNat k + (1 : Int)))) T.e)) (z0 (z0 (zl (AV.p 1 0)) T.e) (zl (AV.i .i64 (II k))))))) (z1 (AV.p 0 0) (z1 (AV.i .i64 (Int.ofNat k)) (z0 (z0 (z0 (zl (AV.i .i64
  (II k))) T.e) (z1 (AV.b (decide (KK k = (2 : Int)))) (zl (AV.b !decide (Int.ofNat (SS.wr (revS s (II k) (TT k))) = Int.ofNat (SS.wr (revS s (II k) (TT k)))))) T.e)) (z1 (AV.p 4 0)
  (z0 (zl (AV.b !SS.off (revS s (II k) (TT k)) == SS.off (revS s (II k) (TT k)))) T.e) (zl (AV.b (decide (KK k = (4 : Int))))))) (z0 (z1 (AV.i .i64 (Int.ofNat M)) (z0 (zl (AV.p 0
  0)) T.e) (z0 (zl (AV.b !decide (Int.ofNat (SS.n (revS s (II k) (TT k))) = Int.ofNat (SS.n (revS s (II k) (TT k)))))) T.e)) (z0 (z0 (zl (AV.p 0 0)) T.e) (zl (AV.p 0 0))))) (z0 (z0
  (z0 (z0 (zl (AV.b (decide (reE s = reE s)))) T.e) (z0 (zl (AV.p 1 0)) T.e)) (z0 (z0 (zl (AV.i .i64 (Int.ofNat (List.length (SS.P (revS s (II k) (TT k))))))) T.e) T.e)) (z0 (z1
  (AV.pv 5 (opF KK II FF LL TT k)) (z0 (zl (AV.p 1 4)) T.e) T.e) (z0 (z0 (zl (AV.p 1 2)) T.e) (zl (AV.b (TT k)))))))) (z0 (z0 (z0 (z0 (z0 (z0 (zl (AV.p 4 1)) T.e) (z1 (AV.b (decide
  (KK k = (2 : Int)))) (zl (AV.b !decide (Int.ofNat (SS.wr (revS s (II k) (TT k))) = Int.ofNat (SS.wr (revS s (II k) (TT k)))))) T.e)) (z1 (AV.b (decide ((400 : Int) < Int.ofNat
  k))) (z0 (zl (AV.b !SS.off (revS s (II k) (TT k)) == SS.off (revS s (II k) (TT k)))) T.e) T.e)) (z0 (z1 (AV.sv 5 M (opF KK II FF LL TT)) (z0 (zl (AV.b !decide (reE s = reE s)))
  T.e) (z1 (AV.b (decide (KK k = (3 : Int)))) (zl (AV.i .i64 (Int.ofNat (SS.n (revS s (II k) (TT k)))))) T.e)) (z0 (z0 (zl (AV.b !decide (Int.ofNat (List.length (SS.P (revS s (II k)
  (TT k)))) = Int.ofNat (List.length (SS.P (revS s (II k) (TT k))))))) T.e) (zl (AV.b (decide (KK k = (5 : Int)))))))) (z0 (z0 (z0 (z0 (zl (AV.i .i64 (reE s))) T.e) (z0 (zl (AV.p 1
  0)) T.e)) (z0 (z0 (zl (AV.p 1 0)) T.e) T.e)) (z0 (z1 (AV.i .i64 (Int.ofNat k)) (z0 (zl (AV.p 1 0)) T.e) T.e) (z0 (z0 (zl (AV.p 1 0)) T.e) (zl (AV.p 4 4)))))) (z0 (z1 (AV.p 4 0)
  (z0 (z0 (z0 (zl (AV.p 4 4)) T.e) (z0 (zl (AV.p 0 0)) T.e)) (z1 (AV.i .i64 (KK k)) (z0 (zl (AV.p 0 0)) T.e) (zl (AV.b (decide (KK k = (4 : Int))))))) (z0 (z1 (AV.i .i64 (Int.ofNat
  k + (1 : Int))) (z0 (zl (AV.b (SS.off (revS s (II k) (TT k))))) T.e) (z0 (zl (AV.b !decide (Int.ofNat (SS.n (revS s (II k) (TT k))) = Int.ofNat (SS.n (revS s (II k) (TT k))))))
  T.e)) (z0 (z0 (zl (AV.i .i64 (Int.ofNat (SS.wr (revS s (II k) (TT k)))))) T.e) (zl (AV.p 4 1))))) (z0 (z0 (z0 (z1 (AV.b (decide (KK k = (1 : Int)))) (zl (AV.b (decide (reE s = reE
  s)))) T.e) (z0 (zl (AV.p 1 0)) T.e)) (z0 (z0 (zl (AV.b !decide (Int.ofNat (List.length (SS.P (revS s (II k) (TT k)))) = Int.ofNat (List.length (SS.P (revS s (II k) (TT k)))))))
  T.e) T.e)) (z0 (z1 (AV.agg [AV.i .i64 (KK k), AV.i .i64 (II k), AV.i .u8 (FF k), AV.i .i64 (LL k), AV.b (TT k)]) (z0 (zl (AV.b (SS.off (revS s (II k) (TT k))))) T.e) T.e) (z0 (z0
  (zl (AV.i .i64 (Int.ofNat (SS.wr (revS s (II k) (TT k)))))) T.e) (zl (AV.i .i64 (reE s))))))))) { tree := z1 (AObj.segs 63 33799 [{ st := 0, sz := 1, n := 1, f := oneF (CV.i .i64 (Int.ofNat (SS.n (revS s (II k) (TT k))))) }, { st := 1, sz := 65, n := 512, f := durF (SS.dur (revS s (II k) (TT k))) (SS.torn (revS s (II k) (TT k))) }, { st := 33281, sz := 1, n := 1, f := oneF (CV.opv (pB (SS.P (revS s (II k) (TT k)))) 66 (pW (SS.P (revS s (II k) (TT k))))) }, { st := 33282, sz := 1, n := 512, f := latF (lB (SS.P (revS s (II k) (TT k)))) (lW (SS.P (revS s (II k) (TT k)))) }, { st := 33794, sz := 5, n := 1, f := tailF (Int.ofNat (List.length (SS.P (revS s (II k) (TT k))))) (Int.ofNat (SS.wr (revS s (II k) (TT k)))) (SS.off (revS s (II k) (TT k))) (SS.armed (revS s (II k) (TT k))) (Int.ofNat (SS.left (revS s (II k) (TT k)))) }]) (z1 (AObj.cells 49 5 [] (z1 (AV.lr 2 1 0 (SS.n (revS s (II k) (TT k))) false) (z1 (AV.lr 3 2 0 (List.length (SS.P (revS s (II k) (TT k)))) false) (zl (AV.i .i64 (SS.am (revS s (II k) (TT k))))) T.e) (z1 (AV.i .i64 (Int.ofNat (SS.wr (revS s (II k) (TT k))))) (zl (AV.b (SS.off (revS s (II k) (TT k))))) T.e))) (zl (AObj.rows 69 2 (List.length (SS.P (revS s (II k) (TT k)))) (penF (oA (SS.P (revS s (II k) (TT k)))) (oB (SS.P (revS s (II k) (TT k))))))) T.e) (z1 (AObj.rows 33 1 (SS.n (revS s (II k) (TT k))) (imgF (revS s (II k) (TT k)))) (zl (AObj.cells 32 5 [AV.i .i64 (0 : Int), AV.i .i64 (0 : Int), AV.i .u8 (0 : Int), AV.i .i64 (0 : Int), AV.b false] (z1 (AV.i .i64 (KK k)) (z1 (AV.i .i64 (II k)) (zl (AV.i .i64 (LL k))) T.e) (z1 (AV.i .u8 (FF k)) (zl (AV.b (TT k))) T.e)))) T.e), next := 5, log := [3, 2, 1, 0, 4, 4] })
  Orc.z) := by kernel_rfl

theorem playA_vc (s : SS) (M k : Nat) (KK II FF LL : Nat → Int) (TT : Nat → Bool) (h0 : decide (Int.ofNat k < Int.ofNat M) = true) (h4 : decide ((400 : Int) < Int.ofNat k) = false)
  (n1 : decide (KK k = (1 : Int)) = false) (n2 : decide (KK k = (2 : Int)) = false) (n3 : decide (KK k = (3 : Int)) = false) (n4 : decide (KK k = (4 : Int)) = false) (n5 : decide
  (KK k = (5 : Int)) = false) (K : Res → Orc → Prop) : runK Try.prog 1000000 (.code (loopAt Try.prog 3 0) 179 (mkT [(5, .p 0 0), (7, .p 1 0), (40, .sv 5 M (opF KK II FF LL TT)),
  (41, .i .i64 (Int.ofNat M)), (42, .i .i64 (Int.ofNat k))]) (mkH [some s.o, some (.cells 49 5 [] (setAll .e 0 [.lr 2 1 0 s.n false, .lr 3 2 0 s.P.length false, .i .i64 (Int.ofNat
  s.wr), .i .i64 s.am, .b s.off])), some (rsR s), some (rsP s)])) (Orc.t (Orc.f (Orc.f (Orc.f (Orc.f (Orc.f (Orc.f (Orc.cal [] (AV.lr 0 1 0 (fN (LL k)) false) [Upd.set (AObj.rows 5
  1 (fN (LL k)) (fF (FF k)))] (Orc.cal [0, 5] (AV.i .i64 (wrE s (II k) (fN (LL k)))) [Upd.set (SS.o (wrS s (II k) (fN (LL k)) (FF k))), Upd.keep] (Orc.cal [] (AV.lr 0 1 0 (fN (LL
  k)) false) [Upd.set (AObj.rows 5 1 (fN (LL k)) (fF (FF k)))] (Orc.cal [1, 2, 3, 6] (AV.i .i64 (wrE s (II k) (fN (LL k)))) [Upd.set (rsA 4 (wrS s (II k) (fN (LL k)) (FF k))),
  Upd.set (rsR (wrS s (II k) (fN (LL k)) (FF k))), Upd.gone, Upd.gone, Upd.set (rsP (wrS s (II k) (fN (LL k)) (FF k)))] (Orc.t (Orc.t (Orc.cal [0] (AV.b (SS.off (wrS s (II k) (fN
  (LL k)) (FF k)))) [Upd.keep] (Orc.t (Orc.t (Orc.t (Orc.t (Orc.t (Orc.f (Orc.t (Orc.t (Orc.cal [0] (AV.i .i64 (Int.ofNat (List.length (SS.P (wrS s (II k) (fN (LL k)) (FF k))))))
  [Upd.keep] (Orc.t (Orc.t (Orc.cal [1, 2, 7] (AV.i .i64 (Int.ofNat (List.length (SS.P (wrS s (II k) (fN (LL k)) (FF k)))))) [Upd.keep, Upd.keep, Upd.keep] (Orc.t (Orc.f (Orc.t
  (Orc.t (Orc.cal [0] (AV.i .i64 (Int.ofNat (SS.wr (wrS s (II k) (fN (LL k)) (FF k))))) [Upd.keep] (Orc.t (Orc.t (Orc.t (Orc.t (Orc.t (Orc.f (Orc.t (Orc.t (Orc.cal [0] (AV.i .i64
  (Int.ofNat (SS.n (wrS s (II k) (fN (LL k)) (FF k))))) [Upd.keep] (Orc.t (Orc.t (Orc.t (Orc.t (Orc.t (Orc.t (Orc.f (Orc.f Orc.z)))))))))))))))))))))))))))))))))))))))))))))))) K =
  (decide (Int.ofNat k < Int.ofNat M) = true ∧ ((0 : Int) ≤ Int.ofNat k ∧ Int.ofNat k < ↑M) ∧ True ∧ decide ((400 : Int) < Int.ofNat k) = false ∧ True ∧ decide (KK k = (1 : Int)) =
  false ∧ decide (KK k = (2 : Int)) = false ∧ decide (KK k = (3 : Int)) = false ∧ decide (KK k = (4 : Int)) = false ∧ decide (KK k = (5 : Int)) = false ∧ True ∧ True ∧ True ∧ Con
  Try.prog 18 [AV.i .u8 (FF k), AV.i .i64 (LL k)] [] (AV.lr 0 1 0 (fN (LL k)) false) [Upd.set (AObj.rows 5 1 (fN (LL k)) (fF (FF k)))] ∧ Con Try.prog 17 [AV.p 0 0, AV.i .i64 (II k),
  AV.lr 1 1 0 (fN (LL k)) false] [some (SS.o s), some (AObj.rows 5 1 (fN (LL k)) (fF (FF k)))] (AV.i .i64 (wrE s (II k) (fN (LL k)))) [Upd.set (SS.o (wrS s (II k) (fN (LL k)) (FF
  k))), Upd.keep] ∧ True ∧ True ∧ True ∧ Con Try.prog 18 [AV.i .u8 (FF k), AV.i .i64 (LL k)] [] (AV.lr 0 1 0 (fN (LL k)) false) [Upd.set (AObj.rows 5 1 (fN (LL k)) (fF (FF k)))] ∧
  Con Try.prog 19 [AV.p 0 0, AV.i .i64 (II k), AV.lr 3 1 0 (fN (LL k)) false] [some (rsA 2 s), some (rsR s), some (rsP s), some (AObj.rows 5 1 (fN (LL k)) (fF (FF k)))] (AV.i .i64
  (wrE s (II k) (fN (LL k)))) [Upd.set (rsA 4 (wrS s (II k) (fN (LL k)) (FF k))), Upd.set (rsR (wrS s (II k) (fN (LL k)) (FF k))), Upd.gone, Upd.gone, Upd.set (rsP (wrS s (II k) (fN
  (LL k)) (FF k)))] ∧ True ∧ (!!decide (wrE s (II k) (fN (LL k)) = wrE s (II k) (fN (LL k)))) = true ∧ (!!decide (wrE s (II k) (fN (LL k)) = wrE s (II k) (fN (LL k)))) = true ∧ Con
  Try.prog 20 [AV.p 0 0] [some (SS.o (wrS s (II k) (fN (LL k)) (FF k)))] (AV.b (SS.off (wrS s (II k) (fN (LL k)) (FF k)))) [Upd.keep] ∧ (!!decide (wrE s (II k) (fN (LL k)) = wrE s
  (II k) (fN (LL k)))) = true ∧ (!!decide (wrE s (II k) (fN (LL k)) = wrE s (II k) (fN (LL k)))) = true ∧ (!!decide (wrE s (II k) (fN (LL k)) = wrE s (II k) (fN (LL k)))) = true ∧
  True ∧ (!!decide (wrE s (II k) (fN (LL k)) = wrE s (II k) (fN (LL k)))) = true ∧ (!!decide (wrE s (II k) (fN (LL k)) = wrE s (II k) (fN (LL k)))) = true ∧ True ∧ (!decide (wrE s
  (II k) (fN (LL k)) = wrE s (II k) (fN (LL k)))) = false ∧ (!!SS.off (wrS s (II k) (fN (LL k)) (FF k)) == SS.off (wrS s (II k) (fN (LL k)) (FF k))) = true ∧ (!!SS.off (wrS s (II k)
  (fN (LL k)) (FF k)) == SS.off (wrS s (II k) (fN (LL k)) (FF k))) = true ∧ Con Try.prog 21 [AV.p 0 0] [some (SS.o (wrS s (II k) (fN (LL k)) (FF k)))] (AV.i .i64 (Int.ofNat
  (List.length (SS.P (wrS s (II k) (fN (LL k)) (FF k)))))) [Upd.keep] ∧ (!!SS.off (wrS s (II k) (fN (LL k)) (FF k)) == SS.off (wrS s (II k) (fN (LL k)) (FF k))) = true ∧ (!!SS.off
  (wrS s (II k) (fN (LL k)) (FF k)) == SS.off (wrS s (II k) (fN (LL k)) (FF k))) = true ∧ Con Try.prog 22 [AV.p 0 0] [some (rsA 2 (wrS s (II k) (fN (LL k)) (FF k))), some (rsR (wrS
  s (II k) (fN (LL k)) (FF k))), some (rsP (wrS s (II k) (fN (LL k)) (FF k)))] (AV.i .i64 (Int.ofNat (List.length (SS.P (wrS s (II k) (fN (LL k)) (FF k)))))) [Upd.keep, Upd.keep,
  Upd.keep] ∧ (!!SS.off (wrS s (II k) (fN (LL k)) (FF k)) == SS.off (wrS s (II k) (fN (LL k)) (FF k))) = true ∧ (!SS.off (wrS s (II k) (fN (LL k)) (FF k)) == SS.off (wrS s (II k)
  (fN (LL k)) (FF k))) = false ∧ (!!decide (Int.ofNat (List.length (SS.P (wrS s (II k) (fN (LL k)) (FF k)))) = Int.ofNat (List.length (SS.P (wrS s (II k) (fN (LL k)) (FF k)))))) =
  true ∧ (!!decide (Int.ofNat (List.length (SS.P (wrS s (II k) (fN (LL k)) (FF k)))) = Int.ofNat (List.length (SS.P (wrS s (II k) (fN (LL k)) (FF k)))))) = true ∧ Con Try.prog 23
  [AV.p 0 0] [some (SS.o (wrS s (II k) (fN (LL k)) (FF k)))] (AV.i .i64 (Int.ofNat (SS.wr (wrS s (II k) (fN (LL k)) (FF k))))) [Upd.keep] ∧ (!!decide (Int.ofNat (List.length (SS.P
  (wrS s (II k) (fN (LL k)) (FF k)))) = Int.ofNat (List.length (SS.P (wrS s (II k) (fN (LL k)) (FF k)))))) = true ∧ (!!decide (Int.ofNat (List.length (SS.P (wrS s (II k) (fN (LL k))
  (FF k)))) = Int.ofNat (List.length (SS.P (wrS s (II k) (fN (LL k)) (FF k)))))) = true ∧ (!!decide (Int.ofNat (List.length (SS.P (wrS s (II k) (fN (LL k)) (FF k)))) = Int.ofNat
  (List.length (SS.P (wrS s (II k) (fN (LL k)) (FF k)))))) = true ∧ True ∧ (!!decide (Int.ofNat (List.length (SS.P (wrS s (II k) (fN (LL k)) (FF k)))) = Int.ofNat (List.length (SS.P
  (wrS s (II k) (fN (LL k)) (FF k)))))) = true ∧ (!!decide (Int.ofNat (List.length (SS.P (wrS s (II k) (fN (LL k)) (FF k)))) = Int.ofNat (List.length (SS.P (wrS s (II k) (fN (LL k))
  (FF k)))))) = true ∧ (!decide (Int.ofNat (List.length (SS.P (wrS s (II k) (fN (LL k)) (FF k)))) = Int.ofNat (List.length (SS.P (wrS s (II k) (fN (LL k)) (FF k)))))) = false ∧
  (!!decide (Int.ofNat (SS.wr (wrS s (II k) (fN (LL k)) (FF k))) = Int.ofNat (SS.wr (wrS s (II k) (fN (LL k)) (FF k))))) = true ∧ (!!decide (Int.ofNat (SS.wr (wrS s (II k) (fN (LL
  k)) (FF k))) = Int.ofNat (SS.wr (wrS s (II k) (fN (LL k)) (FF k))))) = true ∧ Con Try.prog 24 [AV.p 0 0] [some (SS.o (wrS s (II k) (fN (LL k)) (FF k)))] (AV.i .i64 (Int.ofNat
  (SS.n (wrS s (II k) (fN (LL k)) (FF k))))) [Upd.keep] ∧ (!!decide (Int.ofNat (SS.wr (wrS s (II k) (fN (LL k)) (FF k))) = Int.ofNat (SS.wr (wrS s (II k) (fN (LL k)) (FF k))))) =
  true ∧ (!!decide (Int.ofNat (SS.wr (wrS s (II k) (fN (LL k)) (FF k))) = Int.ofNat (SS.wr (wrS s (II k) (fN (LL k)) (FF k))))) = true ∧ (!!decide (Int.ofNat (SS.wr (wrS s (II k)
  (fN (LL k)) (FF k))) = Int.ofNat (SS.wr (wrS s (II k) (fN (LL k)) (FF k))))) = true ∧ True ∧ (!!decide (Int.ofNat (SS.wr (wrS s (II k) (fN (LL k)) (FF k))) = Int.ofNat (SS.wr (wrS
  s (II k) (fN (LL k)) (FF k))))) = true ∧ (!!decide (Int.ofNat (SS.wr (wrS s (II k) (fN (LL k)) (FF k))) = Int.ofNat (SS.wr (wrS s (II k) (fN (LL k)) (FF k))))) = true ∧ (!!decide
  (Int.ofNat (SS.wr (wrS s (II k) (fN (LL k)) (FF k))) = Int.ofNat (SS.wr (wrS s (II k) (fN (LL k)) (FF k))))) = true ∧ (!decide (Int.ofNat (SS.wr (wrS s (II k) (fN (LL k)) (FF k)))
  = Int.ofNat (SS.wr (wrS s (II k) (fN (LL k)) (FF k))))) = false ∧ (!decide (Int.ofNat (SS.n (wrS s (II k) (fN (LL k)) (FF k))) = Int.ofNat (SS.n (wrS s (II k) (fN (LL k)) (FF
  k))))) = false ∧ ((-9223372036854775808 : Int) ≤ Int.ofNat k + (1 : Int) ∧ Int.ofNat k + (1 : Int) ≤ (9223372036854775807 : Int)) ∧ K (Res.st XO.nrm (z0 (z0 (z0 (z1 (AV.p 1 0) (z0
  (z0 (zl (AV.p 4 2)) (z0 (zl (AV.b !decide (Int.ofNat (SS.wr (wrS s (II k) (fN (LL k)) (FF k))) = Int.ofNat (SS.wr (wrS s (II k) (fN (LL k)) (FF k)))))) T.e)) (z1 (AV.i .i64
  (Int.ofNat k)) (z0 (zl (AV.b !SS.off (wrS s (II k) (fN (LL k)) (FF k)) == SS.off (wrS s (II k) (fN (LL k)) (FF k)))) T.e) T.e)) (z0 (z0 (z1 (AV.b (decide (KK k = (1 : Int)))) (zl
  (AV.b !decide (wrE s (II k) (fN (LL k)) = wrE s (II k) (fN (LL k))))) T.e) (z1 (AV.b (decide (KK k = (3 : Int)))) (zl (AV.lr 2 1 0 (SS.n (wrS s (II k) (fN (LL k)) (FF k))) false))
  T.e)) (z1 (AV.i .u8 (FF k)) (z0 (zl (AV.b !decide (Int.ofNat (List.length (SS.P (wrS s (II k) (fN (LL k)) (FF k)))) = Int.ofNat (List.length (SS.P (wrS s (II k) (fN (LL k)) (FF
  k))))))) T.e) (zl (AV.b (decide (KK k = (5 : Int)))))))) (z1 (AV.b (decide (wrE s (II k) (fN (LL k)) = wrE s (II k) (fN (LL k))))) (z0 (z0 (zl (AV.lr 6 1 0 (fN (LL k)) false)) (z0
  (zl (AV.i .i64 (Int.ofNat (SS.n (wrS s (II k) (fN (LL k)) (FF k)))))) T.e)) (z1 (AV.p 0 0) (z0 (zl (AV.i .i64 (Int.ofNat (List.length (SS.P (wrS s (II k) (fN (LL k)) (FF k)))))))
  T.e) T.e)) (z0 (z1 (AV.b (decide (Int.ofNat k < Int.ofNat M))) (z0 (zl (AV.p 1 0)) T.e) (z0 (zl (AV.i .i64 (Int.ofNat k + (1 : Int)))) T.e)) (z1 (AV.i .i64 (wrE s (II k) (fN (LL
  k)))) (z0 (zl (AV.p 1 0)) T.e) T.e)))) (z1 (AV.p 0 0) (z1 (AV.i .i64 (Int.ofNat k)) (z0 (z0 (zl (AV.p 4 3)) (z1 (AV.b (decide (KK k = (2 : Int)))) (zl (AV.b !decide (Int.ofNat
  (SS.wr (wrS s (II k) (fN (LL k)) (FF k))) = Int.ofNat (SS.wr (wrS s (II k) (fN (LL k)) (FF k)))))) T.e)) (z1 (AV.p 4 0) (z0 (zl (AV.b !SS.off (wrS s (II k) (fN (LL k)) (FF k)) ==
  SS.off (wrS s (II k) (fN (LL k)) (FF k)))) T.e) (zl (AV.b (decide (KK k = (4 : Int))))))) (z0 (z1 (AV.i .i64 (Int.ofNat M)) (z0 (zl (AV.p 0 0)) T.e) (z0 (zl (AV.b !decide
  (Int.ofNat (SS.n (wrS s (II k) (fN (LL k)) (FF k))) = Int.ofNat (SS.n (wrS s (II k) (fN (LL k)) (FF k)))))) T.e)) (z1 (AV.i .i64 (LL k)) (z0 (zl (AV.p 0 0)) T.e) T.e))) (z0 (z0
  (z0 (zl (AV.b (decide (wrE s (II k) (fN (LL k)) = wrE s (II k) (fN (LL k)))))) (z0 (zl (AV.p 1 0)) T.e)) (z1 (AV.i .i64 (II k)) (z0 (zl (AV.i .i64 (Int.ofNat (List.length (SS.P
  (wrS s (II k) (fN (LL k)) (FF k))))))) T.e) T.e)) (z0 (z1 (AV.pv 5 (opF KK II FF LL TT k)) (z0 (zl (AV.p 1 4)) T.e) T.e) (z1 (AV.p 4 1) (z0 (zl (AV.p 1 2)) T.e) T.e))))) (z0 (z0
  (z0 (z0 (z0 (zl (AV.i .u8 (FF k))) (z1 (AV.b (decide (KK k = (2 : Int)))) (zl (AV.b !decide (Int.ofNat (SS.wr (wrS s (II k) (fN (LL k)) (FF k))) = Int.ofNat (SS.wr (wrS s (II k)
  (fN (LL k)) (FF k)))))) T.e)) (z1 (AV.b (decide ((400 : Int) < Int.ofNat k))) (z0 (zl (AV.b !SS.off (wrS s (II k) (fN (LL k)) (FF k)) == SS.off (wrS s (II k) (fN (LL k)) (FF k))))
  T.e) T.e)) (z0 (z1 (AV.sv 5 M (opF KK II FF LL TT)) (z0 (zl (AV.b !decide (wrE s (II k) (fN (LL k)) = wrE s (II k) (fN (LL k))))) T.e) (z1 (AV.b (decide (KK k = (3 : Int)))) (zl
  (AV.i .i64 (Int.ofNat (SS.n (wrS s (II k) (fN (LL k)) (FF k)))))) T.e)) (z1 (AV.p 4 3) (z0 (zl (AV.b !decide (Int.ofNat (List.length (SS.P (wrS s (II k) (fN (LL k)) (FF k)))) =
  Int.ofNat (List.length (SS.P (wrS s (II k) (fN (LL k)) (FF k))))))) T.e) (zl (AV.b (decide (KK k = (5 : Int)))))))) (z0 (z0 (z0 (zl (AV.i .i64 (wrE s (II k) (fN (LL k))))) (z0 (zl
  (AV.p 1 0)) T.e)) (z1 (AV.p 4 1) (z0 (zl (AV.p 1 0)) T.e) T.e)) (z0 (z1 (AV.i .i64 (Int.ofNat k)) (z0 (zl (AV.p 1 0)) T.e) T.e) (z1 (AV.p 1 0) (z0 (zl (AV.p 1 0)) T.e) T.e)))) (z0
  (z1 (AV.p 4 0) (z0 (z0 (zl (AV.i .i64 (LL k))) (z0 (zl (AV.p 0 0)) T.e)) (z1 (AV.i .i64 (KK k)) (z0 (zl (AV.p 0 0)) T.e) (zl (AV.b (decide (KK k = (4 : Int))))))) (z0 (z1 (AV.i
  .i64 (Int.ofNat k + (1 : Int))) (z0 (zl (AV.b (SS.off (wrS s (II k) (fN (LL k)) (FF k))))) T.e) (z0 (zl (AV.b !decide (Int.ofNat (SS.n (wrS s (II k) (fN (LL k)) (FF k))) =
  Int.ofNat (SS.n (wrS s (II k) (fN (LL k)) (FF k)))))) T.e)) (z1 (AV.lr 5 1 0 (fN (LL k)) false) (z0 (zl (AV.i .i64 (Int.ofNat (SS.wr (wrS s (II k) (fN (LL k)) (FF k)))))) T.e)
  T.e))) (z0 (z0 (z0 (z1 (AV.b (decide (KK k = (1 : Int)))) (zl (AV.b (decide (wrE s (II k) (fN (LL k)) = wrE s (II k) (fN (LL k)))))) T.e) (z0 (zl (AV.p 1 0)) T.e)) (z1 (AV.p 4 2)
  (z0 (zl (AV.b !decide (Int.ofNat (List.length (SS.P (wrS s (II k) (fN (LL k)) (FF k)))) = Int.ofNat (List.length (SS.P (wrS s (II k) (fN (LL k)) (FF k))))))) T.e) T.e)) (z0 (z1
  (AV.agg [AV.i .i64 (KK k), AV.i .i64 (II k), AV.i .u8 (FF k), AV.i .i64 (LL k), AV.b (TT k)]) (z0 (zl (AV.b (SS.off (wrS s (II k) (fN (LL k)) (FF k))))) T.e) T.e) (z1 (AV.i .i64
  (II k)) (z0 (zl (AV.i .i64 (Int.ofNat (SS.wr (wrS s (II k) (fN (LL k)) (FF k)))))) T.e) T.e)))))) { tree := z1 (AObj.segs 63 33799 [{ st := 0, sz := 1, n := 1, f := oneF (CV.i .i64 (Int.ofNat (SS.n (wrS s (II k) (fN (LL k)) (FF k))))) }, { st := 1, sz := 65, n := 512, f := durF (SS.dur (wrS s (II k) (fN (LL k)) (FF k))) (SS.torn (wrS s (II k) (fN (LL k)) (FF k))) }, { st := 33281, sz := 1, n := 1, f := oneF (CV.opv (pB (SS.P (wrS s (II k) (fN (LL k)) (FF k)))) 66 (pW (SS.P (wrS s (II k) (fN (LL k)) (FF k))))) }, { st := 33282, sz := 1, n := 512, f := latF (lB (SS.P (wrS s (II k) (fN (LL k)) (FF k)))) (lW (SS.P (wrS s (II k) (fN (LL k)) (FF k)))) }, { st := 33794, sz := 5, n := 1, f := tailF (Int.ofNat (List.length (SS.P (wrS s (II k) (fN (LL k)) (FF k))))) (Int.ofNat (SS.wr (wrS s (II k) (fN (LL k)) (FF k)))) (SS.off (wrS s (II k) (fN (LL k)) (FF k))) (SS.armed (wrS s (II k) (fN (LL k)) (FF k))) (Int.ofNat (SS.left (wrS s (II k) (fN (LL k)) (FF k)))) }]) (z1 (AObj.cells 49 5 [] (z1 (AV.lr 2 1 0 (SS.n (wrS s (II k) (fN (LL k)) (FF k))) false) (z1 (AV.lr 7 2 0 (List.length (SS.P (wrS s (II k) (fN (LL k)) (FF k)))) false) (zl (AV.i .i64 (SS.am (wrS s (II k) (fN (LL k)) (FF k))))) T.e) (z1 (AV.i .i64 (Int.ofNat (SS.wr (wrS s (II k) (fN (LL k)) (FF k))))) (zl (AV.b (SS.off (wrS s (II k) (fN (LL k)) (FF k))))) T.e))) (z0 (zl (AObj.rows 69 2 (List.length (SS.P (wrS s (II k) (fN (LL k)) (FF k)))) (penF (oA (SS.P (wrS s (II k) (fN (LL k)) (FF k)))) (oB (SS.P (wrS s (II k) (fN (LL k)) (FF k))))))) T.e) (zl (AObj.rows 5 1 (fN (LL k)) (fF (FF k))))) (z1 (AObj.rows 33 1 (SS.n (wrS s (II k) (fN (LL k)) (FF k))) (imgF (wrS s (II k) (fN (LL k)) (FF k)))) (zl (AObj.cells 32 5 [AV.i .i64 (0 : Int), AV.i .i64 (0 : Int), AV.i .u8 (0 : Int), AV.i .i64 (0 : Int), AV.b false] (z1 (AV.i .i64 (KK k)) (z1 (AV.i .i64 (II k)) (zl (AV.i .i64 (LL k))) T.e) (z1 (AV.i .u8 (FF k)) (zl (AV.b (TT k))) T.e)))) (z0 T.e T.e)), next := 8, log := [7, 6, 3, 2, 1, 6, 0, 5, 4, 4] })
  Orc.z) := by kernel_rfl

theorem playN_vc (s : SS) (M k : Nat) (KK II FF LL : Nat → Int) (TT : Nat → Bool) (h0 : decide (Int.ofNat k < Int.ofNat M) = true) (h4 : decide ((400 : Int) < Int.ofNat k) = false)
  (n1 : decide (KK k = (1 : Int)) = false) (n2 : decide (KK k = (2 : Int)) = false) (n3 : decide (KK k = (3 : Int)) = false) (n4 : decide (KK k = (4 : Int)) = false) (n5 : decide
  (KK k = (5 : Int)) = false) (K : Res → Orc → Prop) : runK Try.prog 1000000 (.code (loopAt Try.prog 3 0) 179 (mkT [(5, .p 0 0), (7, .p 1 0), (40, .sv 5 M (opF KK II FF LL TT)),
  (41, .i .i64 (Int.ofNat M)), (42, .i .i64 (Int.ofNat k))]) (mkH [some s.o, some (.cells 49 5 [] (setAll .e 0 [.lr 2 1 0 s.n false, .lr 3 2 0 s.P.length false, .i .i64 (Int.ofNat
  s.wr), .i .i64 s.am, .b s.off])), some (rsR s), some (rsP s)])) (Orc.t (Orc.f (Orc.f (Orc.f (Orc.f (Orc.f (Orc.f (Orc.cal [] (AV.lr 0 1 0 (fN (LL k)) false) [Upd.set (AObj.rows 5
  1 (fN (LL k)) (fF (FF k)))] (Orc.cal [0, 5] (AV.i .i64 (wrE s (II k) (fN (LL k)))) [Upd.set (SS.o (wrS s (II k) (fN (LL k)) (FF k))), Upd.keep] (Orc.cal [] (AV.lr 0 1 0 (fN (LL
  k)) false) [Upd.set (AObj.rows 5 1 (fN (LL k)) (fF (FF k)))] (Orc.cal [1, 2, 3, 6] (AV.i .i64 (wrE s (II k) (fN (LL k)))) [Upd.set (rsA 2 (wrS s (II k) (fN (LL k)) (FF k))),
  Upd.set (rsR (wrS s (II k) (fN (LL k)) (FF k))), Upd.set (rsP (wrS s (II k) (fN (LL k)) (FF k))), Upd.keep] (Orc.t (Orc.t (Orc.cal [0] (AV.b (SS.off (wrS s (II k) (fN (LL k)) (FF
  k)))) [Upd.keep] (Orc.t (Orc.t (Orc.t (Orc.t (Orc.t (Orc.f (Orc.t (Orc.t (Orc.cal [0] (AV.i .i64 (Int.ofNat (List.length (SS.P (wrS s (II k) (fN (LL k)) (FF k)))))) [Upd.keep]
  (Orc.t (Orc.t (Orc.cal [1, 2, 3] (AV.i .i64 (Int.ofNat (List.length (SS.P (wrS s (II k) (fN (LL k)) (FF k)))))) [Upd.keep, Upd.keep, Upd.keep] (Orc.t (Orc.f (Orc.t (Orc.t (Orc.cal
  [0] (AV.i .i64 (Int.ofNat (SS.wr (wrS s (II k) (fN (LL k)) (FF k))))) [Upd.keep] (Orc.t (Orc.t (Orc.t (Orc.t (Orc.t (Orc.f (Orc.t (Orc.t (Orc.cal [0] (AV.i .i64 (Int.ofNat (SS.n
  (wrS s (II k) (fN (LL k)) (FF k))))) [Upd.keep] (Orc.t (Orc.t (Orc.t (Orc.t (Orc.t (Orc.t (Orc.f (Orc.f Orc.z)))))))))))))))))))))))))))))))))))))))))))))))) K = (decide
  (Int.ofNat k < Int.ofNat M) = true ∧ ((0 : Int) ≤ Int.ofNat k ∧ Int.ofNat k < ↑M) ∧ True ∧ decide ((400 : Int) < Int.ofNat k) = false ∧ True ∧ decide (KK k = (1 : Int)) = false ∧
  decide (KK k = (2 : Int)) = false ∧ decide (KK k = (3 : Int)) = false ∧ decide (KK k = (4 : Int)) = false ∧ decide (KK k = (5 : Int)) = false ∧ True ∧ True ∧ True ∧ Con Try.prog
  18 [AV.i .u8 (FF k), AV.i .i64 (LL k)] [] (AV.lr 0 1 0 (fN (LL k)) false) [Upd.set (AObj.rows 5 1 (fN (LL k)) (fF (FF k)))] ∧ Con Try.prog 17 [AV.p 0 0, AV.i .i64 (II k), AV.lr 1
  1 0 (fN (LL k)) false] [some (SS.o s), some (AObj.rows 5 1 (fN (LL k)) (fF (FF k)))] (AV.i .i64 (wrE s (II k) (fN (LL k)))) [Upd.set (SS.o (wrS s (II k) (fN (LL k)) (FF k))),
  Upd.keep] ∧ True ∧ True ∧ True ∧ Con Try.prog 18 [AV.i .u8 (FF k), AV.i .i64 (LL k)] [] (AV.lr 0 1 0 (fN (LL k)) false) [Upd.set (AObj.rows 5 1 (fN (LL k)) (fF (FF k)))] ∧ Con
  Try.prog 19 [AV.p 0 0, AV.i .i64 (II k), AV.lr 3 1 0 (fN (LL k)) false] [some (rsA 2 s), some (rsR s), some (rsP s), some (AObj.rows 5 1 (fN (LL k)) (fF (FF k)))] (AV.i .i64 (wrE
  s (II k) (fN (LL k)))) [Upd.set (rsA 2 (wrS s (II k) (fN (LL k)) (FF k))), Upd.set (rsR (wrS s (II k) (fN (LL k)) (FF k))), Upd.set (rsP (wrS s (II k) (fN (LL k)) (FF k))),
  Upd.keep] ∧ True ∧ (!!decide (wrE s (II k) (fN (LL k)) = wrE s (II k) (fN (LL k)))) = true ∧ (!!decide (wrE s (II k) (fN (LL k)) = wrE s (II k) (fN (LL k)))) = true ∧ Con Try.prog
  20 [AV.p 0 0] [some (SS.o (wrS s (II k) (fN (LL k)) (FF k)))] (AV.b (SS.off (wrS s (II k) (fN (LL k)) (FF k)))) [Upd.keep] ∧ (!!decide (wrE s (II k) (fN (LL k)) = wrE s (II k) (fN
  (LL k)))) = true ∧ (!!decide (wrE s (II k) (fN (LL k)) = wrE s (II k) (fN (LL k)))) = true ∧ (!!decide (wrE s (II k) (fN (LL k)) = wrE s (II k) (fN (LL k)))) = true ∧ True ∧
  (!!decide (wrE s (II k) (fN (LL k)) = wrE s (II k) (fN (LL k)))) = true ∧ (!!decide (wrE s (II k) (fN (LL k)) = wrE s (II k) (fN (LL k)))) = true ∧ True ∧ (!decide (wrE s (II k)
  (fN (LL k)) = wrE s (II k) (fN (LL k)))) = false ∧ (!!SS.off (wrS s (II k) (fN (LL k)) (FF k)) == SS.off (wrS s (II k) (fN (LL k)) (FF k))) = true ∧ (!!SS.off (wrS s (II k) (fN
  (LL k)) (FF k)) == SS.off (wrS s (II k) (fN (LL k)) (FF k))) = true ∧ Con Try.prog 21 [AV.p 0 0] [some (SS.o (wrS s (II k) (fN (LL k)) (FF k)))] (AV.i .i64 (Int.ofNat (List.length
  (SS.P (wrS s (II k) (fN (LL k)) (FF k)))))) [Upd.keep] ∧ (!!SS.off (wrS s (II k) (fN (LL k)) (FF k)) == SS.off (wrS s (II k) (fN (LL k)) (FF k))) = true ∧ (!!SS.off (wrS s (II k)
  (fN (LL k)) (FF k)) == SS.off (wrS s (II k) (fN (LL k)) (FF k))) = true ∧ Con Try.prog 22 [AV.p 0 0] [some (rsA 2 (wrS s (II k) (fN (LL k)) (FF k))), some (rsR (wrS s (II k) (fN
  (LL k)) (FF k))), some (rsP (wrS s (II k) (fN (LL k)) (FF k)))] (AV.i .i64 (Int.ofNat (List.length (SS.P (wrS s (II k) (fN (LL k)) (FF k)))))) [Upd.keep, Upd.keep, Upd.keep] ∧
  (!!SS.off (wrS s (II k) (fN (LL k)) (FF k)) == SS.off (wrS s (II k) (fN (LL k)) (FF k))) = true ∧ (!SS.off (wrS s (II k) (fN (LL k)) (FF k)) == SS.off (wrS s (II k) (fN (LL k))
  (FF k))) = false ∧ (!!decide (Int.ofNat (List.length (SS.P (wrS s (II k) (fN (LL k)) (FF k)))) = Int.ofNat (List.length (SS.P (wrS s (II k) (fN (LL k)) (FF k)))))) = true ∧
  (!!decide (Int.ofNat (List.length (SS.P (wrS s (II k) (fN (LL k)) (FF k)))) = Int.ofNat (List.length (SS.P (wrS s (II k) (fN (LL k)) (FF k)))))) = true ∧ Con Try.prog 23 [AV.p 0
  0] [some (SS.o (wrS s (II k) (fN (LL k)) (FF k)))] (AV.i .i64 (Int.ofNat (SS.wr (wrS s (II k) (fN (LL k)) (FF k))))) [Upd.keep] ∧ (!!decide (Int.ofNat (List.length (SS.P (wrS s
  (II k) (fN (LL k)) (FF k)))) = Int.ofNat (List.length (SS.P (wrS s (II k) (fN (LL k)) (FF k)))))) = true ∧ (!!decide (Int.ofNat (List.length (SS.P (wrS s (II k) (fN (LL k)) (FF
  k)))) = Int.ofNat (List.length (SS.P (wrS s (II k) (fN (LL k)) (FF k)))))) = true ∧ (!!decide (Int.ofNat (List.length (SS.P (wrS s (II k) (fN (LL k)) (FF k)))) = Int.ofNat
  (List.length (SS.P (wrS s (II k) (fN (LL k)) (FF k)))))) = true ∧ True ∧ (!!decide (Int.ofNat (List.length (SS.P (wrS s (II k) (fN (LL k)) (FF k)))) = Int.ofNat (List.length (SS.P
  (wrS s (II k) (fN (LL k)) (FF k)))))) = true ∧ (!!decide (Int.ofNat (List.length (SS.P (wrS s (II k) (fN (LL k)) (FF k)))) = Int.ofNat (List.length (SS.P (wrS s (II k) (fN (LL k))
  (FF k)))))) = true ∧ (!decide (Int.ofNat (List.length (SS.P (wrS s (II k) (fN (LL k)) (FF k)))) = Int.ofNat (List.length (SS.P (wrS s (II k) (fN (LL k)) (FF k)))))) = false ∧
  (!!decide (Int.ofNat (SS.wr (wrS s (II k) (fN (LL k)) (FF k))) = Int.ofNat (SS.wr (wrS s (II k) (fN (LL k)) (FF k))))) = true ∧ (!!decide (Int.ofNat (SS.wr (wrS s (II k) (fN (LL
  k)) (FF k))) = Int.ofNat (SS.wr (wrS s (II k) (fN (LL k)) (FF k))))) = true ∧ Con Try.prog 24 [AV.p 0 0] [some (SS.o (wrS s (II k) (fN (LL k)) (FF k)))] (AV.i .i64 (Int.ofNat
  (SS.n (wrS s (II k) (fN (LL k)) (FF k))))) [Upd.keep] ∧ (!!decide (Int.ofNat (SS.wr (wrS s (II k) (fN (LL k)) (FF k))) = Int.ofNat (SS.wr (wrS s (II k) (fN (LL k)) (FF k))))) =
  true ∧ (!!decide (Int.ofNat (SS.wr (wrS s (II k) (fN (LL k)) (FF k))) = Int.ofNat (SS.wr (wrS s (II k) (fN (LL k)) (FF k))))) = true ∧ (!!decide (Int.ofNat (SS.wr (wrS s (II k)
  (fN (LL k)) (FF k))) = Int.ofNat (SS.wr (wrS s (II k) (fN (LL k)) (FF k))))) = true ∧ True ∧ (!!decide (Int.ofNat (SS.wr (wrS s (II k) (fN (LL k)) (FF k))) = Int.ofNat (SS.wr (wrS
  s (II k) (fN (LL k)) (FF k))))) = true ∧ (!!decide (Int.ofNat (SS.wr (wrS s (II k) (fN (LL k)) (FF k))) = Int.ofNat (SS.wr (wrS s (II k) (fN (LL k)) (FF k))))) = true ∧ (!!decide
  (Int.ofNat (SS.wr (wrS s (II k) (fN (LL k)) (FF k))) = Int.ofNat (SS.wr (wrS s (II k) (fN (LL k)) (FF k))))) = true ∧ (!decide (Int.ofNat (SS.wr (wrS s (II k) (fN (LL k)) (FF k)))
  = Int.ofNat (SS.wr (wrS s (II k) (fN (LL k)) (FF k))))) = false ∧ (!decide (Int.ofNat (SS.n (wrS s (II k) (fN (LL k)) (FF k))) = Int.ofNat (SS.n (wrS s (II k) (fN (LL k)) (FF
  k))))) = false ∧ ((-9223372036854775808 : Int) ≤ Int.ofNat k + (1 : Int) ∧ Int.ofNat k + (1 : Int) ≤ (9223372036854775807 : Int)) ∧ K (Res.st XO.nrm (z0 (z0 (z0 (z1 (AV.p 1 0) (z0
  (z0 (zl (AV.p 4 2)) (z0 (zl (AV.b !decide (Int.ofNat (SS.wr (wrS s (II k) (fN (LL k)) (FF k))) = Int.ofNat (SS.wr (wrS s (II k) (fN (LL k)) (FF k)))))) T.e)) (z1 (AV.i .i64
  (Int.ofNat k)) (z0 (zl (AV.b !SS.off (wrS s (II k) (fN (LL k)) (FF k)) == SS.off (wrS s (II k) (fN (LL k)) (FF k)))) T.e) T.e)) (z0 (z0 (z1 (AV.b (decide (KK k = (1 : Int)))) (zl
  (AV.b !decide (wrE s (II k) (fN (LL k)) = wrE s (II k) (fN (LL k))))) T.e) (z1 (AV.b (decide (KK k = (3 : Int)))) (zl (AV.lr 2 1 0 (SS.n (wrS s (II k) (fN (LL k)) (FF k))) false))
  T.e)) (z1 (AV.i .u8 (FF k)) (z0 (zl (AV.b !decide (Int.ofNat (List.length (SS.P (wrS s (II k) (fN (LL k)) (FF k)))) = Int.ofNat (List.length (SS.P (wrS s (II k) (fN (LL k)) (FF
  k))))))) T.e) (zl (AV.b (decide (KK k = (5 : Int)))))))) (z1 (AV.b (decide (wrE s (II k) (fN (LL k)) = wrE s (II k) (fN (LL k))))) (z0 (z0 (zl (AV.lr 6 1 0 (fN (LL k)) false)) (z0
  (zl (AV.i .i64 (Int.ofNat (SS.n (wrS s (II k) (fN (LL k)) (FF k)))))) T.e)) (z1 (AV.p 0 0) (z0 (zl (AV.i .i64 (Int.ofNat (List.length (SS.P (wrS s (II k) (fN (LL k)) (FF k)))))))
  T.e) T.e)) (z0 (z1 (AV.b (decide (Int.ofNat k < Int.ofNat M))) (z0 (zl (AV.p 1 0)) T.e) (z0 (zl (AV.i .i64 (Int.ofNat k + (1 : Int)))) T.e)) (z1 (AV.i .i64 (wrE s (II k) (fN (LL
  k)))) (z0 (zl (AV.p 1 0)) T.e) T.e)))) (z1 (AV.p 0 0) (z1 (AV.i .i64 (Int.ofNat k)) (z0 (z0 (zl (AV.p 4 3)) (z1 (AV.b (decide (KK k = (2 : Int)))) (zl (AV.b !decide (Int.ofNat
  (SS.wr (wrS s (II k) (fN (LL k)) (FF k))) = Int.ofNat (SS.wr (wrS s (II k) (fN (LL k)) (FF k)))))) T.e)) (z1 (AV.p 4 0) (z0 (zl (AV.b !SS.off (wrS s (II k) (fN (LL k)) (FF k)) ==
  SS.off (wrS s (II k) (fN (LL k)) (FF k)))) T.e) (zl (AV.b (decide (KK k = (4 : Int))))))) (z0 (z1 (AV.i .i64 (Int.ofNat M)) (z0 (zl (AV.p 0 0)) T.e) (z0 (zl (AV.b !decide
  (Int.ofNat (SS.n (wrS s (II k) (fN (LL k)) (FF k))) = Int.ofNat (SS.n (wrS s (II k) (fN (LL k)) (FF k)))))) T.e)) (z1 (AV.i .i64 (LL k)) (z0 (zl (AV.p 0 0)) T.e) T.e))) (z0 (z0
  (z0 (zl (AV.b (decide (wrE s (II k) (fN (LL k)) = wrE s (II k) (fN (LL k)))))) (z0 (zl (AV.p 1 0)) T.e)) (z1 (AV.i .i64 (II k)) (z0 (zl (AV.i .i64 (Int.ofNat (List.length (SS.P
  (wrS s (II k) (fN (LL k)) (FF k))))))) T.e) T.e)) (z0 (z1 (AV.pv 5 (opF KK II FF LL TT k)) (z0 (zl (AV.p 1 4)) T.e) T.e) (z1 (AV.p 4 1) (z0 (zl (AV.p 1 2)) T.e) T.e))))) (z0 (z0
  (z0 (z0 (z0 (zl (AV.i .u8 (FF k))) (z1 (AV.b (decide (KK k = (2 : Int)))) (zl (AV.b !decide (Int.ofNat (SS.wr (wrS s (II k) (fN (LL k)) (FF k))) = Int.ofNat (SS.wr (wrS s (II k)
  (fN (LL k)) (FF k)))))) T.e)) (z1 (AV.b (decide ((400 : Int) < Int.ofNat k))) (z0 (zl (AV.b !SS.off (wrS s (II k) (fN (LL k)) (FF k)) == SS.off (wrS s (II k) (fN (LL k)) (FF k))))
  T.e) T.e)) (z0 (z1 (AV.sv 5 M (opF KK II FF LL TT)) (z0 (zl (AV.b !decide (wrE s (II k) (fN (LL k)) = wrE s (II k) (fN (LL k))))) T.e) (z1 (AV.b (decide (KK k = (3 : Int)))) (zl
  (AV.i .i64 (Int.ofNat (SS.n (wrS s (II k) (fN (LL k)) (FF k)))))) T.e)) (z1 (AV.p 4 3) (z0 (zl (AV.b !decide (Int.ofNat (List.length (SS.P (wrS s (II k) (fN (LL k)) (FF k)))) =
  Int.ofNat (List.length (SS.P (wrS s (II k) (fN (LL k)) (FF k))))))) T.e) (zl (AV.b (decide (KK k = (5 : Int)))))))) (z0 (z0 (z0 (zl (AV.i .i64 (wrE s (II k) (fN (LL k))))) (z0 (zl
  (AV.p 1 0)) T.e)) (z1 (AV.p 4 1) (z0 (zl (AV.p 1 0)) T.e) T.e)) (z0 (z1 (AV.i .i64 (Int.ofNat k)) (z0 (zl (AV.p 1 0)) T.e) T.e) (z1 (AV.p 1 0) (z0 (zl (AV.p 1 0)) T.e) T.e)))) (z0
  (z1 (AV.p 4 0) (z0 (z0 (zl (AV.i .i64 (LL k))) (z0 (zl (AV.p 0 0)) T.e)) (z1 (AV.i .i64 (KK k)) (z0 (zl (AV.p 0 0)) T.e) (zl (AV.b (decide (KK k = (4 : Int))))))) (z0 (z1 (AV.i
  .i64 (Int.ofNat k + (1 : Int))) (z0 (zl (AV.b (SS.off (wrS s (II k) (fN (LL k)) (FF k))))) T.e) (z0 (zl (AV.b !decide (Int.ofNat (SS.n (wrS s (II k) (fN (LL k)) (FF k))) =
  Int.ofNat (SS.n (wrS s (II k) (fN (LL k)) (FF k)))))) T.e)) (z1 (AV.lr 5 1 0 (fN (LL k)) false) (z0 (zl (AV.i .i64 (Int.ofNat (SS.wr (wrS s (II k) (fN (LL k)) (FF k)))))) T.e)
  T.e))) (z0 (z0 (z0 (z1 (AV.b (decide (KK k = (1 : Int)))) (zl (AV.b (decide (wrE s (II k) (fN (LL k)) = wrE s (II k) (fN (LL k)))))) T.e) (z0 (zl (AV.p 1 0)) T.e)) (z1 (AV.p 4 2)
  (z0 (zl (AV.b !decide (Int.ofNat (List.length (SS.P (wrS s (II k) (fN (LL k)) (FF k)))) = Int.ofNat (List.length (SS.P (wrS s (II k) (fN (LL k)) (FF k))))))) T.e) T.e)) (z0 (z1
  (AV.agg [AV.i .i64 (KK k), AV.i .i64 (II k), AV.i .u8 (FF k), AV.i .i64 (LL k), AV.b (TT k)]) (z0 (zl (AV.b (SS.off (wrS s (II k) (fN (LL k)) (FF k))))) T.e) T.e) (z1 (AV.i .i64
  (II k)) (z0 (zl (AV.i .i64 (Int.ofNat (SS.wr (wrS s (II k) (fN (LL k)) (FF k)))))) T.e) T.e)))))) { tree := z1 (AObj.segs 63 33799 [{ st := 0, sz := 1, n := 1, f := oneF (CV.i .i64 (Int.ofNat (SS.n (wrS s (II k) (fN (LL k)) (FF k))))) }, { st := 1, sz := 65, n := 512, f := durF (SS.dur (wrS s (II k) (fN (LL k)) (FF k))) (SS.torn (wrS s (II k) (fN (LL k)) (FF k))) }, { st := 33281, sz := 1, n := 1, f := oneF (CV.opv (pB (SS.P (wrS s (II k) (fN (LL k)) (FF k)))) 66 (pW (SS.P (wrS s (II k) (fN (LL k)) (FF k))))) }, { st := 33282, sz := 1, n := 512, f := latF (lB (SS.P (wrS s (II k) (fN (LL k)) (FF k)))) (lW (SS.P (wrS s (II k) (fN (LL k)) (FF k)))) }, { st := 33794, sz := 5, n := 1, f := tailF (Int.ofNat (List.length (SS.P (wrS s (II k) (fN (LL k)) (FF k))))) (Int.ofNat (SS.wr (wrS s (II k) (fN (LL k)) (FF k)))) (SS.off (wrS s (II k) (fN (LL k)) (FF k))) (SS.armed (wrS s (II k) (fN (LL k)) (FF k))) (Int.ofNat (SS.left (wrS s (II k) (fN (LL k)) (FF k)))) }]) (z1 (AObj.cells 49 5 [] (z1 (AV.lr 2 1 0 (SS.n (wrS s (II k) (fN (LL k)) (FF k))) false) (z1 (AV.lr 3 2 0 (List.length (SS.P (wrS s (II k) (fN (LL k)) (FF k)))) false) (zl (AV.i .i64 (SS.am (wrS s (II k) (fN (LL k)) (FF k))))) T.e) (z1 (AV.i .i64 (Int.ofNat (SS.wr (wrS s (II k) (fN (LL k)) (FF k))))) (zl (AV.b (SS.off (wrS s (II k) (fN (LL k)) (FF k))))) T.e))) (zl (AObj.rows 69 2 (List.length (SS.P (wrS s (II k) (fN (LL k)) (FF k)))) (penF (oA (SS.P (wrS s (II k) (fN (LL k)) (FF k)))) (oB (SS.P (wrS s (II k) (fN (LL k)) (FF k))))))) (zl (AObj.rows 5 1 (fN (LL k)) (fF (FF k))))) (z1 (AObj.rows 33 1 (SS.n (wrS s (II k) (fN (LL k)) (FF k))) (imgF (wrS s (II k) (fN (LL k)) (FF k)))) (zl (AObj.cells 32 5 [AV.i .i64 (0 : Int), AV.i .i64 (0 : Int), AV.i .u8 (0 : Int), AV.i .i64 (0 : Int), AV.b false] (z1 (AV.i .i64 (KK k)) (z1 (AV.i .i64 (II k)) (zl (AV.i .i64 (LL k))) T.e) (z1 (AV.i .u8 (FF k)) (zl (AV.b (TT k))) T.e)))) (zl (AObj.rows 5 1 (fN (LL k)) (fF (FF k))))), next := 7, log := [3, 2, 1, 6, 0, 5, 4, 4] })
  Orc.z) := by kernel_rfl

/-! ### the contracts in the rounds' form -/

theorem rd2 (s : SS) (i : Int) (hn : s.n ≤ 512) : Con Try.prog 7 [.p 0 0, .i .i64 i] [some s.o] (.tup [.sv 1 (rdN s i) fun k _ => .i .u8 (rdB s i k), .i .i64 (rdE s i)]) [.keep, .gone] :=
  ((read_con s i hn).freeze (us' := [.keep, .gone]) (v' := .tup [.sv 1 (s.rdN i) (shiftF 0 fun k _ => .i .u8 (s.rdB i k)), .i .i64 (s.rdE i)]) 1 rfl ⟨.refl _, rfl, trivial⟩ (.inr ⟨by kernel_rfl, ⟨rfl, by omega⟩, trivial, trivial⟩))
theorem set2 {g : FuncId} {args : List AV} {v : AV} {s s' : SS} (h : Con Try.prog g args [some (rsA 2 s), some (rsR s), some (rsP s)] v [.set (rsA 2 s'), .keep, .keep]) (e1 : rsR s = rsR s') (e2 : rsP s = rsP s') :
    Con Try.prog g args [some (rsA 2 s), some (rsR s), some (rsP s)] v [.set (rsA 2 s'), .set (rsR s'), .set (rsP s')] := by
  rw [← e1, ← e2]
  exact h.oeq (OEqL.refl _) (OEqL.refl _)
theorem wri2 (s : SS) (i : Int) (L : Nat) (c : Int) (ok : s.Ok) : Con Try.prog 17 [.p 0 0, .i .i64 i, .lr 1 1 0 L false] [some s.o, some (.rows 5 1 L (fF c))] (.i .i64 (wrE s i L)) [.set (SS.o (wrS s i L c)), .keep] :=
  writeU_con s i L L 5 (fB c) ok (Nat.le_refl _)
/-- Does a Write come to pass? -/
def Wr (s : SS) (i : Int) (L : Nat) : Prop := s.off = false ∧ 0 ≤ i ∧ i < Int.ofNat s.n ∧ L = 64
theorem rwriA2 (s : SS) (i : Int) (L : Nat) (c : Int) (ok : s.Ok) (hl : s.P.length ≤ 1073741824) (h : Wr s i L) :
    Con Try.prog 19 [.p 0 0, .i .i64 i, .lr 3 1 0 L false] [some (rsA 2 s), some (rsR s), some (rsP s), some (.rows 5 1 L (fF c))] (.i .i64 (wrE s i L)) [.set (rsA 4 (wrS s i L c)), .set (rsR (wrS s i L c)), .gone, .gone, .set (rsP (wrS s i L c))] := by
  obtain ⟨ho, h0, h1, rfl⟩ := h
  obtain ⟨q, rfl⟩ : ∃ q, i = Int.ofNat q := ⟨i.toNat, by simp; omega⟩
  have hq : q < s.n := by simp at h1; omega
  have e1 : wrE s (Int.ofNat q) 64 = (s.wrote q (fB c)).payE := by
    have hd : decide (0 ≤ Int.ofNat q ∧ Int.ofNat q < Int.ofNat s.n ∧ 64 = 64) = true := by simp; omega
    unfold wrE SS.wrE; rw [ho, hd]; rfl
  have e2 : wrS s (Int.ofNat q) 64 c = (s.wrote q (fB c)).pay := wrS_on ho hq _
  have e3 : rsR s = rsR (s.wrote q (fB c)).pay := by
    rcases pay_or (s.wrote q (fB c)) with e | e | e <;> rw [e] <;> rfl
  rw [e1, e2]
  have k := rwriteLOk_con s q (fB c) ok hl ho hq
  rw [← e3]
  exact k.oeq (OEqL.refl _) (OEqL.refl _)
theorem rwriN2 (s : SS) (i : Int) (L : Nat) (c : Int) (h : ¬ Wr s i L) :
    Con Try.prog 19 [.p 0 0, .i .i64 i, .lr 3 1 0 L false] [some (rsA 2 s), some (rsR s), some (rsP s), some (.rows 5 1 L (fF c))] (.i .i64 (wrE s i L)) [.set (rsA 2 (wrS s i L c)), .set (rsR (wrS s i L c)), .set (rsP (wrS s i L c)), .keep] := by
  have hx : s.off = true ∨ ¬ (0 ≤ i ∧ i < Int.ofNat s.n ∧ L = 64) := by
    cases ho : s.off with
    | true => exact .inl rfl
    | false => exact .inr fun q => h ⟨ho, q⟩
  have e : wrS s i L c = s := wrS_no hx _
  rw [e]
  exact (rwriteLNo_con s i L (fB c) hx).oeq (OEqL.refl _) (OEqL.refl _)

/-! ### the rounds -/

noncomputable def rsM (s : SS) : AObj := .cells 49 5 [] (setAll .e 0 [.lr 2 1 0 s.n false, .lr 3 2 0 s.P.length false, .i .i64 (Int.ofNat s.wr), .i .i64 s.am, .b s.off])
noncomputable def plT (M k : Nat) (KK II FF LL : Nat → Int) (TT : Nat → Bool) : List (Nat × AV) := [(5, .p 0 0), (7, .p 1 0), (40, .sv 5 M (opF KK II FF LL TT)), (41, .i .i64 (Int.ofNat M)), (42, .i .i64 (Int.ofNat k))]
noncomputable def plO (s : SS) : List (Option AObj) := [some s.o, some (rsM s), some (rsR s), some (rsP s)]
theorem dxx (x : Int) : decide (x = x) = true := decide_eq_true rfl
theorem nats_refl (a : List Nat) : natsEq a a = true := (natsEq_iff a a).2 rfl
theorem nn_t {b : Bool} (h : b = true) : (!!b) = true := by rw [h]; rfl
theorem nt_f {b : Bool} (h : b = true) : (!b) = false := by rw [h]; rfl
theorem bxx (b : Bool) : (b == b) = true := by cases b <;> rfl

theorem play_round (n M k : Nat) (KK II FF LL : Nat → Int) (TT : Nat → Bool) (s : SS) (hI : PlI n k s) (hk : k < M) (h400 : ¬ 400 < k) :
    ∃ o, ∀ K : Res → Orc → Prop, (∀ σ tm1 H1 o, StIs 0 σ [] tm1 H1 [(5, .p 0 0), (7, .p 1 0), (40, .sv 5 M (opF KK II FF LL TT)), (41, .i .i64 (Int.ofNat M)), (42, .i .i64 (Int.ofNat k + 1))] (plO (opS s (KK k) (II k) (FF k) (LL k) (TT k))) → K (.st .nrm tm1 H1) o) →
      runK Try.prog 1000000 (.code (loopAt Try.prog 3 0) 179 (mkT (plT M k KK II FF LL TT)) (mkH (plO s))) o K := by
  have h0 : decide (Int.ofNat k < Int.ofNat M) = true := decide_eq_true (by simp; omega)
  have h4 : decide ((400 : Int) < Int.ofNat k) = false := decide_eq_false (by simp; omega)
  have r1 : (0 : Int) ≤ Int.ofNat k ∧ Int.ofNat k < (M : Int) := ⟨by simp, by simp; omega⟩
  have r2 : (-9223372036854775808 : Int) ≤ Int.ofNat k + 1 ∧ Int.ofNat k + 1 ≤ (9223372036854775807 : Int) := ⟨by simp; omega, by simp; omega⟩
  have ok : s.Ok := hI.ok.ok (by omega)
  have hn := ok.n
  have hl : s.P.length ≤ 1073741824 := by have := hI.ok.P; omega
  have ha : ∀ q ∈ s.P, q.1 < s.n := ok.at_
  have ha5 : ∀ q ∈ s.P, q.1 < 512 := fun q hq => by have := ok.at_ q hq; omega
  have t1 := fun x : Int => nn_t (dxx x)
  have t2 := fun b : Bool => nn_t (bxx b)
  have t3 := fun x : Int => nt_f (dxx x)
  have t4 := fun b : Bool => nt_f (bxx b)
  cases y1 : decide (KK k = 1) with
  | true =>
    have e : opS s (KK k) (II k) (FF k) (LL k) (TT k) = s := by unfold opS; rw [y1]; rfl
    rw [e]
    refine ⟨_, fun K hK => (play1_vc s M k KK II FF LL TT h0 h4 y1 K).mpr ?_⟩
    have c1 := rd2 s (II k) hn
    have c2 : Con Try.prog 8 [.p 0 0, .i .i64 (II k)] [some (rsA 2 s), some (rsR s), some (rsP s)] (.tup [.sv 1 (rdN s (II k)) fun j _ => .i .u8 (rdB s (II k) j), .i .i64 (rdE s (II k))]) [.keep, .keep, .keep] := rread2_con s (II k) hl
    have u : U8s (rdN s (II k)) fun j _ => CV.i IntKind.u8 (rdB s (II k) j) := fun j _ => by obtain ⟨m, _, hm⟩ := hI.byt.rd (II k) j; exact ⟨m, by show CV.i .u8 (s.rdB (II k) j) = _; rw [hm]⟩
    have e0 := nats_refl (bytesF (rdN s (II k)) fun j _ => CV.i IntKind.u8 (rdB s (II k) j))
    have f1 := off2_con s; have f2 := pending2_con s; have f3 := rpend2_con s; have f4 := writes2_con s; have f5 := len2_con s
    repeat' first | exact trivial | assumption | exact t1 _ | exact t2 _ | exact t3 _ | exact t4 _ | exact dxx _ | exact bxx _ | apply And.intro | exact hK [0, 1, 2, 3] _ _ _ (st_is [0, 1, 2, 3] (by kernel_rfl) rfl rfl rfl (by refine ⟨?_, ?_, ?_, ?_, ?_, ?_, ?_, ?_, trivial⟩ <;> kernel_rfl) rfl)
  | false =>
    cases y2 : decide (KK k = 2) with
    | true =>
      have e : opS s (KK k) (II k) (FF k) (LL k) (TT k) = barS s := by unfold opS; rw [y1, y2]; rfl
      rw [e]
      refine ⟨_, fun K hK => (play2_vc s M k KK II FF LL TT h0 h4 y1 y2 K).mpr ?_⟩
      have c1 : Con Try.prog 9 [.p 0 0] [some s.o] (.i .i64 (faE s)) [.set (SS.o (barS s))] := barrier_con s hl ha5
      have c2 : Con Try.prog 10 [.p 0 0] [some (rsA 2 s), some (rsR s), some (rsP s)] (.i .i64 (faE s)) [.set (rsA 2 (barS s)), .set (rsR (barS s)), .set (rsP (barS s))] := rbar2_con s hl ha
      have f1 := off2_con (barS s); have f2 := pending2_con (barS s); have f3 := rpend2_con (barS s); have f4 := writes2_con (barS s); have f5 := len2_con (barS s)
      repeat' first | exact trivial | assumption | exact t1 _ | exact t2 _ | exact t3 _ | exact t4 _ | exact dxx _ | exact bxx _ | apply And.intro | exact hK [0, 1, 2, 3] _ _ _ (st_is [0, 1, 2, 3] (by kernel_rfl) rfl rfl rfl (by refine ⟨?_, ?_, ?_, ?_, ?_, ?_, ?_, ?_, trivial⟩ <;> kernel_rfl) rfl)
    | false =>
      cases y3 : decide (KK k = 3) with
      | true =>
        have e : opS s (KK k) (II k) (FF k) (LL k) (TT k) = armS2 s (II k) := by unfold opS; rw [y1, y2, y3]; rfl
        rw [e]
        refine ⟨_, fun K hK => (play3_vc s M k KK II FF LL TT h0 h4 y1 y2 y3 K).mpr ?_⟩
        have c1 : Con Try.prog 11 [.p 0 0, .i .i64 (II k)] [some s.o] (.tup []) [.set (SS.o (armS2 s (II k)))] := arm2_con s (II k)
        have c2 : Con Try.prog 12 [.p 0 0, .i .i64 (II k)] [some (rsA 2 s), some (rsR s), some (rsP s)] (.tup []) [.set (rsA 2 (armS2 s (II k))), .set (rsR (armS2 s (II k))), .set (rsP (armS2 s (II k)))] := set2 (rarm2_con s (II k)) rfl rfl
        have f1 := off2_con (armS2 s (II k)); have f2 := pending2_con (armS2 s (II k)); have f3 := rpend2_con (armS2 s (II k)); have f4 := writes2_con (armS2 s (II k)); have f5 := len2_con (armS2 s (II k))
        repeat' first | exact trivial | assumption | exact t1 _ | exact t2 _ | exact t3 _ | exact t4 _ | exact dxx _ | exact bxx _ | apply And.intro | exact hK [0, 1, 2, 3] _ _ _ (st_is [0, 1, 2, 3] (by kernel_rfl) rfl rfl rfl (by refine ⟨?_, ?_, ?_, ?_, ?_, ?_, ?_, ?_, trivial⟩ <;> kernel_rfl) rfl)
      | false =>
        cases y4 : decide (KK k = 4) with
        | true =>
          have e : opS s (KK k) (II k) (FF k) (LL k) (TT k) = failS s := by unfold opS; rw [y1, y2, y3, y4]; rfl
          rw [e]
          refine ⟨_, fun K hK => (play4_vc s M k KK II FF LL TT h0 h4 y1 y2 y3 y4 K).mpr ?_⟩
          have c1 : Con Try.prog 13 [.p 0 0] [some s.o] (.tup []) [.set (SS.o (failS s))] := fail2_con s
          have c2 : Con Try.prog 14 [.p 0 0] [some (rsA 2 s), some (rsR s), some (rsP s)] (.tup []) [.set (rsA 2 (failS s)), .set (rsR (failS s)), .set (rsP (failS s))] := set2 (rfail2_con s) rfl rfl
          have f1 := off2_con (failS s); have f2 := pending2_con (failS s); have f3 := rpend2_con (failS s); have f4 := writes2_con (failS s); have f5 := len2_con (failS s)
          repeat' first | exact trivial | assumption | exact t1 _ | exact t2 _ | exact t3 _ | exact t4 _ | exact dxx _ | exact bxx _ | apply And.intro | exact hK [0, 1, 2, 3] _ _ _ (st_is [0, 1, 2, 3] (by kernel_rfl) rfl rfl rfl (by refine ⟨?_, ?_, ?_, ?_, ?_, ?_, ?_, ?_, trivial⟩ <;> kernel_rfl) rfl)
        | false =>
          cases y5 : decide (KK k = 5) with
          | true =>
            have e : opS s (KK k) (II k) (FF k) (LL k) (TT k) = revS s (II k) (TT k) := by unfold opS; rw [y1, y2, y3, y4, y5]; rfl
            rw [e]
            refine ⟨_, fun K hK => (play5_vc s M k KK II FF LL TT h0 h4 y1 y2 y3 y4 y5 K).mpr ?_⟩
            have c1 : Con Try.prog 15 [.p 0 0, .i .i64 (II k), .b (TT k)] [some s.o] (.i .i64 (reE s)) [.set (SS.o (revS s (II k) (TT k)))] := revive_con s (II k) (TT k) hl ha5
            have c2 : Con Try.prog 16 [.p 0 0, .i .i64 (II k), .b (TT k)] [some (rsA 2 s), some (rsR s), some (rsP s)] (.i .i64 (reE s)) [.set (rsA 2 (revS s (II k) (TT k))), .set (rsR (revS s (II k) (TT k))), .set (rsP (revS s (II k) (TT k)))] := rrev2_con s (II k) (TT k) hl ha
            have f1 := off2_con (revS s (II k) (TT k)); have f2 := pending2_con (revS s (II k) (TT k)); have f3 := rpend2_con (revS s (II k) (TT k)); have f4 := writes2_con (revS s (II k) (TT k)); have f5 := len2_con (revS s (II k) (TT k))
            repeat' first | exact trivial | assumption | exact t1 _ | exact t2 _ | exact t3 _ | exact t4 _ | exact dxx _ | exact bxx _ | apply And.intro | exact hK [0, 1, 2, 3] _ _ _ (st_is [0, 1, 2, 3] (by kernel_rfl) rfl rfl rfl (by refine ⟨?_, ?_, ?_, ?_, ?_, ?_, ?_, ?_, trivial⟩ <;> kernel_rfl) rfl)
          | false =>
            have e : opS s (KK k) (II k) (FF k) (LL k) (TT k) = wrS s (II k) (fN (LL k)) (FF k) := by unfold opS; rw [y1, y2, y3, y4, y5]; rfl
            rw [e]
            have c0 := fill_con (FF k) (LL k)
            have c1 := wri2 s (II k) (fN (LL k)) (FF k) ok
            have f1 := off2_con (wrS s (II k) (fN (LL k)) (FF k)); have f2 := pending2_con (wrS s (II k) (fN (LL k)) (FF k)); have f3 := rpend2_con (wrS s (II k) (fN (LL k)) (FF k)); have f4 := writes2_con (wrS s (II k) (fN (LL k)) (FF k)); have f5 := len2_con (wrS s (II k) (fN (LL k)) (FF k))
            by_cases hw : Wr s (II k) (fN (LL k))
            · refine ⟨_, fun K hK => (playA_vc s M k KK II FF LL TT h0 h4 y1 y2 y3 y4 y5 K).mpr ?_⟩
              have c2 := rwriA2 s (II k) (fN (LL k)) (FF k) ok hl hw
              repeat' first | exact trivial | assumption | exact t1 _ | exact t2 _ | exact t3 _ | exact t4 _ | exact dxx _ | exact bxx _ | apply And.intro | exact hK [0, 1, 2, 7] _ _ _ (st_is [0, 1, 2, 7] (by kernel_rfl) rfl rfl rfl (by refine ⟨?_, ?_, ?_, ?_, ?_, ?_, ?_, ?_, trivial⟩ <;> kernel_rfl) rfl)
            · refine ⟨_, fun K hK => (playN_vc s M k KK II FF LL TT h0 h4 y1 y2 y3 y4 y5 K).mpr ?_⟩
              have c2 := rwriN2 s (II k) (fN (LL k)) (FF k) hw
              repeat' first | exact trivial | assumption | exact t1 _ | exact t2 _ | exact t3 _ | exact t4 _ | exact dxx _ | exact bxx _ | apply And.intro | exact hK [0, 1, 2, 3] _ _ _ (st_is [0, 1, 2, 3] (by kernel_rfl) rfl rfl rfl (by refine ⟨?_, ?_, ?_, ?_, ?_, ?_, ?_, ?_, trivial⟩ <;> kernel_rfl) rfl)

end Go.Proofs.St

set_option maxRecDepth 20000
namespace Go.Proofs.St
open Go Go.Sim Go.Proofs Go.Proofs.Ytfbnaflnaancbaa
theorem plays_vc (n M : Nat) (KK II FF LL : Nat → Int) (TT : Nat → Bool) (K : Res → Orc → Prop) : runK Try.prog 1000000 (.call 3 [.i .i64 (Int.ofNat n), .sv 5 M (opF KK II FF LL
  TT)] (mkH [])) (Orc.cal [] (AV.b true) [] (Orc.c (Orc.cal [] (AV.tup [AV.p 0 0, AV.i .i64 (0 : Int)]) [Upd.set (SS.o (SS.new n))] (Orc.cal [] (AV.tup [AV.p 0 0, AV.i .i64 (0 :
  Int)]) [Upd.set (rsA 2 (SS.new n)), Upd.set (rsR (SS.new n)), Upd.set (rsP (SS.new n))] (Orc.c (Orc.c (Orc.c (Orc.c (Orc.c (Orc.c (Orc.c (Orc.c (Orc.lop [0, 1, 2, 3] [5, 7, 40,
  41, 42] 0 (XO.exit 0) [(5, AV.p 0 0), (7, AV.p 1 0)] [some (SS.o (fS n M KK II FF LL TT)), some (AObj.cells 49 5 [] (setAll T.e 0 [AV.lr 2 1 0 (SS.n (fS n M KK II FF LL TT))
  false, AV.lr 3 2 0 (List.length (SS.P (fS n M KK II FF LL TT))) false, AV.i .i64 (Int.ofNat (SS.wr (fS n M KK II FF LL TT))), AV.i .i64 (SS.am (fS n M KK II FF LL TT)), AV.b
  (SS.off (fS n M KK II FF LL TT))])), some (rsR (fS n M KK II FF LL TT)), some (rsP (fS n M KK II FF LL TT))] (Orc.cal [4] (AV.sv 1 (SS.n (fS n M KK II FF LL TT)) (imgF (fS n M KK
  II FF LL TT))) [Upd.keep] (Orc.cal [6] (AV.b true) [Upd.gone] Orc.z))))))))))))))) K = (Con Try.prog 4 [] [] (AV.b true) [] ∧ True ∧ Con Try.prog 5 [AV.i .i64 (Int.ofNat n)] []
  (AV.tup [AV.p 0 0, AV.i .i64 (0 : Int)]) [Upd.set (SS.o (SS.new n))] ∧ Con Try.prog 6 [AV.i .i64 (Int.ofNat n)] [] (AV.tup [AV.p 0 0, AV.i .i64 (0 : Int)]) [Upd.set (rsA 2 (SS.new
  n)), Upd.set (rsR (SS.new n)), Upd.set (rsP (SS.new n))] ∧ True ∧ True ∧ True ∧ True ∧ LDoes Try.prog (loopAt Try.prog 3 0) 179 0 (mkT [(5, AV.p 0 0), (7, AV.p 1 0), (40, AV.sv 5
  M (opF KK II FF LL TT)), (41, AV.i .i64 (Int.ofNat M)), (42, AV.i .i64 (0 : Int))]) [some (SS.o (SS.new n)), some (AObj.cells 49 5 [] (setAll T.e 0 [AV.lr 2 1 0 (SS.n (SS.new n))
  false, AV.lr 3 2 0 (List.length (SS.P (SS.new n))) false, AV.i .i64 (Int.ofNat (SS.wr (SS.new n))), AV.i .i64 (SS.am (SS.new n)), AV.b (SS.off (SS.new n))])), some (rsR (SS.new
  n)), some (rsP (SS.new n))] (XO.exit 0) (mkT [(5, AV.p 0 0), (7, AV.p 1 0)]) [some (SS.o (fS n M KK II FF LL TT)), some (AObj.cells 49 5 [] (setAll T.e 0 [AV.lr 2 1 0 (SS.n (fS n
  M KK II FF LL TT)) false, AV.lr 3 2 0 (List.length (SS.P (fS n M KK II FF LL TT))) false, AV.i .i64 (Int.ofNat (SS.wr (fS n M KK II FF LL TT))), AV.i .i64 (SS.am (fS n M KK II FF
  LL TT)), AV.b (SS.off (fS n M KK II FF LL TT))])), some (rsR (fS n M KK II FF LL TT)), some (rsP (fS n M KK II FF LL TT))] ∧ Con Try.prog 26 [AV.p 0 0] [some (SS.o (fS n M KK II
  FF LL TT))] (AV.sv 1 (SS.n (fS n M KK II FF LL TT)) (imgF (fS n M KK II FF LL TT))) [Upd.keep] ∧ True ∧ Con Try.prog 25 [AV.sv 1 (SS.n (fS n M KK II FF LL TT)) (imgF (fS n M KK II
  FF LL TT)), AV.lr 0 1 0 (SS.n (fS n M KK II FF LL TT)) false] [some (rsR (fS n M KK II FF LL TT))] (AV.b true) [Upd.gone] ∧ K (Res.rv (AV.b true) { tree := z0 (z0 (z0 (zl (AObj.rows 69 2 (List.length (SS.P (fS n M KK II FF LL TT))) (penF (oA (SS.P (fS n M KK II FF LL TT))) (oB (SS.P (fS n M KK II FF LL TT)))))) T.e) (zl (AObj.cells 49 5 [] (z1 (AV.lr 6 1 0 (SS.n (fS n M KK II FF LL TT)) false) (z1 (AV.lr 7 2 0 (List.length (SS.P (fS n M KK II FF LL TT))) false) (zl (AV.i .i64 (SS.am (fS n M KK II FF LL TT)))) T.e) (z1 (AV.i .i64 (Int.ofNat (SS.wr (fS n M KK II FF LL TT)))) (zl (AV.b (SS.off (fS n M KK II FF LL TT)))) T.e))))) (z0 (zl (AObj.segs 63 33799 [{ st := 0, sz := 1, n := 1, f := oneF (CV.i .i64 (Int.ofNat (SS.n (fS n M KK II FF LL TT)))) }, { st := 1, sz := 65, n := 512, f := durF (SS.dur (fS n M KK II FF LL TT)) (SS.torn (fS n M KK II FF LL TT)) }, { st := 33281, sz := 1, n := 1, f := oneF (CV.opv (pB (SS.P (fS n M KK II FF LL TT))) 66 (pW (SS.P (fS n M KK II FF LL TT)))) }, { st := 33282, sz := 1, n := 512, f := latF (lB (SS.P (fS n M KK II FF LL TT))) (lW (SS.P (fS n M KK II FF LL TT))) }, { st := 33794, sz := 5, n := 1, f := tailF (Int.ofNat (List.length (SS.P (fS n M KK II FF LL TT)))) (Int.ofNat (SS.wr (fS n M KK II FF LL TT))) (SS.off (fS n M KK II FF LL TT)) (SS.armed (fS n M KK II FF LL TT)) (Int.ofNat (SS.left (fS n M KK II FF LL TT))) }])) (z0 T.e T.e)), next := 8, log := [6, 7, 6, 5, 4, 3, 2, 1, 0, 3, 2, 1, 0] })
  Orc.z) := by kernel_rfl

theorem playsB_vc (n : Int) (M : Nat) (KK II FF LL : Nat → Int) (TT : Nat → Bool) (K : Res → Orc → Prop) : runK Try.prog 1000000 (.call 3 [.i .i64 n, .sv 5 M (opF KK II FF LL TT)]
  (mkH [])) (Orc.cal [] (AV.b true) [] (Orc.c (Orc.cal [] (AV.tup [AV.p0, AV.i .i64 (2 : Int)]) [] (Orc.cal [] (AV.tup [AV.p0, AV.i .i64 (2 : Int)]) [] (Orc.c (Orc.c (Orc.c (Orc.c
  (Orc.c (Orc.c (Orc.c (Orc.c Orc.z)))))))))))) K = (Con Try.prog 4 [] [] (AV.b true) [] ∧ True ∧ Con Try.prog 5 [AV.i .i64 n] [] (AV.tup [AV.p0, AV.i .i64 (2 : Int)]) [] ∧ Con
  Try.prog 6 [AV.i .i64 n] [] (AV.tup [AV.p0, AV.i .i64 (2 : Int)]) [] ∧ True ∧ True ∧ True ∧ True ∧ K (Res.rv (AV.b true) { tree := T.e, next := 0, log := [] }) Orc.z) := by
  kernel_rfl

theorem playX1_vc (s : SS) (M k : Nat) (KK II FF LL : Nat → Int) (TT : Nat → Bool) (h0 : decide (Int.ofNat k < Int.ofNat M) = false) (K : Res → Orc → Prop) : runK Try.prog 1000000
  (.code (loopAt Try.prog 3 0) 179 (mkT [(5, .p 0 0), (7, .p 1 0), (40, .sv 5 M (opF KK II FF LL TT)), (41, .i .i64 (Int.ofNat M)), (42, .i .i64 (Int.ofNat k))]) (mkH [some s.o,
  some (.cells 49 5 [] (setAll .e 0 [.lr 2 1 0 s.n false, .lr 3 2 0 s.P.length false, .i .i64 (Int.ofNat s.wr), .i .i64 s.am, .b s.off])), some (rsR s), some (rsP s)])) (Orc.f
  Orc.z) K = (decide (Int.ofNat k < Int.ofNat M) = false ∧ K (Res.st (XO.exit 0) (z0 (z0 (z0 (zl (AV.p 1 0)) (z0 T.e (z0 (zl (AV.b (decide (Int.ofNat k < Int.ofNat M)))) T.e))) (z1
  (AV.p 0 0) (z0 T.e (z0 (zl (AV.i .i64 (Int.ofNat M))) T.e)) T.e)) (z0 (z0 (z0 T.e (z0 (zl (AV.sv 5 M (opF KK II FF LL TT))) T.e)) T.e) (z0 (z0 T.e (z0 (zl (AV.i .i64 (Int.ofNat
  k))) T.e)) T.e))) { tree := z1 (AObj.segs 63 33799 [{ st := 0, sz := 1, n := 1, f := oneF (CV.i .i64 (Int.ofNat (SS.n s))) }, { st := 1, sz := 65, n := 512, f := durF (SS.dur s) (SS.torn s) }, { st := 33281, sz := 1, n := 1, f := oneF (CV.opv (pB (SS.P s)) 66 (pW (SS.P s))) }, { st := 33282, sz := 1, n := 512, f := latF (lB (SS.P s)) (lW (SS.P s)) }, { st := 33794, sz := 5, n := 1, f := tailF (Int.ofNat (List.length (SS.P s))) (Int.ofNat (SS.wr s)) (SS.off s) (SS.armed s) (Int.ofNat (SS.left s)) }]) (z1 (AObj.cells 49 5 [] (z1 (AV.lr 2 1 0 (SS.n s) false) (z1 (AV.lr 3 2 0 (List.length (SS.P s)) false) (zl (AV.i .i64 (SS.am s))) T.e) (z1 (AV.i .i64 (Int.ofNat (SS.wr s))) (zl (AV.b (SS.off s))) T.e))) (zl (AObj.rows 69 2 (List.length (SS.P s)) (penF (oA (SS.P s)) (oB (SS.P s))))) T.e) (zl (AObj.rows 33 1 (SS.n s) (imgF s))), next := 4, log := [] })
  Orc.z) := by kernel_rfl

theorem playX2_vc (s : SS) (M k : Nat) (KK II FF LL : Nat → Int) (TT : Nat → Bool) (h0 : decide (Int.ofNat k < Int.ofNat M) = true) (h4 : decide ((400 : Int) < Int.ofNat k) = true)
  (K : Res → Orc → Prop) : runK Try.prog 1000000 (.code (loopAt Try.prog 3 0) 179 (mkT [(5, .p 0 0), (7, .p 1 0), (40, .sv 5 M (opF KK II FF LL TT)), (41, .i .i64 (Int.ofNat M)),
  (42, .i .i64 (Int.ofNat k))]) (mkH [some s.o, some (.cells 49 5 [] (setAll .e 0 [.lr 2 1 0 s.n false, .lr 3 2 0 s.P.length false, .i .i64 (Int.ofNat s.wr), .i .i64 s.am, .b
  s.off])), some (rsR s), some (rsP s)])) (Orc.t (Orc.t Orc.z)) K = (decide (Int.ofNat k < Int.ofNat M) = true ∧ ((0 : Int) ≤ Int.ofNat k ∧ Int.ofNat k < ↑M) ∧ True ∧ decide ((400 :
  Int) < Int.ofNat k) = true ∧ K (Res.st (XO.exit 0) (z0 (z0 (z0 (z1 (AV.p 1 0) (z0 T.e (zl (AV.i .i64 (Int.ofNat k)))) T.e) (z0 T.e (z0 (zl (AV.b (decide (Int.ofNat k < Int.ofNat
  M)))) T.e))) (z1 (AV.p 0 0) (z1 (AV.i .i64 (Int.ofNat k)) T.e (z0 (zl (AV.i .i64 (Int.ofNat M))) T.e)) (z0 T.e (z0 (zl (AV.pv 5 (opF KK II FF LL TT k))) T.e)))) (z0 (z0 (z0 (z0
  T.e (zl (AV.b (decide ((400 : Int) < Int.ofNat k))))) (z0 (zl (AV.sv 5 M (opF KK II FF LL TT))) T.e)) (z0 T.e (z0 (zl (AV.i .i64 (Int.ofNat k))) T.e))) (z0 (z1 (AV.p 4 0) T.e (z0
  (zl (AV.i .i64 (Int.ofNat k))) T.e)) (z0 T.e (z0 (zl (AV.agg [AV.i .i64 (KK k), AV.i .i64 (II k), AV.i .u8 (FF k), AV.i .i64 (LL k), AV.b (TT k)])) T.e))))) { tree := z1 (AObj.segs 63 33799 [{ st := 0, sz := 1, n := 1, f := oneF (CV.i .i64 (Int.ofNat (SS.n s))) }, { st := 1, sz := 65, n := 512, f := durF (SS.dur s) (SS.torn s) }, { st := 33281, sz := 1, n := 1, f := oneF (CV.opv (pB (SS.P s)) 66 (pW (SS.P s))) }, { st := 33282, sz := 1, n := 512, f := latF (lB (SS.P s)) (lW (SS.P s)) }, { st := 33794, sz := 5, n := 1, f := tailF (Int.ofNat (List.length (SS.P s))) (Int.ofNat (SS.wr s)) (SS.off s) (SS.armed s) (Int.ofNat (SS.left s)) }]) (z1 (AObj.cells 49 5 [] (z1 (AV.lr 2 1 0 (SS.n s) false) (z1 (AV.lr 3 2 0 (List.length (SS.P s)) false) (zl (AV.i .i64 (SS.am s))) T.e) (z1 (AV.i .i64 (Int.ofNat (SS.wr s))) (zl (AV.b (SS.off s))) T.e))) (zl (AObj.rows 69 2 (List.length (SS.P s)) (penF (oA (SS.P s)) (oB (SS.P s))))) T.e) (z1 (AObj.rows 33 1 (SS.n s) (imgF s)) (zl (AObj.cells 32 5 [AV.i .i64 (0 : Int), AV.i .i64 (0 : Int), AV.i .u8 (0 : Int), AV.i .i64 (0 : Int), AV.b false] (z1 (AV.i .i64 (KK k)) (z1 (AV.i .i64 (II k)) (zl (AV.i .i64 (LL k))) T.e) (z1 (AV.i .u8 (FF k)) (zl (AV.b (TT k))) T.e)))) T.e), next := 5, log := [4, 4] })
  Orc.z) := by kernel_rfl

theorem play_lp (n M : Nat) (h1 : 1 ≤ n) (hn : n ≤ 512) (KK II FF LL : Nat → Int) (TT : Nat → Bool) (hI : ∀ k, II k ≤ 9223372036854775807) :
    LDoes Try.prog (loopAt Try.prog 3 0) 179 0 (mkT (plT M 0 KK II FF LL TT)) (plO (SS.new n)) (.exit 0) (mkT [(5, .p 0 0), (7, .p 1 0)]) (plO (fS n M KK II FF LL TT)) := by
  refine loop_indV (D := Nat) (l' := [(5, .p 0 0), (7, .p 1 0)]) (fun k => (plT M k KK II FF LL TT, plO (plS n KK II FF LL TT k))) (fun k => M - k) (fun k => k ≤ min M 401) ?_ 0 (Nat.zero_le _)
  intro k hk
  refine ⟨Nat.zero_le _, 1000000, ?_⟩
  by_cases hlt : k < min M 401
  · obtain ⟨o, hr⟩ := play_round n M k KK II FF LL TT (plS n KK II FF LL TT k) (PlI.at_ hn KK II FF LL TT hI k) (by omega) (by omega)
    refine ⟨o, hr _ fun σ tm1 H1 o st => .inl ⟨k + 1, σ, [], tm1, H1, _, _, (by omega : k + 1 ≤ min M 401), by show M - (k + 1) < M - k; omega, rfl, st, .refl _, .refl _⟩⟩
  · have e : k = min M 401 := by omega
    have fin : ∀ (tm1 : T AV) (H1 : AH), StIs 0 [0, 1, 2, 3] [] tm1 H1 [(5, .p 0 0), (7, .p 1 0)] (plO (plS n KK II FF LL TT k)) → RoundV 0 (fun k => (plT M k KK II FF LL TT, plO (plS n KK II FF LL TT k))) (fun k => M - k) (fun k => k ≤ min M 401) (.exit 0) [(5, .p 0 0), (7, .p 1 0)] (plO (fS n M KK II FF LL TT)) k (.st (.exit 0) tm1 H1) := fun tm1 H1 st => by
      refine .inr ⟨[0, 1, 2, 3], [], tm1, H1, _, _, rfl, by simp, st, .refl _, ?_⟩
      unfold fS
      rw [← e]; exact .refl _
    by_cases h0 : k < M
    · have h4 : decide ((400 : Int) < Int.ofNat k) = true := decide_eq_true (by simp; omega)
      have d0 : decide (Int.ofNat k < Int.ofNat M) = true := decide_eq_true (by simp; omega)
      exact ⟨_, (playX2_vc (plS n KK II FF LL TT k) M k KK II FF LL TT d0 h4 _).mpr ⟨d0, ⟨by simp, by simp; omega⟩, trivial, h4, fin _ _ (st_is [0, 1, 2, 3] (by kernel_rfl) rfl rfl rfl (by refine ⟨?_, ?_, ?_, ?_, ?_, ?_, ?_, ?_, trivial⟩ <;> kernel_rfl) rfl)⟩⟩
    · have d0 : decide (Int.ofNat k < Int.ofNat M) = false := decide_eq_false (by simp; omega)
      exact ⟨_, (playX1_vc (plS n KK II FF LL TT k) M k KK II FF LL TT d0 _).mpr ⟨d0, fin _ _ (st_is [0, 1, 2, 3] (by kernel_rfl) rfl rfl rfl (by refine ⟨?_, ?_, ?_, ?_, ?_, ?_, ?_, ?_, trivial⟩ <;> kernel_rfl) rfl)⟩⟩

theorem img_im {s : SS} (h : Byt s) : imgF s = imF (fun i => bif s.torn i then 0 else 64) fun i k => (s.dur i k).toNat := by
  funext i j
  unfold imgF imF
  congr 1
  funext k _
  obtain ⟨m, _, e⟩ := h.dur i k
  show CV.i .u8 (s.dur i k) = CV.i .u8 (Int.ofNat (s.dur i k).toNat)
  rw [e]; rfl
theorem same2_con (s : SS) (hn : s.n ≤ 512) (hb : Byt s) : Con Try.prog 25 [.sv 1 s.n (imgF s), .lr 0 1 0 s.n false] [some (rsR s)] (.b true) [.gone] := by
  have k := same_con s.n _ _ _ _ hn fun i (_ : i < s.n) => ⟨Eq.refl ((fun i => bif s.torn i then 0 else 64) i), fun k _ => Eq.refl ((fun i k => (s.dur i k).toNat) i k)⟩
  rw [← img_im hb] at k
  exact (k.slot rfl (by kernel_rfl) (by kernel_rfl)).thaw (us0 := [.gone]) 0 (e := 33) (sz := 1) (n := s.n) (f := imgF s) rfl ⟨rfl, trivial⟩ ⟨.inl rfl, .inr ⟨by kernel_rfl, ⟨rfl, by omega⟩, rfl⟩, trivial⟩ rfl

/-- StorePlays answers true. -/
theorem plays_con (n : Int) (M : Nat) (KK II FF LL : Nat → Int) (TT : Nat → Bool) (hI : ∀ k, II k ≤ 9223372036854775807) : Con Try.prog 3 [.i .i64 n, .sv 5 M (opF KK II FF LL TT)] [] (.b true) [] := by
  by_cases h : 1 ≤ n ∧ n ≤ 512
  · obtain ⟨m, rfl⟩ : ∃ m, n = Int.ofNat m := ⟨n.toNat, by simp; omega⟩
    have h1 : 1 ≤ m := by have := h.1; simp at this; omega
    have h2 : m ≤ 512 := by have := h.2; simp at this; omega
    have hI2 : PlI m (min M 401) (fS m M KK II FF LL TT) := PlI.at_ h2 KK II FF LL TT hI _
    have c1 : Con Try.prog 5 [.i .i64 (Int.ofNat m)] [] (.tup [.p 0 0, .i .i64 0]) [.set (SS.o (SS.new m))] := new_con m h1 h2
    have c2 := rnew2_con m h1 h2
    have c3 := image_con (fS m M KK II FF LL TT) hI2.ok.n
    have c4 := same2_con (fS m M KK II FF LL TT) hI2.ok.n hI2.byt
    have lp := play_lp m M h1 h2 KK II FF LL TT hI
    exact con_plain rfl ((plays_vc m M KK II FF LL TT _).mpr ⟨awake_con, trivial, c1, c2, trivial, trivial, trivial, trivial, lp, c3, trivial, c4, _, _, rfl, rfl⟩)
  · have hb : n < 1 ∨ 512 < n := by omega
    exact con_plain rfl ((playsB_vc n M KK II FF LL TT _).mpr ⟨awake_con, trivial, newBad_con n hb, rnewBad_con n hb, trivial, trivial, trivial, trivial, _, _, rfl, rfl⟩)

end Go.Proofs.St
