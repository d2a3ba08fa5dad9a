/- Runs over unknown values, told by the kernel: part LbB. -/
import Derived.Test.YtnekjjidcknieaaLbA
set_option linter.unusedSimpArgs false
set_option linter.unusedVariables false
/- First come, first served: what is looked at behind each call. -/
namespace Go.Proofs.Lk
open Go Go.Sim Go.Proofs
def chk (Q : List HQ) (h : Nat → Int) (gone : Int) : Nat → List HQ → Bool
  | _, [] => true
  | at', x :: q => if x.a = gone then chk Q h gone at' q else if at' < Q.length ∧ qA Q at' = x.a then chk Q h gone (at' + 1) q else (decide (at' = 0 ∧ 0 ≤ x.a ∧ x.a ≤ 2 ∧ x.m ≤ hx h x.a) && chk Q h gone at' q)
theorem chk_cons (Q : List HQ) (h : Nat → Int) (gone : Int) (at' : Nat) (x : HQ) (q : List HQ) : chk Q h gone at' (x :: q) = if x.a = gone then chk Q h gone at' q else if at' < Q.length ∧ qA Q at' = x.a then chk Q h gone (at' + 1) q else (decide (at' = 0 ∧ 0 ≤ x.a ∧ x.a ≤ 2 ∧ x.m ≤ hx h x.a) && chk Q h gone at' q) := rfl
theorem chk_filter (Q : List HQ) (h : Nat → Int) (gone : Int) : ∀ (q : List HQ) (at' : Nat), chk Q h gone at' q = chk Q h gone at' (q.filter fun x => decide (x.a ≠ gone))
  | [], _ => rfl
  | x :: q, at' => by
    by_cases c : x.a = gone
    · rw [chk_cons, if_pos c, List.filter_cons_of_neg (by simp [c])]
      exact chk_filter Q h gone q at'
    · rw [List.filter_cons_of_pos (by simp [c]), chk_cons, chk_cons, if_neg c, if_neg c, ← chk_filter Q h gone q, ← chk_filter Q h gone q]
theorem chk_of {Q0 p Q : List HQ} {h : Nat → Int} {gone : Int} (e : Q0 = p ++ Q) (once : Q0.Pairwise (fun x y => x.a ≠ y.a)) (hp : ∀ x ∈ p, (0 ≤ x.a ∧ x.a ≤ 2) ∧ hx h x.a = x.m) {f : List HQ} (hf : f.length ≤ Q0.length) (hg : ∀ x ∈ f, x.a ≠ gone)
    (hs : ∀ j (h1 : j < f.length) (h2 : j < Q0.length), f[j].a = Q0[j].a ∧ f[j].m ≤ Q0[j].m) : ∀ d j, j + d = f.length → chk Q h gone (j - p.length) (f.drop j) = true := by
  intro d
  induction d with
  | zero =>
    intro j hj
    rw [List.drop_eq_nil_of_le (by omega)]
    rfl
  | succ d ih =>
    intro j hj
    have hjl : j < f.length := by omega
    have hj0 : j < Q0.length := by omega
    have ih' := ih (j + 1) (by omega)
    rw [List.drop_eq_getElem_cons hjl, chk_cons, if_neg (hg _ (List.getElem_mem hjl))]
    obtain ⟨s1, s2⟩ := hs j hjl hj0
    have lenQ : Q0.length = p.length + Q.length := by rw [e, List.length_append]
    by_cases c : j < p.length
    · have ea : Q0[j] = p[j] := by simp only [e]; rw [List.getElem_append_left c]
      obtain ⟨b, b2⟩ := hp p[j] (List.getElem_mem c)
      rw [if_neg]
      · rw [show j + 1 - p.length = j - p.length by omega] at ih'
        rw [ih', Bool.and_true, decide_eq_true_eq, s1, ea]
        refine ⟨by omega, b.1, b.2, ?_⟩
        rw [b2, ← ea]
        exact s2
      · rintro ⟨c1, c2⟩
        have c1' : 0 < Q.length := by omega
        rw [show j - p.length = 0 by omega, qA_lt c1', s1] at c2
        have e9 : Q0[p.length]'(by omega) = Q[0] := by
          simp only [e]
          rw [List.getElem_append_right (Nat.le_refl _)]
          simp
        rw [← e9] at c2
        have := once_idx once (by omega) hj0 c2
        omega
    · rw [if_pos]
      · rw [show j + 1 - p.length = j - p.length + 1 by omega] at ih'
        exact ih'
      · have c1' : j - p.length < Q.length := by omega
        refine ⟨c1', ?_⟩
        rw [qA_lt c1', s1]
        have : Q0[j] = Q[j - p.length] := by
          simp only [e]
          rw [List.getElem_append_right (by omega)]
        rw [this]
theorem inQ_at (k m : Int) : ∀ (q : List HQ) (d : Int), hqQ k d q < m → q.length ≤ (inQ k m q).length ∧ ∀ j (h1 : j < q.length) (h2 : j < (inQ k m q).length), q[j].a = (inQ k m q)[j].a ∧ q[j].m ≤ (inQ k m q)[j].m
  | [], d, _ => ⟨Nat.zero_le _, fun j h => absurd h (by simp)⟩
  | x :: q, d, hlt => by
    unfold hqQ at hlt
    by_cases c : x.a = k
    · rw [if_pos c] at hlt
      have e : inQ k m (x :: q) = ⟨k, m, 0⟩ :: q := by unfold inQ; rw [if_pos c]
      refine ⟨by rw [e]; simp, fun j h1 h2 => ?_⟩
      cases j with
      | zero => refine ⟨?_, ?_⟩ <;> simp only [e, List.getElem_cons_zero] <;> omega
      | succ j => refine ⟨?_, ?_⟩ <;> simp only [e, List.getElem_cons_succ] <;> first | done | exact Int.le_refl _
    · rw [if_neg c] at hlt
      have e : inQ k m (x :: q) = x :: inQ k m q := by conv => lhs; unfold inQ
                                                       rw [if_neg c]
      obtain ⟨i1, i2⟩ := inQ_at k m q d hlt
      refine ⟨by rw [e]; simp; exact i1, fun j h1 h2 => ?_⟩
      cases j with
      | zero => refine ⟨?_, ?_⟩ <;> simp only [e, List.getElem_cons_zero] <;> first | done | exact Int.le_refl _
      | succ j =>
        simp only [e, List.getElem_cons_succ]
        exact i2 j (by simpa using h1) (by rw [e] at h2; simpa using h2)
theorem rm_filter (k : Int) : ∀ q : List HQ, q.Pairwise (fun x y => x.a ≠ y.a) → rmQ k q = q.filter fun x => decide (x.a ≠ k)
  | [], _ => rfl
  | x :: q, h => by
    rw [List.pairwise_cons] at h
    unfold rmQ
    by_cases c : x.a = k
    · rw [if_pos c, List.filter_cons_of_neg (by simp [c])]
      symm
      rw [List.filter_eq_self]
      intro y hy
      have := h.1 y hy
      simp only [decide_eq_true_eq]
      rw [← c]
      exact fun e => this e.symm
    · rw [if_neg c, List.filter_cons_of_pos (by simp [c]), rm_filter k q h.2]
theorem chk_self {q : List HQ} {h : Nat → Int} {gone : Int} (once : q.Pairwise (fun x y => x.a ≠ y.a)) (hg : ∀ x ∈ q, x.a ≠ gone) : chk q h gone 0 q = true := by
  have := chk_of (Q0 := q) (p := []) (Q := q) (h := h) (gone := gone) rfl once (by simp) (f := q) (Nat.le_refl _) hg (fun j h1 h2 => ⟨rfl, Int.le_refl _⟩) q.length 0 (by omega)
  simpa using this
theorem chk_on {r0 : Rw} (w : RowW r0) {gone : Int} {f : List HQ} (hf : f.length ≤ r0.q.length) (hg : ∀ x ∈ f, x.a ≠ gone) (hs : ∀ j (h1 : j < f.length) (h2 : j < r0.q.length), f[j].a = r0.q[j].a ∧ f[j].m ≤ r0.q[j].m) : chk (onR r0).q (onR r0).h gone 0 f = true := by
  obtain ⟨p, p1, p2, p3⟩ := goL_spec r0.q r0.h w
  have := chk_of (Q0 := r0.q) (p := p) (Q := (goL r0.h r0.q).q) (h := (goL r0.h r0.q).h) (gone := gone) p1 w.once (fun x hx9 => ⟨by
    have := (mw_iff.1 (w.wait x (by rw [p1]; exact List.mem_append_left _ hx9))).1
    omega, p2 x hx9⟩) hf hg hs f.length 0 (by omega)
  rw [Nat.zero_sub, List.drop_zero] at this
  exact this
theorem chk_ask {r : Rw} (w : RowW r) {k m : Int} (hk : 0 ≤ k ∧ k < 3) (hm : m = 1 ∨ m = 2) : chk (onR (askR r k m)).q (onR (askR r k m)).h (-1) 0 r.q = true := by
  have wa := ask_w w hk hm
  have hg : ∀ x ∈ r.q, x.a ≠ -1 := fun x hx9 => by have := (mw_iff.1 (w.wait x hx9)).1; omega
  refine chk_on wa ?_ hg ?_
  · rw [askR_eq]
    split
    · rename_i c; exact (inQ_at k m r.q _ c).1
    · exact Nat.le_refl _
  · rw [askR_eq]
    split
    · rename_i c; exact (inQ_at k m r.q _ c).2
    · exact fun j h1 h2 => ⟨rfl, Int.le_refl _⟩
theorem chk_free {r : Rw} (w : RowW r) {k : Int} (hk : 0 ≤ k ∧ k < 3) : chk (onR (freeR r k)).q (onR (freeR r k)).h k 0 r.q = true := by
  have wf := free_w w hk
  have e : (freeR r k).q = r.q.filter fun x => decide (x.a ≠ k) := by rw [freeR_eq]; exact rm_filter k r.q w.once
  rw [chk_filter, ← e]
  refine chk_on wf (Nat.le_refl _) (fun x hx9 => ?_) (fun j h1 h2 => ⟨rfl, Int.le_refl _⟩)
  rw [e, List.mem_filter] at hx9
  simpa using hx9.2
set_option maxRecDepth 20000
theorem s7a_vc (t : TS) (q n i N j at9 : Nat) (KK L S M A B W : Nat → Int) (gn : Int) (h1 : decide (Int.ofNat j < Int.ofNat N) = true) (h2 : decide (A (Int.toNat (Int.ofNat j)) = gn) = true) (K : Res → Orc → Prop) : runK Try.prog 1000000 (.code (loopAt Try.prog 7 1) 202 (mkT [(1, .i .i64 (Int.ofNat q)), (5, .p 0 0), (11, .i .i64 gn), (12, .i .i64 (Int.ofNat at9)), (28, .sv 4 n (opC KK L S M)), (29, .i .i64 (Int.ofNat n)), (30, .i .i64 (Int.ofNat i)), (80, svN N A B W), (81, .i .i64 (Int.ofNat N)), (82, .i .i64 (Int.ofNat j))]) (mkH [some (tsF t)])) (Orc.t (Orc.t Orc.z)) K = (decide (Int.ofNat j < Int.ofNat N) = true ∧ (0 ≤ Int.ofNat j ∧ Int.ofNat j < ↑N) ∧ True ∧ True ∧ decide (A j = gn) = true ∧ ((-9223372036854775808) ≤ Int.ofNat j + 1 ∧ Int.ofNat j + (1 : Int) ≤ (9223372036854775807 : Int)) ∧ K (Res.st XO.nrm (z0 (z1 (AV.i .i64 (Int.ofNat q)) (z0 (z0 T.e (z0 T.e (z0 (zl (AV.i .i64 (A
  j))) T.e))) (z1 (AV.i .i64 gn) (z0 T.e (z0 (zl (AV.b (decide (Int.ofNat j < Int.ofNat N)))) T.e)) T.e)) (z1 (AV.p 0 0) (z0 (z0 T.e (z0 (zl (AV.i .i64 (Int.ofNat N))) T.e)) (z0 T.e (z0 (zl (AV.b (decide (A j = gn)))) T.e))) (z0 (z0 T.e (z0 (zl (AV.agg [AV.i .i64 (A j), AV.i .i64 (B j), AV.i .i64 (W j)])) T.e)) (z1 (AV.i .i64 (Int.ofNat n)) (z0 (z0 (zl (AV.i .i64 (Int.ofNat j + 1))) T.e) T.e) T.e)))) (z0 (z0 (z0 (z0 T.e (z0 (zl (AV.sv 3 N (qF A B W))) T.e)) (z0 T.e (z0 (zl (AV.i .i64 gn)) T.e))) (z1 (AV.i .i64 (Int.ofNat at9)) (z0 T.e (z0 (zl (AV.pv 3 (qF A B W j))) T.e)) (zl (AV.sv 4 n (opC KK L S M))))) (z0 (z0 (z0 T.e (z0 (zl (AV.i .i64 (Int.ofNat j + 1))) T.e)) T.e) (z1 (AV.p 1 0) (z0 T.e (z0 (zl (AV.p 1 0)) T.e)) (zl (AV.i .i64 (Int.ofNat i))))))) ⟨z1 (tsF t) (zl (AObj.cells 61 3 [AV.i .i64 0, AV.i .i64 0, AV.i .i64 0] (z1 (AV.i .i64 (A j)) (zl (AV.i .i64 (B j))) (zl (AV.i .i64 (W
  j)))))) T.e, 2, [1, 1]⟩) Orc.z) := by kernel_rfl
theorem s7b_vc (t : TS) (q n i N j at9 : Nat) (KK L S M A B W : Nat → Int) (gn : Int) (h1 : decide (Int.ofNat j < Int.ofNat N) = true) (h2 : decide (A (Int.toNat (Int.ofNat j)) = gn) = false) (h3 : decide (Int.ofNat at9 < Int.ofNat (t.n q)) = true) (h4 : decide (t.A q at9 = A (Int.toNat (Int.ofNat j))) = true) (K : Res → Orc → Prop) : runK Try.prog 1000000 (.code (loopAt Try.prog 7 1) 202 (mkT [(1, .i .i64 (Int.ofNat q)), (5, .p 0 0), (11, .i .i64 gn), (12, .i .i64 (Int.ofNat at9)), (28, .sv 4 n (opC KK L S M)), (29, .i .i64 (Int.ofNat n)), (30, .i .i64 (Int.ofNat i)), (80, svN N A B W), (81, .i .i64 (Int.ofNat N)), (82, .i .i64 (Int.ofNat j))]) (mkH [some (tsF t)])) (Orc.t (Orc.f (Orc.s (Orc.t (Orc.t (Orc.t (Orc.s (Orc.t (Orc.t (Orc.t (Orc.t (Orc.t (Orc.t (Orc.t (Orc.t (Orc.t (Orc.t (Orc.f (Orc.f (Orc.f (Orc.f (Orc.f (Orc.f (Orc.f (Orc.f (Orc.f (Orc.c Orc.z)))))))))))))))))))) Orc.z))))
  Orc.z))) K = (decide (Int.ofNat j < Int.ofNat N) = true ∧ (0 ≤ Int.ofNat j ∧ Int.ofNat j < ↑N) ∧ True ∧ True ∧ decide (A j = gn) = false ∧ True ∧ (0 ≤ Int.ofNat q ∧ Int.ofNat q < 19) ∧ q < 19 ∧ decide (Int.ofNat at9 < Int.ofNat (TS.n t q)) = true ∧ decide (Int.ofNat at9 < Int.ofNat (TS.n t q)) = true ∧ True ∧ decide (Int.ofNat at9 < Int.ofNat (TS.n t q)) = true ∧ (0 ≤ Int.ofNat q ∧ Int.ofNat q < 19) ∧ decide (Int.ofNat at9 < Int.ofNat (TS.n t q)) = true ∧ q < 19 ∧ decide (Int.ofNat at9 < Int.ofNat (TS.n t q)) = true ∧ decide (Int.ofNat at9 < Int.ofNat (TS.n t q)) = true ∧ (0 ≤ Int.ofNat at9 ∧ Int.ofNat at9 < ↑(TS.n t q)) ∧ decide (Int.ofNat at9 < Int.ofNat (TS.n t q)) = true ∧ True ∧ decide (Int.ofNat at9 < Int.ofNat (TS.n t q)) = true ∧ True ∧ decide (Int.ofNat at9 < Int.ofNat (TS.n t q)) = true ∧ True ∧ decide (Int.ofNat at9 < Int.ofNat (TS.n t q)) = true ∧ decide (Int.ofNat at9 <
  Int.ofNat (TS.n t q)) = true ∧ decide (Int.ofNat at9 < Int.ofNat (TS.n t q)) = true ∧ decide (TS.A t q at9 = A j) = true ∧ ((-9223372036854775808) ≤ Int.ofNat at9 + 1 ∧ Int.ofNat at9 + (1 : Int) ≤ (9223372036854775807 : Int)) ∧ True ∧ (!decide (TS.A t q at9 = A j)) = false ∧ (!decide (TS.A t q at9 = A j)) = false ∧ (!decide (TS.A t q at9 = A j)) = false ∧ (!decide (TS.A t q at9 = A j)) = false ∧ (!decide (TS.A t q at9 = A j)) = false ∧ (!decide (TS.A t q at9 = A j)) = false ∧ (!decide (TS.A t q at9 = A j)) = false ∧ (!decide (TS.A t q at9 = A j)) = false ∧ (!decide (TS.A t q at9 = A j)) = false ∧ ((-9223372036854775808) ≤ Int.ofNat j + 1 ∧ Int.ofNat j + (1 : Int) ≤ (9223372036854775807 : Int)) ∧ K (Res.st XO.nrm (z0 (z1 (AV.i .i64 (Int.ofNat q)) (z0 (z0 (z1 (AV.b (decide (TS.A t q at9 = A j))) (z0 (z0 (zl (AV.tup [])) T.e) (zl (AV.i .i64 (Int.ofNat (TS.n t q))))) (z0 T.e (zl (AV.i .i64
  (Int.ofNat at9))))) (z0 (z0 (z0 (zl (AV.tup [])) T.e) (zl (AV.pv 3 (qF (TS.A t (Int.toNat (Int.ofNat q))) (TS.M t (Int.toNat (Int.ofNat q))) (TS.W t (Int.toNat (Int.ofNat q))) at9)))) (z0 (zl (AV.i .i64 (A j))) (zl (AV.tup []))))) (z1 (AV.i .i64 gn) (z0 (z0 (z0 (zl (AV.tup [])) T.e) (zl (AV.p 0 101))) (z0 (zl (AV.b (decide (Int.ofNat j < Int.ofNat N)))) (zl (AV.b !decide (TS.A t q at9 = A j))))) (z0 (z0 (z0 (zl (AV.tup [])) T.e) (zl (AV.i .i64 (A j)))) (z0 (zl (AV.i .i64 (Int.ofNat q))) (zl (AV.tup [])))))) (z1 (AV.p 0 0) (z0 (z0 (z0 (z0 (zl (AV.tup [])) T.e) (zl (AV.b (decide (Int.ofNat at9 < Int.ofNat (TS.n t q)))))) (z0 (zl (AV.i .i64 (Int.ofNat N))) (zl (AV.b (decide (TS.A t q at9 = A j)))))) (z0 (z0 (z0 (zl (AV.tup [])) T.e) (zl (AV.i .i64 (TS.A t q at9)))) (z0 (zl (AV.b (decide (A j = gn)))) (zl (AV.tup []))))) (z0 (z0 (z0 (z0 (zl (AV.tup [])) T.e) (zl (AV.sv 3 (TS.n t q) (qF
  (TS.A t (Int.toNat (Int.ofNat q))) (TS.M t (Int.toNat (Int.ofNat q))) (TS.W t (Int.toNat (Int.ofNat q))))))) (z0 (zl (AV.agg [AV.i .i64 (A j), AV.i .i64 (B j), AV.i .i64 (W j)])) (zl (AV.tup [])))) (z1 (AV.i .i64 (Int.ofNat n)) (z0 (z0 (zl (AV.i .i64 (Int.ofNat j + 1))) T.e) (zl (AV.b (decide (TS.A t q at9 = A j))))) (z0 (zl (AV.ps 0 101 1 19 q)) (zl (AV.tup []))))))) (z0 (z0 (z0 (z0 (z0 (z0 (zl (AV.tup [])) T.e) (zl (AV.b (decide (Int.ofNat at9 < Int.ofNat (TS.n t q)))))) (z0 (zl (AV.sv 3 N (qF A B W))) (zl (AV.i .i64 (Int.ofNat at9 + 1))))) (z0 (z0 (z0 (zl (AV.tup [])) T.e) (zl (AV.pv 3 fun j => qF (TS.A t (Int.toNat (Int.ofNat q))) (TS.M t (Int.toNat (Int.ofNat q))) (TS.W t (Int.toNat (Int.ofNat q))) at9 (0 + j)))) (z0 (zl (AV.i .i64 gn)) (zl (AV.tup []))))) (z1 (AV.i .i64 (Int.ofNat at9 + 1)) (z0 (z0 (z0 (zl (AV.tup [])) T.e) (zl (AV.ps 0 101 1 19 q))) (z0 (zl (AV.pv 3 (qF A B W
  j))) (zl (AV.tup [])))) (z1 (AV.sv 4 n (opC KK L S M)) (z0 (z0 (zl (AV.b false)) T.e) (zl (AV.b (decide (TS.A t q at9 = A j))))) (z0 (zl (AV.p 0 101)) (zl (AV.tup [])))))) (z0 (z0 (z0 (z0 (z0 (zl (AV.tup [])) T.e) (zl (AV.i .i64 (Int.ofNat q)))) (z0 (zl (AV.i .i64 (Int.ofNat j + 1))) (zl (AV.b !decide (TS.A t q at9 = A j))))) (z0 (z0 (z0 (zl (AV.tup [])) T.e) (zl (AV.p 1 0))) (z0 (zl (AV.i .i64 (Int.ofNat at9))) (zl (AV.tup []))))) (z1 (AV.p 1 0) (z0 (z0 (z0 (zl (AV.tup [])) T.e) (zl (AV.i .i64 (Int.ofNat at9)))) (z0 (zl (AV.p 1 0)) (zl (AV.tup [])))) (z1 (AV.i .i64 (Int.ofNat i)) (z0 T.e (zl (AV.b (decide (TS.A t q at9 = A j))))) (z0 (zl (AV.sv 3 (TS.n t q) (qF (TS.A t (Int.toNat (Int.ofNat q))) (TS.M t (Int.toNat (Int.ofNat q))) (TS.W t (Int.toNat (Int.ofNat q)))))) (zl (AV.tup [])))))))) ⟨z1 (tsF t) (zl (AObj.cells 61 3 [AV.i .i64 0, AV.i .i64 0, AV.i .i64 0] (z1 (AV.i .i64 (A j))
  (zl (AV.i .i64 (B j))) (zl (AV.i .i64 (W j)))))) T.e, 2, [1, 1]⟩) Orc.z) := by kernel_rfl
theorem s7c_vc (t : TS) (q n i N j : Nat) (KK L S M A B W : Nat → Int) (gn : Int) (h1 : decide (Int.ofNat j < Int.ofNat N) = true) (h2 : decide (A (Int.toNat (Int.ofNat j)) = gn) = false) (h3 : decide (0 < Int.ofNat (t.n q)) = false) (h5 : decide (A (Int.toNat (Int.ofNat j)) < 0) = false) (h6 : decide (2 < A (Int.toNat (Int.ofNat j))) = false) (h7 : decide (t.h ((q * 3 + Int.toNat (A (Int.toNat (Int.ofNat j)))) / 3) ((q * 3 + Int.toNat (A (Int.toNat (Int.ofNat j)))) % 3) < B (Int.toNat (Int.ofNat j))) = false) (K : Res → Orc → Prop) : runK Try.prog 1000000 (.code (loopAt Try.prog 7 1) 202 (mkT [(1, .i .i64 (Int.ofNat q)), (5, .p 0 0), (11, .i .i64 gn), (12, .i .i64 0), (28, .sv 4 n (opC KK L S M)), (29, .i .i64 (Int.ofNat n)), (30, .i .i64 (Int.ofNat i)), (80, svN N A B W), (81, .i .i64 (Int.ofNat N)), (82, .i .i64 (Int.ofNat j))]) (mkH [some (tsF t)])) (Orc.t (Orc.f (Orc.s (Orc.f (Orc.f
  (Orc.f (Orc.f (Orc.f (Orc.f (Orc.f (Orc.f (Orc.f (Orc.f (Orc.f (Orc.f (oc 10 (Orc.t (Orc.t (Orc.t (Orc.c (Orc.f (Orc.c (Orc.t (Orc.t (Orc.t (Orc.t (Orc.t (Orc.s (Orc.t (Orc.s (Orc.t (Orc.t (Orc.t (Orc.t (Orc.c (Orc.f (Orc.c (Orc.f Orc.z)))))))) Orc.z)) Orc.z))))))))))))))))))))))))) Orc.z))) K = (decide (Int.ofNat j < Int.ofNat N) = true ∧ (0 ≤ Int.ofNat j ∧ Int.ofNat j < ↑N) ∧ True ∧ True ∧ decide (A j = gn) = false ∧ True ∧ (0 ≤ Int.ofNat q ∧ Int.ofNat q < 19) ∧ q < 19 ∧ decide (0 < Int.ofNat (TS.n t q)) = false ∧ decide (0 < Int.ofNat (TS.n t q)) = false ∧ decide (0 < Int.ofNat (TS.n t q)) = false ∧ decide (0 < Int.ofNat (TS.n t q)) = false ∧ decide (0 < Int.ofNat (TS.n t q)) = false ∧ decide (0 < Int.ofNat (TS.n t q)) = false ∧ decide (0 < Int.ofNat (TS.n t q)) = false ∧ decide (0 < Int.ofNat (TS.n t q)) = false ∧ decide (0 < Int.ofNat (TS.n t q)) = false ∧ decide (0 < Int.ofNat
  (TS.n t q)) = false ∧ decide (0 < Int.ofNat (TS.n t q)) = false ∧ decide (0 < Int.ofNat (TS.n t q)) = false ∧ True ∧ True ∧ (!decide (A j < 0)) = true ∧ True ∧ (!decide (A j < 0)) = true ∧ (!decide (A j < 0)) = true ∧ decide (A j < 0) = false ∧ (!decide (2 < A j)) = true ∧ (!decide (2 < A j)) = true ∧ True ∧ (!decide (2 < A j)) = true ∧ (!decide (2 < A j)) = true ∧ True ∧ (!decide (2 < A j)) = true ∧ (0 ≤ Int.ofNat q ∧ Int.ofNat q < 19) ∧ (!decide (2 < A j)) = true ∧ (0 ≤ A j ∧ A j < 3) ∧ (!decide (2 < A j)) = true ∧ q * 3 + Int.toNat (A j) < 57 ∧ (!decide (2 < A j)) = true ∧ True ∧ (!decide (2 < A j)) = true ∧ (!decide (2 < A j)) = true ∧ decide (2 < A j) = false ∧ decide (TS.h t ((q * 3 + Int.toNat (A j)) / 3) ((q * 3 + Int.toNat (A j)) % 3) < B j) = false ∧ ((-9223372036854775808) ≤ Int.ofNat j + 1 ∧ Int.ofNat j + (1 : Int) ≤ (9223372036854775807 : Int)) ∧ K (Res.st XO.nrm (z0 (z1
  (AV.i .i64 (Int.ofNat q)) (z0 (z0 (z1 (AV.b false) (z0 (z0 (zl (AV.b (decide (2 < A j)))) T.e) (zl (AV.i .i64 (Int.ofNat (TS.n t q))))) T.e) (z0 (z0 (z0 (zl (AV.i .i64 (TS.h t ((q * 3 + Int.toNat (A j)) / 3) ((q * 3 + Int.toNat (A j)) % 3)))) T.e) (zl (AV.tup []))) (z0 (zl (AV.i .i64 (A j))) (zl (AV.p 1 0))))) (z1 (AV.i .i64 gn) (z0 (z0 (z0 (zl (AV.i .i64 (A j))) T.e) (zl (AV.tup []))) (z0 (zl (AV.b (decide (Int.ofNat j < Int.ofNat N)))) (zl (AV.b true)))) (z0 (z0 (z0 (zl (AV.b (decide (TS.h t ((q * 3 + Int.toNat (A j)) / 3) ((q * 3 + Int.toNat (A j)) % 3) < B j)))) T.e) (zl (AV.tup []))) (z0 (zl (AV.i .i64 (Int.ofNat q))) (zl (AV.b (decide (A j < 0)))))))) (z1 (AV.p 0 0) (z0 (z0 (z0 (z0 (zl (AV.i .i64 (Int.ofNat q))) T.e) (zl (AV.b (decide (0 < Int.ofNat (TS.n t q)))))) (z0 (zl (AV.i .i64 (Int.ofNat N))) (zl (AV.b false)))) (z0 (z0 (z0 (zl (AV.i .i64 (B j))) T.e) (zl (AV.tup []))) (z0
  (zl (AV.b (decide (A j = gn)))) (zl (AV.b (decide (A j < 0))))))) (z0 (z0 (z0 (z0 (zl (AV.ps 0 44 3 19 q)) T.e) (zl (AV.tup []))) (z0 (zl (AV.agg [AV.i .i64 (A j), AV.i .i64 (B j), AV.i .i64 (W j)])) (zl (AV.b false)))) (z1 (AV.i .i64 (Int.ofNat n)) (z0 (z0 (zl (AV.i .i64 (Int.ofNat j + 1))) T.e) (zl (AV.b false))) (z0 (zl (AV.ps 0 101 1 19 q)) (zl (AV.i .i64 (A j)))))))) (z0 (z0 (z0 (z0 (z0 (z0 (zl (AV.b (decide (2 < A j)))) T.e) (zl (AV.b (decide (0 < Int.ofNat (TS.n t q)))))) (z0 (zl (AV.sv 3 N (qF A B W))) T.e)) (z0 (z0 (z0 (zl (AV.p 1 1)) T.e) (zl (AV.tup []))) (z0 (zl (AV.i .i64 gn)) (zl (AV.i .i64 (A j)))))) (z1 (AV.i .i64 0) (z0 (z0 (z0 (zl (AV.p 0 44)) T.e) (zl (AV.tup []))) (z0 (zl (AV.pv 3 (qF A B W j))) (zl (AV.i .i64 0)))) (z1 (AV.sv 4 n (opC KK L S M)) (z0 (z0 (zl (AV.b (decide (TS.h t ((q * 3 + Int.toNat (A j)) / 3) ((q * 3 + Int.toNat (A j)) % 3) < B j)))) T.e) (zl
  (AV.tup []))) (z0 (zl (AV.p 0 101)) (zl (AV.p 1 0)))))) (z0 (z0 (z0 (z0 (z0 (zl (AV.p 1 0)) T.e) (zl (AV.tup []))) (z0 (zl (AV.i .i64 (Int.ofNat j + 1))) (zl (AV.b true)))) (z0 (z0 (z0 (zl (AV.b (decide (TS.h t ((q * 3 + Int.toNat (A j)) / 3) ((q * 3 + Int.toNat (A j)) % 3) < B j)))) T.e) (zl (AV.tup []))) (z0 (zl (AV.i .i64 0)) (zl (AV.b (decide (A j < 0))))))) (z1 (AV.p 1 0) (z0 (z0 (z0 (zl (AV.ps 0 44 1 57 (q * 3 + Int.toNat (A j)))) T.e) (zl (AV.tup []))) (z0 (zl (AV.p 1 0)) (zl (AV.b false)))) (z1 (AV.i .i64 (Int.ofNat i)) (z0 T.e (zl (AV.b false))) (z0 (zl (AV.sv 3 (TS.n t q) (qF (TS.A t (Int.toNat (Int.ofNat q))) (TS.M t (Int.toNat (Int.ofNat q))) (TS.W t (Int.toNat (Int.ofNat q)))))) (zl (AV.b (decide (2 < A j)))))))))) ⟨z1 (tsF t) (zl (AObj.cells 61 3 [AV.i .i64 0, AV.i .i64 0, AV.i .i64 0] (z1 (AV.i .i64 (A j)) (zl (AV.i .i64 (B j))) (zl (AV.i .i64 (W j)))))) T.e, 2, [1, 1]⟩)
  Orc.z) := by kernel_rfl
theorem s7d_vc (t : TS) (q n i N j : Nat) (KK L S M A B W : Nat → Int) (gn : Int) (h1 : decide (Int.ofNat j < Int.ofNat N) = true) (h2 : decide (A (Int.toNat (Int.ofNat j)) = gn) = false) (h3 : decide (0 < Int.ofNat (t.n q)) = true) (h4 : decide (t.A q 0 = A (Int.toNat (Int.ofNat j))) = false) (h5 : decide (A (Int.toNat (Int.ofNat j)) < 0) = false) (h6 : decide (2 < A (Int.toNat (Int.ofNat j))) = false) (h7 : decide (t.h ((q * 3 + Int.toNat (A (Int.toNat (Int.ofNat j)))) / 3) ((q * 3 + Int.toNat (A (Int.toNat (Int.ofNat j)))) % 3) < B (Int.toNat (Int.ofNat j))) = false) (K : Res → Orc → Prop) : runK Try.prog 1000000 (.code (loopAt Try.prog 7 1) 202 (mkT [(1, .i .i64 (Int.ofNat q)), (5, .p 0 0), (11, .i .i64 gn), (12, .i .i64 0), (28, .sv 4 n (opC KK L S M)), (29, .i .i64 (Int.ofNat n)), (30, .i .i64 (Int.ofNat i)), (80, svN N A B W), (81, .i .i64 (Int.ofNat N)), (82, .i .i64 (Int.ofNat
  j))]) (mkH [some (tsF t)])) (Orc.t (Orc.f (Orc.s (Orc.t (Orc.t (Orc.t (Orc.s (Orc.t (Orc.t (Orc.t (Orc.t (Orc.t (Orc.t (Orc.t (Orc.t (Orc.t (Orc.f (Orc.t (Orc.t (Orc.t (oc 3 (Orc.t (Orc.c (Orc.t (Orc.t (Orc.t (Orc.t (Orc.t (Orc.f (Orc.t (Orc.t (Orc.t (Orc.t (Orc.t (Orc.t (Orc.s (Orc.t (Orc.s (Orc.t (Orc.t (Orc.t (Orc.t (Orc.t (Orc.f (Orc.t (Orc.f Orc.z)))))))) Orc.z)) Orc.z))))))))))))))))))))))))))))) Orc.z)))) Orc.z))) K = (decide (Int.ofNat j < Int.ofNat N) = true ∧ (0 ≤ Int.ofNat j ∧ Int.ofNat j < ↑N) ∧ True ∧ True ∧ decide (A j = gn) = false ∧ True ∧ (0 ≤ Int.ofNat q ∧ Int.ofNat q < 19) ∧ q < 19 ∧ decide (0 < Int.ofNat (TS.n t q)) = true ∧ decide (0 < Int.ofNat (TS.n t q)) = true ∧ True ∧ decide (0 < Int.ofNat (TS.n t q)) = true ∧ (0 ≤ Int.ofNat q ∧ Int.ofNat q < 19) ∧ decide (0 < Int.ofNat (TS.n t q)) = true ∧ q < 19 ∧ decide (0 < Int.ofNat (TS.n t q)) = true ∧ decide (0 <
  Int.ofNat (TS.n t q)) = true ∧ ((0 : Int) ≤ (0 : Int) ∧ (0 : Int) < ↑(TS.n t q)) ∧ decide (0 < Int.ofNat (TS.n t q)) = true ∧ True ∧ decide (0 < Int.ofNat (TS.n t q)) = true ∧ True ∧ decide (0 < Int.ofNat (TS.n t q)) = true ∧ True ∧ decide (0 < Int.ofNat (TS.n t q)) = true ∧ decide (0 < Int.ofNat (TS.n t q)) = true ∧ decide (0 < Int.ofNat (TS.n t q)) = true ∧ decide (TS.A t q 0 = A j) = false ∧ True ∧ (!decide (TS.A t q 0 = A j)) = true ∧ (!decide (TS.A t q 0 = A j)) = true ∧ (!decide (TS.A t q 0 = A j)) = true ∧ True ∧ (!decide (TS.A t q 0 = A j)) = true ∧ (!decide (TS.A t q 0 = A j)) = true ∧ (!decide (A j < 0)) = true ∧ True ∧ (!decide (A j < 0)) = true ∧ (!decide (A j < 0)) = true ∧ (!decide (TS.A t q 0 = A j)) = true ∧ decide (A j < 0) = false ∧ (!decide (TS.A t q 0 = A j)) = true ∧ (!decide (2 < A j)) = true ∧ (!decide (2 < A j)) = true ∧ True ∧ (!decide (2 < A j)) = true ∧
  (!decide (2 < A j)) = true ∧ True ∧ (!decide (2 < A j)) = true ∧ (0 ≤ Int.ofNat q ∧ Int.ofNat q < 19) ∧ (!decide (2 < A j)) = true ∧ (0 ≤ A j ∧ A j < 3) ∧ (!decide (2 < A j)) = true ∧ q * 3 + Int.toNat (A j) < 57 ∧ (!decide (2 < A j)) = true ∧ True ∧ (!decide (2 < A j)) = true ∧ (!decide (2 < A j)) = true ∧ (!decide (TS.A t q 0 = A j)) = true ∧ decide (2 < A j) = false ∧ (!decide (TS.A t q 0 = A j)) = true ∧ decide (TS.h t ((q * 3 + Int.toNat (A j)) / 3) ((q * 3 + Int.toNat (A j)) % 3) < B j) = false ∧ ((-9223372036854775808) ≤ Int.ofNat j + 1 ∧ Int.ofNat j + (1 : Int) ≤ (9223372036854775807 : Int)) ∧ K (Res.st XO.nrm (z0 (z1 (AV.i .i64 (Int.ofNat q)) (z0 (z0 (z1 (AV.b (decide (TS.A t q 0 = A j))) (z0 (z0 (zl (AV.b (decide (2 < A j)))) T.e) (zl (AV.i .i64 (Int.ofNat (TS.n t q))))) T.e) (z0 (z0 (z0 (zl (AV.i .i64 (TS.h t ((q * 3 + Int.toNat (A j)) / 3) ((q * 3 + Int.toNat (A j)) % 3))))
  T.e) (zl (AV.pv 3 (qF (TS.A t (Int.toNat (Int.ofNat q))) (TS.M t (Int.toNat (Int.ofNat q))) (TS.W t (Int.toNat (Int.ofNat q))) 0)))) (z0 (zl (AV.i .i64 (A j))) (zl (AV.p 1 0))))) (z1 (AV.i .i64 gn) (z0 (z0 (z0 (zl (AV.i .i64 (A j))) T.e) (zl (AV.p 0 101))) (z0 (zl (AV.b (decide (Int.ofNat j < Int.ofNat N)))) (zl (AV.b !decide (TS.A t q 0 = A j))))) (z0 (z0 (z0 (zl (AV.b (decide (TS.h t ((q * 3 + Int.toNat (A j)) / 3) ((q * 3 + Int.toNat (A j)) % 3) < B j)))) T.e) (zl (AV.i .i64 (A j)))) (z0 (zl (AV.i .i64 (Int.ofNat q))) (zl (AV.b (decide (A j < 0)))))))) (z1 (AV.p 0 0) (z0 (z0 (z0 (z0 (zl (AV.i .i64 (Int.ofNat q))) T.e) (zl (AV.b (decide (0 < Int.ofNat (TS.n t q)))))) (z0 (zl (AV.i .i64 (Int.ofNat N))) (zl (AV.b (decide (TS.A t q 0 = A j)))))) (z0 (z0 (z0 (zl (AV.i .i64 (B j))) T.e) (zl (AV.i .i64 (TS.A t q 0)))) (z0 (zl (AV.b (decide (A j = gn)))) (zl (AV.b (decide (A j < 0))))))) (z0
  (z0 (z0 (z0 (zl (AV.ps 0 44 3 19 q)) T.e) (zl (AV.sv 3 (TS.n t q) (qF (TS.A t (Int.toNat (Int.ofNat q))) (TS.M t (Int.toNat (Int.ofNat q))) (TS.W t (Int.toNat (Int.ofNat q))))))) (z0 (zl (AV.agg [AV.i .i64 (A j), AV.i .i64 (B j), AV.i .i64 (W j)])) (zl (AV.b false)))) (z1 (AV.i .i64 (Int.ofNat n)) (z0 (z0 (zl (AV.i .i64 (Int.ofNat j + 1))) T.e) (zl (AV.b (decide (TS.A t q 0 = A j))))) (z0 (zl (AV.ps 0 101 1 19 q)) (zl (AV.i .i64 (A j)))))))) (z0 (z0 (z0 (z0 (z0 (z0 (zl (AV.b (decide (2 < A j)))) T.e) (zl (AV.b (decide (0 < Int.ofNat (TS.n t q)))))) (z0 (zl (AV.sv 3 N (qF A B W))) T.e)) (z0 (z0 (z0 (zl (AV.p 1 1)) T.e) (zl (AV.pv 3 fun j => qF (TS.A t (Int.toNat (Int.ofNat q))) (TS.M t (Int.toNat (Int.ofNat q))) (TS.W t (Int.toNat (Int.ofNat q))) 0 (0 + j)))) (z0 (zl (AV.i .i64 gn)) (zl (AV.i .i64 (A j)))))) (z1 (AV.i .i64 0) (z0 (z0 (z0 (zl (AV.p 0 44)) T.e) (zl (AV.ps 0 101 1 19 q)))
  (z0 (zl (AV.pv 3 (qF A B W j))) (zl (AV.i .i64 0)))) (z1 (AV.sv 4 n (opC KK L S M)) (z0 (z0 (zl (AV.b (decide (TS.h t ((q * 3 + Int.toNat (A j)) / 3) ((q * 3 + Int.toNat (A j)) % 3) < B j)))) T.e) (zl (AV.b (decide (TS.A t q 0 = A j))))) (z0 (zl (AV.p 0 101)) (zl (AV.p 1 0)))))) (z0 (z0 (z0 (z0 (z0 (zl (AV.p 1 0)) T.e) (zl (AV.i .i64 (Int.ofNat q)))) (z0 (zl (AV.i .i64 (Int.ofNat j + 1))) (zl (AV.b !decide (TS.A t q 0 = A j))))) (z0 (z0 (z0 (zl (AV.b (decide (TS.h t ((q * 3 + Int.toNat (A j)) / 3) ((q * 3 + Int.toNat (A j)) % 3) < B j)))) T.e) (zl (AV.p 1 0))) (z0 (zl (AV.i .i64 0)) (zl (AV.b (decide (A j < 0))))))) (z1 (AV.p 1 0) (z0 (z0 (z0 (zl (AV.ps 0 44 1 57 (q * 3 + Int.toNat (A j)))) T.e) (zl (AV.i .i64 0))) (z0 (zl (AV.p 1 0)) (zl (AV.b false)))) (z1 (AV.i .i64 (Int.ofNat i)) (z0 T.e (zl (AV.b (decide (TS.A t q 0 = A j))))) (z0 (zl (AV.sv 3 (TS.n t q) (qF (TS.A t (Int.toNat
  (Int.ofNat q))) (TS.M t (Int.toNat (Int.ofNat q))) (TS.W t (Int.toNat (Int.ofNat q)))))) (zl (AV.b (decide (2 < A j)))))))))) ⟨z1 (tsF t) (zl (AObj.cells 61 3 [AV.i .i64 0, AV.i .i64 0, AV.i .i64 0] (z1 (AV.i .i64 (A j)) (zl (AV.i .i64 (B j))) (zl (AV.i .i64 (W j)))))) T.e, 2, [1, 1]⟩) Orc.z) := by kernel_rfl
theorem s7e_vc (t : TS) (q n i N j at9 : Nat) (KK L S M A B W : Nat → Int) (gn : Int) (h1 : decide (Int.ofNat j < Int.ofNat N) = false) (K : Res → Orc → Prop) : runK Try.prog 1000000 (.code (loopAt Try.prog 7 1) 202 (mkT [(1, .i .i64 (Int.ofNat q)), (5, .p 0 0), (11, .i .i64 gn), (12, .i .i64 (Int.ofNat at9)), (28, .sv 4 n (opC KK L S M)), (29, .i .i64 (Int.ofNat n)), (30, .i .i64 (Int.ofNat i)), (80, svN N A B W), (81, .i .i64 (Int.ofNat N)), (82, .i .i64 (Int.ofNat j))]) (mkH [some (tsF t)])) (Orc.f Orc.z) K = (decide (Int.ofNat j < Int.ofNat N) = false ∧ K (Res.st (XO.exit 3) (z0 (z1 (AV.i .i64 (Int.ofNat q)) (z0 T.e (z1 (AV.i .i64 gn) (z0 T.e (z0 (zl (AV.b (decide (Int.ofNat j < Int.ofNat N)))) T.e)) T.e)) (z1 (AV.p 0 0) (z0 (z0 T.e (z0 (zl (AV.i .i64 (Int.ofNat N))) T.e)) T.e) (z0 T.e (zl (AV.i .i64 (Int.ofNat n)))))) (z0 (z0 (z0 (z0 T.e (z0 (zl (AV.sv 3 N (qF A B W))) T.e)) T.e)
  (z1 (AV.i .i64 (Int.ofNat at9)) T.e (zl (AV.sv 4 n (opC KK L S M))))) (z0 (z0 (z0 T.e (z0 (zl (AV.i .i64 (Int.ofNat j))) T.e)) T.e) (z0 T.e (zl (AV.i .i64 (Int.ofNat i))))))) ⟨zl (tsF t), 1, []⟩) Orc.z) := by kernel_rfl
theorem s7A_vc (t : TS) (t1 : TS) (ec : Int) (q n i : Nat) (KK L S M : Nat → Int) (h1 : decide (Int.ofNat i < Int.ofNat n) = true) (h2 : decide (300 < Int.ofNat i) = false) (h3 : decide (KK (Int.toNat (Int.ofNat i)) = 1) = false) (h3b : decide (KK (Int.toNat (Int.ofNat i)) = 2) = false) (h4 : (!decide (ec = 0)) = false) (K : Res → Orc → Prop) : runK Try.prog 1000000 (.code (loopAt Try.prog 7 0) 202 (mkT [(1, .i .i64 (Int.ofNat q)), (5, .p 0 0), (28, .sv 4 n (opC KK L S M)), (29, .i .i64 (Int.ofNat n)), (30, .i .i64 (Int.ofNat i))]) (mkH [some (tsF t)])) (Orc.t (Orc.f (Orc.s (Orc.f (Orc.f (Orc.cal [] (tsV t) [] (Orc.cal [] (AV.tup [tsV t1, AV.i .i64 ec]) [] (Orc.f (Orc.lop [0] [1, 5, 11, 12, 28, 29, 30, 80, 81, 82] 1 (XO.exit 3) [(1, AV.i .i64 (Int.ofNat q)), (5, AV.p 0 0), (28, AV.sv 4 n (opC KK L S M)), (29, AV.i .i64 (Int.ofNat n)), (30, AV.i .i64 (Int.ofNat i))] [some (tsF t1)]
  Orc.z)))))) Orc.z))) K = (decide (Int.ofNat i < Int.ofNat n) = true ∧ (0 ≤ Int.ofNat i ∧ Int.ofNat i < ↑n) ∧ True ∧ decide (300 < Int.ofNat i) = false ∧ True ∧ (0 ≤ Int.ofNat q ∧ Int.ofNat q < 19) ∧ q < 19 ∧ True ∧ True ∧ decide (KK i = 1) = false ∧ decide (KK i = 2) = false ∧ True ∧ Con Try.prog 15 [tsV t] [] (tsV t) [] ∧ True ∧ True ∧ Con Try.prog 10 [tsV t, AV.i .i64 (Int.ofNat q), AV.i .i64 (S i), AV.i .i64 (M i)] [] (AV.tup [tsV t1, AV.i .i64 ec]) [] ∧ (!decide (ec = 0)) = false ∧ True ∧ LDoes Try.prog (loopAt Try.prog 7 1) 202 1 (mkT [(1, AV.i .i64 (Int.ofNat q)), (5, AV.p 0 0), (11, AV.i .i64 (-1)), (12, AV.i .i64 0), (28, AV.sv 4 n (opC KK L S M)), (29, AV.i .i64 (Int.ofNat n)), (30, AV.i .i64 (Int.ofNat i)), (80, svN (TS.n t q) (TS.A t (Int.toNat (Int.ofNat q))) (TS.M t (Int.toNat (Int.ofNat q))) (TS.W t (Int.toNat (Int.ofNat q)))), (81, AV.i .i64 (Int.ofNat (TS.n t q))), (82,
  AV.i .i64 0)]) [some (tsX t1)] (XO.exit 3) (mkT [(1, AV.i .i64 (Int.ofNat q)), (5, AV.p 0 0), (28, AV.sv 4 n (opC KK L S M)), (29, AV.i .i64 (Int.ofNat n)), (30, AV.i .i64 (Int.ofNat i))]) [some (tsF t1)] ∧ ((-9223372036854775808) ≤ Int.ofNat i + 1 ∧ Int.ofNat i + (1 : Int) ≤ (9223372036854775807 : Int)) ∧ K (Res.st XO.nrm (z0 (z1 (AV.i .i64 (Int.ofNat q)) T.e (z1 (AV.p 0 0) T.e (z0 T.e (zl (AV.i .i64 (Int.ofNat n)))))) (z0 (z0 T.e (z0 T.e (zl (AV.sv 4 n (opC KK L S M))))) (z0 T.e (z0 T.e (z1 (AV.i .i64 (Int.ofNat i + 1)) (z0 (z0 (zl (AV.i .i64 (Int.ofNat i + 1))) T.e) T.e) T.e))))) ⟨z1 (tsF t1) (zl (AObj.cells 47 4 [AV.i .i64 0, AV.i .i64 0, AV.i .i64 0, AV.i .i64 0] (z1 (AV.i .i64 (KK i)) (z1 (AV.i .i64 (L i)) (zl (AV.i .i64 (M i))) T.e) (zl (AV.i .i64 (S i)))))) (zl (tsZ t1)), 3, [0, 0, 2, 2, 2, 1, 1]⟩) Orc.z) := by kernel_rfl
theorem s7B_vc (t : TS) (t1 : TS) (ec : Int) (q n i : Nat) (KK L S M : Nat → Int) (h1 : decide (Int.ofNat i < Int.ofNat n) = true) (h2 : decide (300 < Int.ofNat i) = false) (h3 : decide (KK (Int.toNat (Int.ofNat i)) = 1) = false) (h3b : decide (KK (Int.toNat (Int.ofNat i)) = 2) = false) (h4 : (!decide (ec = 0)) = true) (K : Res → Orc → Prop) : runK Try.prog 1000000 (.code (loopAt Try.prog 7 0) 202 (mkT [(1, .i .i64 (Int.ofNat q)), (5, .p 0 0), (28, .sv 4 n (opC KK L S M)), (29, .i .i64 (Int.ofNat n)), (30, .i .i64 (Int.ofNat i))]) (mkH [some (tsF t)])) (Orc.t (Orc.f (Orc.s (Orc.f (Orc.f (Orc.cal [] (tsV t) [] (Orc.cal [] (AV.tup [tsV t1, AV.i .i64 ec]) [] (Orc.t Orc.z))))) Orc.z))) K = (decide (Int.ofNat i < Int.ofNat n) = true ∧ (0 ≤ Int.ofNat i ∧ Int.ofNat i < ↑n) ∧ True ∧ decide (300 < Int.ofNat i) = false ∧ True ∧ (0 ≤ Int.ofNat q ∧ Int.ofNat q < 19) ∧ q < 19 ∧ True ∧ True ∧ decide
  (KK i = 1) = false ∧ decide (KK i = 2) = false ∧ True ∧ Con Try.prog 15 [tsV t] [] (tsV t) [] ∧ True ∧ True ∧ Con Try.prog 10 [tsV t, AV.i .i64 (Int.ofNat q), AV.i .i64 (S i), AV.i .i64 (M i)] [] (AV.tup [tsV t1, AV.i .i64 ec]) [] ∧ (!decide (ec = 0)) = true ∧ ((-9223372036854775808) ≤ Int.ofNat i + 1 ∧ Int.ofNat i + (1 : Int) ≤ (9223372036854775807 : Int)) ∧ K (Res.st XO.nrm (z0 (z1 (AV.i .i64 (Int.ofNat q)) (z0 (z1 (AV.p 1 0) (z0 (zl (AV.b (decide (Int.ofNat i < Int.ofNat n)))) (zl (AV.i .i64 (Int.ofNat q)))) (z0 (zl (AV.ps 0 101 1 19 q)) (zl (AV.b (decide (KK i = 1)))))) (z1 (AV.i .i64 (-1)) (z0 (zl (AV.i .i64 (Int.ofNat i))) (zl (AV.i .i64 (M i)))) (z0 (zl (AV.i .i64 (KK i))) T.e))) (z1 (AV.p 0 0) (z1 (AV.p 2 0) (z0 (zl (AV.pv 4 (opC KK L S M i))) (zl (AV.i .i64 (S i)))) (z0 (zl (tsV t)) T.e)) (z0 (z0 (z1 (AV.i .i64 (Int.ofNat q)) (zl (AV.b (decide (KK i = 2)))) T.e) (zl (tsV t1)))
  (z1 (AV.i .i64 (Int.ofNat n)) (z1 (tsV t) (zl (AV.i .i64 ec)) T.e) T.e)))) (z0 (z0 (z1 (AV.sv 3 (TS.n t q) (qF (TS.A t (Int.toNat (Int.ofNat q))) (TS.M t (Int.toNat (Int.ofNat q))) (TS.W t (Int.toNat (Int.ofNat q))))) (z0 (zl (AV.i .i64 (Int.ofNat i))) (zl (AV.p 1 2))) (z0 (zl (AV.sv 3 (TS.n t q) (qF (TS.A t (Int.toNat (Int.ofNat q))) (TS.M t (Int.toNat (Int.ofNat q))) (TS.W t (Int.toNat (Int.ofNat q)))))) (zl (AV.b (decide (KK i = 1)))))) (z0 (z0 (z1 (AV.b (decide (300 < Int.ofNat i))) (zl (AV.b (decide (KK i = 2)))) T.e) (zl (AV.tup [tsV t1, AV.i .i64 ec]))) (z1 (AV.sv 4 n (opC KK L S M)) (zl (AV.tup [tsV t1, AV.i .i64 ec])) T.e))) (z1 (AV.i .i64 (Int.ofNat i)) (z1 (AV.i .i64 ec) (z0 (zl (AV.agg [AV.i .i64 (KK i), AV.i .i64 (L i), AV.i .i64 (S i), AV.i .i64 (M i)])) (zl (AV.p 1 3))) (z0 (zl (AV.p 1 0)) T.e)) (z0 (z0 (zl (AV.p 0 101)) (zl (AV.i .i64 ec))) (z1 (AV.i .i64 (Int.ofNat i +
  1)) (z1 (tsV t) (z1 (AV.b !decide (ec = 0)) (zl (AV.i .i64 (Int.ofNat i + 1))) T.e) T.e) T.e))))) ⟨z1 (tsF t) (zl (AObj.cells 47 4 [AV.i .i64 0, AV.i .i64 0, AV.i .i64 0, AV.i .i64 0] (z1 (AV.i .i64 (KK i)) (z1 (AV.i .i64 (L i)) (zl (AV.i .i64 (M i))) T.e) (zl (AV.i .i64 (S i)))))) (zl (tsZ t1)), 3, [2, 2, 2, 1, 1]⟩) Orc.z) := by kernel_rfl
theorem s7C_vc (t : TS) (t1 : TS) (ec : Int) (q n i : Nat) (KK L S M : Nat → Int) (h1 : decide (Int.ofNat i < Int.ofNat n) = true) (h2 : decide (300 < Int.ofNat i) = false) (h3 : decide (KK (Int.toNat (Int.ofNat i)) = 1) = true) (h4 : (!decide (ec = 0)) = false) (K : Res → Orc → Prop) : runK Try.prog 1000000 (.code (loopAt Try.prog 7 0) 202 (mkT [(1, .i .i64 (Int.ofNat q)), (5, .p 0 0), (28, .sv 4 n (opC KK L S M)), (29, .i .i64 (Int.ofNat n)), (30, .i .i64 (Int.ofNat i))]) (mkH [some (tsF t)])) (Orc.t (Orc.f (Orc.s (Orc.t (Orc.cal [] (tsV t) [] (Orc.cal [] (AV.tup [tsV t1, AV.i .i64 ec]) [] (Orc.f (Orc.lop [0] [1, 5, 11, 12, 28, 29, 30, 80, 81, 82] 1 (XO.exit 3) [(1, AV.i .i64 (Int.ofNat q)), (5, AV.p 0 0), (28, AV.sv 4 n (opC KK L S M)), (29, AV.i .i64 (Int.ofNat n)), (30, AV.i .i64 (Int.ofNat i))] [some (tsF t1)] Orc.z))))) Orc.z))) K = (decide (Int.ofNat i < Int.ofNat n) = true ∧ (0
  ≤ Int.ofNat i ∧ Int.ofNat i < ↑n) ∧ True ∧ decide (300 < Int.ofNat i) = false ∧ True ∧ (0 ≤ Int.ofNat q ∧ Int.ofNat q < 19) ∧ q < 19 ∧ True ∧ True ∧ decide (KK i = 1) = true ∧ True ∧ Con Try.prog 15 [tsV t] [] (tsV t) [] ∧ True ∧ Con Try.prog 11 [tsV t, AV.i .i64 (Int.ofNat q), AV.i .i64 (S i)] [] (AV.tup [tsV t1, AV.i .i64 ec]) [] ∧ True ∧ (!decide (ec = 0)) = false ∧ True ∧ LDoes Try.prog (loopAt Try.prog 7 1) 202 1 (mkT [(1, AV.i .i64 (Int.ofNat q)), (5, AV.p 0 0), (11, AV.i .i64 (S i)), (12, AV.i .i64 0), (28, AV.sv 4 n (opC KK L S M)), (29, AV.i .i64 (Int.ofNat n)), (30, AV.i .i64 (Int.ofNat i)), (80, svN (TS.n t q) (TS.A t (Int.toNat (Int.ofNat q))) (TS.M t (Int.toNat (Int.ofNat q))) (TS.W t (Int.toNat (Int.ofNat q)))), (81, AV.i .i64 (Int.ofNat (TS.n t q))), (82, AV.i .i64 0)]) [some (tsX t1)] (XO.exit 3) (mkT [(1, AV.i .i64 (Int.ofNat q)), (5, AV.p 0 0), (28, AV.sv 4 n (opC KK L
  S M)), (29, AV.i .i64 (Int.ofNat n)), (30, AV.i .i64 (Int.ofNat i))]) [some (tsF t1)] ∧ ((-9223372036854775808) ≤ Int.ofNat i + 1 ∧ Int.ofNat i + (1 : Int) ≤ (9223372036854775807 : Int)) ∧ K (Res.st XO.nrm (z0 (z1 (AV.i .i64 (Int.ofNat q)) T.e (z1 (AV.p 0 0) T.e (z0 T.e (zl (AV.i .i64 (Int.ofNat n)))))) (z0 (z0 T.e (z0 T.e (zl (AV.sv 4 n (opC KK L S M))))) (z0 T.e (z0 T.e (z1 (AV.i .i64 (Int.ofNat i + 1)) (z0 (z0 (zl (AV.i .i64 (Int.ofNat i + 1))) T.e) T.e) T.e))))) ⟨z1 (tsF t1) (zl (AObj.cells 47 4 [AV.i .i64 0, AV.i .i64 0, AV.i .i64 0, AV.i .i64 0] (z1 (AV.i .i64 (KK i)) (z1 (AV.i .i64 (L i)) (zl (AV.i .i64 (M i))) T.e) (zl (AV.i .i64 (S i)))))) (zl (tsZ t1)), 3, [0, 0, 2, 2, 2, 1, 1]⟩) Orc.z) := by kernel_rfl
theorem s7D_vc (t : TS) (t1 : TS) (ec : Int) (q n i : Nat) (KK L S M : Nat → Int) (h1 : decide (Int.ofNat i < Int.ofNat n) = true) (h2 : decide (300 < Int.ofNat i) = false) (h3 : decide (KK (Int.toNat (Int.ofNat i)) = 1) = true) (h4 : (!decide (ec = 0)) = true) (K : Res → Orc → Prop) : runK Try.prog 1000000 (.code (loopAt Try.prog 7 0) 202 (mkT [(1, .i .i64 (Int.ofNat q)), (5, .p 0 0), (28, .sv 4 n (opC KK L S M)), (29, .i .i64 (Int.ofNat n)), (30, .i .i64 (Int.ofNat i))]) (mkH [some (tsF t)])) (Orc.t (Orc.f (Orc.s (Orc.t (Orc.cal [] (tsV t) [] (Orc.cal [] (AV.tup [tsV t1, AV.i .i64 ec]) [] (Orc.t Orc.z)))) Orc.z))) K = (decide (Int.ofNat i < Int.ofNat n) = true ∧ (0 ≤ Int.ofNat i ∧ Int.ofNat i < ↑n) ∧ True ∧ decide (300 < Int.ofNat i) = false ∧ True ∧ (0 ≤ Int.ofNat q ∧ Int.ofNat q < 19) ∧ q < 19 ∧ True ∧ True ∧ decide (KK i = 1) = true ∧ True ∧ Con Try.prog 15 [tsV t] [] (tsV t) [] ∧
  True ∧ Con Try.prog 11 [tsV t, AV.i .i64 (Int.ofNat q), AV.i .i64 (S i)] [] (AV.tup [tsV t1, AV.i .i64 ec]) [] ∧ True ∧ (!decide (ec = 0)) = true ∧ ((-9223372036854775808) ≤ Int.ofNat i + 1 ∧ Int.ofNat i + (1 : Int) ≤ (9223372036854775807 : Int)) ∧ K (Res.st XO.nrm (z0 (z1 (AV.i .i64 (Int.ofNat q)) (z0 (z1 (AV.p 1 0) (z0 (z1 (AV.b (decide (Int.ofNat i < Int.ofNat n))) (zl (AV.tup [tsV t1, AV.i .i64 ec])) T.e) T.e) (z0 (zl (AV.ps 0 101 1 19 q)) (zl (AV.b (decide (KK i = 1)))))) (z1 (AV.i .i64 (S i)) (z0 (z1 (AV.i .i64 (Int.ofNat i)) (zl (AV.i .i64 (S i))) T.e) T.e) (z0 (zl (AV.i .i64 (KK i))) (zl (tsV t))))) (z1 (AV.p 0 0) (z1 (AV.p 2 0) (z0 (z1 (AV.pv 4 (opC KK L S M i)) (zl (AV.i .i64 ec)) T.e) T.e) (z0 (zl (tsV t)) (zl (AV.tup [tsV t1, AV.i .i64 ec])))) (z0 (z0 (zl (AV.i .i64 (Int.ofNat q))) T.e) (z1 (AV.i .i64 (Int.ofNat n)) (z0 (zl (AV.i .i64 ec)) T.e) (zl (AV.p 1 2)))))) (z0 (z0
  (z1 (AV.sv 3 (TS.n t q) (qF (TS.A t (Int.toNat (Int.ofNat q))) (TS.M t (Int.toNat (Int.ofNat q))) (TS.W t (Int.toNat (Int.ofNat q))))) (z0 (z1 (AV.i .i64 (Int.ofNat i)) (zl (tsV t1)) T.e) T.e) (z0 (zl (AV.sv 3 (TS.n t q) (qF (TS.A t (Int.toNat (Int.ofNat q))) (TS.M t (Int.toNat (Int.ofNat q))) (TS.W t (Int.toNat (Int.ofNat q)))))) (zl (AV.b (decide (KK i = 1)))))) (z0 (z0 (zl (AV.b (decide (300 < Int.ofNat i)))) T.e) (z1 (AV.sv 4 n (opC KK L S M)) T.e (zl (AV.i .i64 (Int.ofNat q)))))) (z1 (AV.i .i64 (Int.ofNat i)) (z1 (AV.i .i64 ec) (z0 (z1 (AV.agg [AV.i .i64 (KK i), AV.i .i64 (L i), AV.i .i64 (S i), AV.i .i64 (M i)]) (zl (AV.p 1 2)) T.e) T.e) (z0 (zl (AV.p 1 0)) (zl (tsV t)))) (z0 (z0 (zl (AV.p 0 101)) T.e) (z1 (AV.i .i64 (Int.ofNat i + 1)) (z0 (z1 (AV.b !decide (ec = 0)) (zl (AV.i .i64 (Int.ofNat i + 1))) T.e) T.e) (zl (AV.i .i64 (S i)))))))) ⟨z1 (tsF t) (zl (AObj.cells 47 4 [AV.i
  .i64 0, AV.i .i64 0, AV.i .i64 0, AV.i .i64 0] (z1 (AV.i .i64 (KK i)) (z1 (AV.i .i64 (L i)) (zl (AV.i .i64 (M i))) T.e) (zl (AV.i .i64 (S i)))))) (zl (tsZ t1)), 3, [2, 2, 2, 1, 1]⟩) Orc.z) := by kernel_rfl
theorem s7E_vc (t : TS) (t1 : TS) (q n i : Nat) (KK L S M : Nat → Int) (h1 : decide (Int.ofNat i < Int.ofNat n) = true) (h2 : decide (300 < Int.ofNat i) = false) (h3 : decide (KK (Int.toNat (Int.ofNat i)) = 1) = false) (h3b : decide (KK (Int.toNat (Int.ofNat i)) = 2) = true) (K : Res → Orc → Prop) : runK Try.prog 1000000 (.code (loopAt Try.prog 7 0) 202 (mkT [(1, .i .i64 (Int.ofNat q)), (5, .p 0 0), (28, .sv 4 n (opC KK L S M)), (29, .i .i64 (Int.ofNat n)), (30, .i .i64 (Int.ofNat i))]) (mkH [some (tsF t)])) (Orc.t (Orc.f (Orc.s (Orc.f (Orc.t (Orc.cal [] (tsV t) [] (Orc.cal [] (tsV t1) [] (Orc.c (Orc.lop [0] [1, 5, 11, 12, 28, 29, 30, 80, 81, 82] 1 (XO.exit 3) [(1, AV.i .i64 (Int.ofNat q)), (5, AV.p 0 0), (28, AV.sv 4 n (opC KK L S M)), (29, AV.i .i64 (Int.ofNat n)), (30, AV.i .i64 (Int.ofNat i))] [some (tsF t1)] Orc.z)))))) Orc.z))) K = (decide (Int.ofNat i < Int.ofNat n) = true ∧ (0 ≤
  Int.ofNat i ∧ Int.ofNat i < ↑n) ∧ True ∧ decide (300 < Int.ofNat i) = false ∧ True ∧ (0 ≤ Int.ofNat q ∧ Int.ofNat q < 19) ∧ q < 19 ∧ True ∧ True ∧ decide (KK i = 1) = false ∧ decide (KK i = 2) = true ∧ True ∧ Con Try.prog 15 [tsV t] [] (tsV t) [] ∧ True ∧ Con Try.prog 19 [tsV t, AV.i .i64 (S i)] [] (tsV t1) [] ∧ True ∧ True ∧ LDoes Try.prog (loopAt Try.prog 7 1) 202 1 (mkT [(1, AV.i .i64 (Int.ofNat q)), (5, AV.p 0 0), (11, AV.i .i64 (S i)), (12, AV.i .i64 0), (28, AV.sv 4 n (opC KK L S M)), (29, AV.i .i64 (Int.ofNat n)), (30, AV.i .i64 (Int.ofNat i)), (80, svN (TS.n t q) (TS.A t (Int.toNat (Int.ofNat q))) (TS.M t (Int.toNat (Int.ofNat q))) (TS.W t (Int.toNat (Int.ofNat q)))), (81, AV.i .i64 (Int.ofNat (TS.n t q))), (82, AV.i .i64 0)]) [some (tsX t1)] (XO.exit 3) (mkT [(1, AV.i .i64 (Int.ofNat q)), (5, AV.p 0 0), (28, AV.sv 4 n (opC KK L S M)), (29, AV.i .i64 (Int.ofNat n)), (30, AV.i
  .i64 (Int.ofNat i))]) [some (tsF t1)] ∧ ((-9223372036854775808) ≤ Int.ofNat i + 1 ∧ Int.ofNat i + (1 : Int) ≤ (9223372036854775807 : Int)) ∧ K (Res.st XO.nrm (z0 (z1 (AV.i .i64 (Int.ofNat q)) T.e (z1 (AV.p 0 0) T.e (z0 T.e (zl (AV.i .i64 (Int.ofNat n)))))) (z0 (z0 T.e (z0 T.e (zl (AV.sv 4 n (opC KK L S M))))) (z0 T.e (z0 T.e (z1 (AV.i .i64 (Int.ofNat i + 1)) (z0 (z0 (zl (AV.i .i64 (Int.ofNat i + 1))) T.e) T.e) T.e))))) ⟨z1 (tsF t1) (zl (AObj.cells 47 4 [AV.i .i64 0, AV.i .i64 0, AV.i .i64 0, AV.i .i64 0] (z1 (AV.i .i64 (KK i)) (z1 (AV.i .i64 (L i)) (zl (AV.i .i64 (M i))) T.e) (zl (AV.i .i64 (S i)))))) (zl (tsZ t1)), 3, [0, 0, 2, 2, 2, 1, 1]⟩) Orc.z) := by kernel_rfl
theorem s7X_vc (t : TS) (q n i : Nat) (KK L S M : Nat → Int) (h1 : decide (Int.ofNat i < Int.ofNat n) = true) (h2 : decide (300 < Int.ofNat i) = true) (K : Res → Orc → Prop) : runK Try.prog 1000000 (.code (loopAt Try.prog 7 0) 202 (mkT [(1, .i .i64 (Int.ofNat q)), (5, .p 0 0), (28, .sv 4 n (opC KK L S M)), (29, .i .i64 (Int.ofNat n)), (30, .i .i64 (Int.ofNat i))]) (mkH [some (tsF t)])) (Orc.t (Orc.t Orc.z)) K = (decide (Int.ofNat i < Int.ofNat n) = true ∧ (0 ≤ Int.ofNat i ∧ Int.ofNat i < ↑n) ∧ True ∧ decide (300 < Int.ofNat i) = true ∧ K (Res.st (XO.exit 0) (z0 (z1 (AV.i .i64 (Int.ofNat q)) (z0 (z1 (AV.p 1 0) (z0 (zl (AV.b (decide (Int.ofNat i < Int.ofNat n)))) T.e) T.e) (z0 (z0 (zl (AV.i .i64 (Int.ofNat i))) T.e) T.e)) (z1 (AV.p 0 0) (z0 (z0 (zl (AV.pv 4 (opC KK L S M i))) T.e) T.e) (z0 T.e (zl (AV.i .i64 (Int.ofNat n)))))) (z0 (z0 (z0 (z0 (zl (AV.i .i64 (Int.ofNat i))) T.e) T.e) (z0
  (z0 (zl (AV.b (decide (300 < Int.ofNat i)))) T.e) (zl (AV.sv 4 n (opC KK L S M))))) (z1 (AV.i .i64 (Int.ofNat i)) (z0 (z0 (zl (AV.agg [AV.i .i64 (KK i), AV.i .i64 (L i), AV.i .i64 (S i), AV.i .i64 (M i)])) T.e) T.e) (z0 T.e (zl (AV.i .i64 (Int.ofNat i))))))) ⟨z1 (tsF t) (zl (AObj.cells 47 4 [AV.i .i64 0, AV.i .i64 0, AV.i .i64 0, AV.i .i64 0] (z1 (AV.i .i64 (KK i)) (z1 (AV.i .i64 (L i)) (zl (AV.i .i64 (M i))) T.e) (zl (AV.i .i64 (S i)))))) T.e, 2, [1, 1]⟩) Orc.z) := by kernel_rfl
theorem s7Y_vc (t : TS) (q n i : Nat) (KK L S M : Nat → Int) (h1 : decide (Int.ofNat i < Int.ofNat n) = false) (K : Res → Orc → Prop) : runK Try.prog 1000000 (.code (loopAt Try.prog 7 0) 202 (mkT [(1, .i .i64 (Int.ofNat q)), (5, .p 0 0), (28, .sv 4 n (opC KK L S M)), (29, .i .i64 (Int.ofNat n)), (30, .i .i64 (Int.ofNat i))]) (mkH [some (tsF t)])) (Orc.f Orc.z) K = (decide (Int.ofNat i < Int.ofNat n) = false ∧ K (Res.st (XO.exit 0) (z0 (z1 (AV.i .i64 (Int.ofNat q)) (z0 (z0 (z0 (zl (AV.b (decide (Int.ofNat i < Int.ofNat n)))) T.e) T.e) T.e) (z1 (AV.p 0 0) T.e (z0 T.e (zl (AV.i .i64 (Int.ofNat n)))))) (z0 (z0 T.e (z0 T.e (zl (AV.sv 4 n (opC KK L S M))))) (z0 T.e (z0 T.e (zl (AV.i .i64 (Int.ofNat i))))))) ⟨zl (tsF t), 1, []⟩) Orc.z) := by kernel_rfl
theorem s7p_vc (t : TS) (q s : Nat) (a m w : Int) (h1 : decide (Int.ofNat s < 3) = true) (h2 : (!decide (Int.ofNat s = a)) = false) (K : Res → Orc → Prop) : runK Try.prog 1000000 (.code (loopAt Try.prog 7 2) 202 (mkT [(1, .i .i64 (Int.ofNat q)), (5, .p 0 0), (16, .p 1 0), (17, .i .i64 (Int.ofNat s))]) (mkH [some (tsF t), some (fbO a m w)])) (Orc.t (Orc.f Orc.z)) K = (decide (Int.ofNat s < 3) = true ∧ True ∧ (!decide (Int.ofNat s = a)) = false ∧ ((-9223372036854775808) ≤ Int.ofNat s + 1 ∧ Int.ofNat s + (1 : Int) ≤ (9223372036854775807 : Int)) ∧ K (Res.st XO.nrm (z0 (z1 (AV.i .i64 (Int.ofNat q)) (z0 (z0 (z0 (z0 T.e (z0 (zl (AV.i .i64 (Int.ofNat s))) T.e)) T.e) T.e) (z0 T.e (z0 T.e (z0 (z0 (zl (AV.i .i64 (Int.ofNat s))) T.e) T.e)))) (z1 (AV.p 0 0) (z0 (z1 (AV.i .i64 (Int.ofNat s + 1)) (z0 T.e (z0 (zl (AV.i .i64 a)) T.e)) T.e) T.e) (z0 T.e (z0 T.e (z0 (z0 (zl (AV.i .i64 (Int.ofNat s))) T.e)
  T.e))))) (z0 (z0 (z0 (z1 (AV.p 1 0) (z0 T.e (z0 (zl (AV.p 1 0)) T.e)) T.e) T.e) (z0 T.e (z0 T.e (z0 (z0 (zl (AV.b (decide (Int.ofNat s < 3)))) T.e) T.e)))) (z0 (z0 (z0 (z0 T.e (z0 (zl (AV.b !decide (Int.ofNat s = a))) T.e)) T.e) T.e) (z0 T.e (z0 T.e (z0 (z0 (zl (AV.i .i64 (Int.ofNat s + 1))) T.e) T.e)))))) ⟨z1 (tsF t) (zl (AObj.cells 61 3 [AV.i .i64 0, AV.i .i64 0, AV.i .i64 0] (z1 (AV.i .i64 a) (zl (AV.i .i64 m)) (zl (AV.i .i64 w))))) T.e, 2, []⟩) Orc.z) := by kernel_rfl
theorem s7q_vc (t : TS) (t1 : TS) (q s : Nat) (a m w : Int) (h1 : decide (Int.ofNat s < 3) = true) (h2 : (!decide (Int.ofNat s = a)) = true) (K : Res → Orc → Prop) : runK Try.prog 1000000 (.code (loopAt Try.prog 7 2) 202 (mkT [(1, .i .i64 (Int.ofNat q)), (5, .p 0 0), (16, .p 1 0), (17, .i .i64 (Int.ofNat s))]) (mkH [some (tsF t), some (fbO a m w)])) (Orc.t (Orc.t (Orc.cal [] (tsV t) [] (Orc.cal [] (AV.tup [tsV t1, AV.i .i64 0]) [] (Orc.c Orc.z))))) K = (decide (Int.ofNat s < 3) = true ∧ True ∧ (!decide (Int.ofNat s = a)) = true ∧ True ∧ Con Try.prog 15 [tsV t] [] (tsV t) [] ∧ Con Try.prog 11 [tsV t, AV.i .i64 (Int.ofNat q), AV.i .i64 (Int.ofNat s)] [] (AV.tup [tsV t1, AV.i .i64 0]) [] ∧ True ∧ ((-9223372036854775808) ≤ Int.ofNat s + 1 ∧ Int.ofNat s + (1 : Int) ≤ (9223372036854775807 : Int)) ∧ K (Res.st XO.nrm (z0 (z1 (AV.i .i64 (Int.ofNat q)) (z0 (z0 (z0 (z0 T.e (z0 (zl (AV.i .i64
  (Int.ofNat s))) T.e)) T.e) (z0 (z0 T.e (z0 (zl (AV.i .i64 (Int.ofNat s))) T.e)) T.e)) (z0 (z1 (AV.i .i64 0) (z0 T.e (z0 (zl (AV.tup [tsV t1, AV.i .i64 0])) T.e)) T.e) (z0 (z0 T.e (z0 (zl (AV.i .i64 0)) T.e)) (z0 (z0 (zl (AV.i .i64 (Int.ofNat s))) T.e) T.e)))) (z1 (AV.p 0 0) (z0 (z1 (AV.i .i64 (Int.ofNat s + 1)) (z0 T.e (z0 (zl (AV.i .i64 a)) T.e)) T.e) (z0 (z0 T.e (z0 (zl (tsV t1)) T.e)) T.e)) (z0 (z0 (z0 T.e (z0 (zl (tsV t)) T.e)) T.e) (z0 (z0 T.e (z0 (zl (tsV t1)) T.e)) (z0 (z0 (zl (AV.i .i64 (Int.ofNat s))) T.e) T.e))))) (z0 (z0 (z0 (z1 (AV.p 1 0) (z0 T.e (z0 (zl (AV.p 1 0)) T.e)) T.e) (z0 (z0 T.e (z0 (zl (AV.tup [tsV t1, AV.i .i64 0])) T.e)) T.e)) (z0 (z0 (z0 T.e (z0 (zl (tsV t)) T.e)) T.e) (z0 (z0 T.e (z0 (zl (AV.b false)) T.e)) (z0 (z0 (zl (AV.b (decide (Int.ofNat s < 3)))) T.e) T.e)))) (z0 (z0 (z1 (AV.p 2 0) (z0 T.e (z0 (zl (AV.b !decide (Int.ofNat s = a))) T.e)) T.e) (z0 (z0 T.e
  (z0 (zl (AV.i .i64 0)) T.e)) T.e)) (z0 (z0 (z0 T.e (z0 (zl (AV.i .i64 (Int.ofNat q))) T.e)) T.e) (z0 T.e (z0 (z0 (zl (AV.i .i64 (Int.ofNat s + 1))) T.e) T.e)))))) ⟨z1 (tsX t1) (zl (AObj.cells 61 3 [AV.i .i64 0, AV.i .i64 0, AV.i .i64 0] (z1 (AV.i .i64 a) (zl (AV.i .i64 m)) (zl (AV.i .i64 w))))) (zl (tsZ t1)), 3, [0, 2, 2]⟩) Orc.z) := by kernel_rfl
theorem s7r_vc (t : TS) (q : Nat) (a m w : Int) (K : Res → Orc → Prop) : runK Try.prog 1000000 (.code (loopAt Try.prog 7 2) 202 (mkT [(1, .i .i64 (Int.ofNat q)), (5, .p 0 0), (16, .p 1 0), (17, .i .i64 (3))]) (mkH [some (tsF t), some (fbO a m w)])) (Orc.c Orc.z) K = (K (Res.st (XO.exit 5) (z0 (z1 (AV.i .i64 (Int.ofNat q)) (z0 T.e (z0 T.e (z0 T.e (z0 (z0 (zl (AV.i .i64 3)) T.e) T.e)))) (z1 (AV.p 0 0) (z0 (zl (AV.i .i64 3)) T.e) T.e)) (z0 (z0 (z0 (zl (AV.p 1 0)) T.e) (z0 T.e (z0 T.e (z0 (z0 (zl (AV.b false)) T.e) T.e)))) T.e)) ⟨z1 (tsF t) (zl (AObj.cells 61 3 [AV.i .i64 0, AV.i .i64 0, AV.i .i64 0] (z1 (AV.i .i64 a) (zl (AV.i .i64 m)) (zl (AV.i .i64 w))))) T.e, 2, []⟩) Orc.z) := by kernel_rfl
theorem s7N0_vc (n : Nat) (KK L S M : Nat → Int) (k : Int) (h1 : decide (k < 0) = true) (V : AV) : runK Try.prog 1000000 (.call 7 [.sv 4 n (opC KK L S M), .i .i64 k] (mkH [])) (Orc.cal [] (AV.b true) [] (Orc.c (Orc.f (Orc.f (Orc.t (Orc.c Orc.z)))))) (fun r _ => rvIs V r) = (Con Try.prog 12 [] [] (AV.b true) [] ∧ True ∧ (!decide (k < 0)) = false ∧ (!decide (k < 0)) = false ∧ decide (k < 0) = true ∧ (AV.b true) = V) := by kernel_rfl
theorem s7N1_vc (n : Nat) (KK L S M : Nat → Int) (k : Int) (h1 : decide (k < 0) = false) (h2 : decide (18 < k) = true) (V : AV) : runK Try.prog 1000000 (.call 7 [.sv 4 n (opC KK L S M), .i .i64 k] (mkH [])) (Orc.cal [] (AV.b true) [] (Orc.c (Orc.t (Orc.t (Orc.f (Orc.t Orc.z)))))) (fun r _ => rvIs V r) = (Con Try.prog 12 [] [] (AV.b true) [] ∧ True ∧ (!decide (k < 0)) = true ∧ (!decide (k < 0)) = true ∧ decide (k < 0) = false ∧ decide (18 < k) = true ∧ (AV.b true) = V) := by kernel_rfl
theorem s7M0_vc (t : TS) (n q : Nat) (KK L S M : Nat → Int) (h1 : decide (Int.ofNat q < 0) = false) (h2 : decide (18 < Int.ofNat q) = false) (h3 : decide (Int.ofNat (t.n q) = 0) = true) (V : AV) : runK Try.prog 1000000 (.call 7 [.sv 4 n (opC KK L S M), .i .i64 (Int.ofNat q)] (mkH [])) (Orc.cal [] (AV.b true) [] (oc 4 (Orc.f (Orc.lop [0] [1, 5, 28, 29, 30] 1 (XO.exit 0) [(1, AV.i .i64 (Int.ofNat q)), (5, AV.p 0 0)] [some (tsF t)] (Orc.s (Orc.t Orc.z) Orc.z))))) (fun r _ => rvIs V r) = (Con Try.prog 12 [] [] (AV.b true) [] ∧ True ∧ decide (18 < Int.ofNat q) = false ∧ LDoes Try.prog (loopAt Try.prog 7 0) 202 1 (mkT [(1, AV.i .i64 (Int.ofNat q)), (5, AV.p 0 0), (28, AV.sv 4 n (opC KK L S M)), (29, AV.i .i64 (Int.ofNat n)), (30, AV.i .i64 0)]) [some tzO] (XO.exit 0) (mkT [(1, AV.i .i64 (Int.ofNat q)), (5, AV.p 0 0)]) [some (tsF t)] ∧ True ∧ (0 ≤ Int.ofNat q ∧ Int.ofNat q < 19) ∧ q < 19 ∧
  decide (Int.ofNat (TS.n t q) = 0) = true ∧ (AV.b true) = V) := by kernel_rfl
theorem s7M1_vc (t : TS) (t2 : TS) (n q : Nat) (KK L S M : Nat → Int) (h1 : decide (Int.ofNat q < 0) = false) (h2 : decide (18 < Int.ofNat q) = false) (h3 : decide (Int.ofNat (t.n q) = 0) = false) (h4 : decide (0 ≤ t.A q 0) = true) (h5 : decide (t.A q 0 < 3) = true) (h6 : decide (t2.h ((q * 3 + Int.toNat (t.A q 0)) / 3) ((q * 3 + Int.toNat (t.A q 0)) % 3) = t.M q 0) = true) (V : AV) : runK Try.prog 1000000 (.call 7 [.sv 4 n (opC KK L S M), .i .i64 (Int.ofNat q)] (mkH [])) (Orc.cal [] (AV.b true) [] (oc 4 (Orc.f (Orc.lop [0] [1, 5, 28, 29, 30] 1 (XO.exit 0) [(1, AV.i .i64 (Int.ofNat q)), (5, AV.p 0 0)] [some (tsF t)] (Orc.s (Orc.f (Orc.s (Orc.lop [0, 1] [1, 5, 16, 17] 2 (XO.exit 5) [(1, AV.i .i64 (Int.ofNat q)), (5, AV.p 0 0), (16, AV.p 1 0)] [some (tsF t2), some (fbO (TS.A t q 0) (TS.M t q 0) (TS.W t q 0))] (Orc.t (Orc.t (Orc.t (Orc.t (Orc.t (Orc.t (Orc.t (Orc.t (Orc.t (Orc.s (Orc.t
  (Orc.s (Orc.t (Orc.t (Orc.t (Orc.t (Orc.t (Orc.t (Orc.t (Orc.t (Orc.s (Orc.t (Orc.t (Orc.t (Orc.t Orc.z)))) Orc.z))))))))) Orc.z)) Orc.z))))))))))) Orc.z)) Orc.z))))) (fun r _ => rvIs V r) = (Con Try.prog 12 [] [] (AV.b true) [] ∧ True ∧ decide (18 < Int.ofNat q) = false ∧ LDoes Try.prog (loopAt Try.prog 7 0) 202 1 (mkT [(1, AV.i .i64 (Int.ofNat q)), (5, AV.p 0 0), (28, AV.sv 4 n (opC KK L S M)), (29, AV.i .i64 (Int.ofNat n)), (30, AV.i .i64 0)]) [some tzO] (XO.exit 0) (mkT [(1, AV.i .i64 (Int.ofNat q)), (5, AV.p 0 0)]) [some (tsF t)] ∧ True ∧ (0 ≤ Int.ofNat q ∧ Int.ofNat q < 19) ∧ q < 19 ∧ decide (Int.ofNat (TS.n t q) = 0) = false ∧ True ∧ (0 ≤ Int.ofNat q ∧ Int.ofNat q < 19) ∧ q < 19 ∧ ((0 : Int) ≤ (0 : Int) ∧ (0 : Int) < ↑(TS.n t q)) ∧ True ∧ LDoes Try.prog (loopAt Try.prog 7 2) 202 2 (mkT [(1, AV.i .i64 (Int.ofNat q)), (5, AV.p 0 0), (16, AV.p 1 0), (17, AV.i .i64 0)]) [some (tsF
  t), some (fbO (TS.A t q 0) (TS.M t q 0) (TS.W t q 0))] (XO.exit 5) (mkT [(1, AV.i .i64 (Int.ofNat q)), (5, AV.p 0 0), (16, AV.p 1 0)]) [some (tsF t2), some (fbO (TS.A t q 0) (TS.M t q 0) (TS.W t q 0))] ∧ True ∧ decide (0 ≤ TS.A t q 0) = true ∧ True ∧ decide (0 ≤ TS.A t q 0) = true ∧ decide (0 ≤ TS.A t q 0) = true ∧ decide (0 ≤ TS.A t q 0) = true ∧ decide (TS.A t q 0 < 3) = true ∧ decide (TS.A t q 0 < 3) = true ∧ True ∧ decide (TS.A t q 0 < 3) = true ∧ decide (TS.A t q 0 < 3) = true ∧ True ∧ decide (TS.A t q 0 < 3) = true ∧ (0 ≤ Int.ofNat q ∧ Int.ofNat q < 19) ∧ decide (TS.A t q 0 < 3) = true ∧ (0 ≤ TS.A t q 0 ∧ TS.A t q 0 < 3) ∧ decide (TS.A t q 0 < 3) = true ∧ q * 3 + Int.toNat (TS.A t q 0) < 57 ∧ decide (TS.A t q 0 < 3) = true ∧ True ∧ decide (TS.A t q 0 < 3) = true ∧ decide (TS.A t q 0 < 3) = true ∧ decide (TS.A t q 0 < 3) = true ∧ decide (TS.h t2 ((q * 3 + Int.toNat (TS.A t q 0)) /
  3) ((q * 3 + Int.toNat (TS.A t q 0)) % 3) = TS.M t q 0) = true ∧ decide (TS.h t2 ((q * 3 + Int.toNat (TS.A t q 0)) / 3) ((q * 3 + Int.toNat (TS.A t q 0)) % 3) = TS.M t q 0) = true ∧ True ∧ decide (TS.h t2 ((q * 3 + Int.toNat (TS.A t q 0)) / 3) ((q * 3 + Int.toNat (TS.A t q 0)) % 3) = TS.M t q 0) = true ∧ (0 ≤ Int.ofNat q ∧ Int.ofNat q < 19) ∧ decide (TS.h t2 ((q * 3 + Int.toNat (TS.A t q 0)) / 3) ((q * 3 + Int.toNat (TS.A t q 0)) % 3) = TS.M t q 0) = true ∧ q < 19 ∧ decide (TS.h t2 ((q * 3 + Int.toNat (TS.A t q 0)) / 3) ((q * 3 + Int.toNat (TS.A t q 0)) % 3) = TS.M t q 0) = true ∧ decide (TS.h t2 ((q * 3 + Int.toNat (TS.A t q 0)) / 3) ((q * 3 + Int.toNat (TS.A t q 0)) % 3) = TS.M t q 0) = true ∧ decide (TS.h t2 ((q * 3 + Int.toNat (TS.A t q 0)) / 3) ((q * 3 + Int.toNat (TS.A t q 0)) % 3) = TS.M t q 0) = true ∧ (AV.b (decide (Int.ofNat (TS.n t2 q) = 0))) = V) := by kernel_rfl
theorem lk7_lp (t : LS) (q n i N : Nat) (KK L S M : Nat → Int) (Q0 : List HQ) (gn : Int) (hq : q < 19) (hN : Q0.length ≤ 1000) (hn : (t.row q).q.length ≤ 1000) (hc : chk (t.row q).q (t.row q).h gn 0 Q0 = true) : LDoes Try.prog (loopAt Try.prog 7 1) 202 1 (mkT [(1, .i .i64 (Int.ofNat q)), (5, .p 0 0), (11, .i .i64 gn), (12, .i .i64 0), (28, .sv 4 n (opC KK L S M)), (29, .i .i64 (Int.ofNat n)), (30, .i .i64 (Int.ofNat i)), (80, svQ Q0), (81, .i .i64 (Int.ofNat Q0.length)), (82, .i .i64 0)]) [some (tsX t.ts)] (.exit 3) (mkT [(1, .i .i64 (Int.ofNat q)), (5, .p 0 0), (28, .sv 4 n (opC KK L S M)), (29, .i .i64 (Int.ofNat n)), (30, .i .i64 (Int.ofNat i))]) [some (tsF t.ts)] := by
  obtain ⟨N, eN⟩ : ∃ N, N = Q0.length := ⟨_, rfl⟩
  rw [← eN]
  obtain ⟨A, eA⟩ : ∃ A, A = qA Q0 := ⟨_, rfl⟩
  obtain ⟨B, eB⟩ : ∃ B, B = qM Q0 := ⟨_, rfl⟩
  obtain ⟨W, eW⟩ : ∃ W, W = qW Q0 := ⟨_, rfl⟩
  have key := loop_ind (P := Try.prog) (c := loopAt Try.prog 7 1) (n := 202) (b := 1) (x := .exit 3) (l' := [(1, .i .i64 (Int.ofNat q)), (5, .p 0 0), (28, .sv 4 n (opC KK L S M)), (29, .i .i64 (Int.ofNat n)), (30, .i .i64 (Int.ofNat i))]) (objs' := [some (tsF t.ts)]) (D := Nat × Nat) (fun d : Nat × Nat => ([(1, .i .i64 (Int.ofNat q)), (5, .p 0 0), (11, .i .i64 gn), (12, .i .i64 (Int.ofNat d.2)), (28, .sv 4 n (opC KK L S M)), (29, .i .i64 (Int.ofNat n)), (30, .i .i64 (Int.ofNat i)), (80, svN N A B W), (81, .i .i64 (Int.ofNat N)), (82, .i .i64 (Int.ofNat d.1))], [some (tsF t.ts)])) (fun d => N - d.1) (fun d => (d.1 ≤ N ∧ d.2 ≤ d.1) ∧ chk (t.row q).q (t.row q).h gn d.2 (Q0.drop d.1) = true) ?_ (0, 0) ⟨⟨Nat.zero_le _, Nat.le_refl _⟩, by simpa using hc⟩
  · have k2 := key.ovl (objs0 := [some (tsX t.ts)]) ⟨tsX_ov _, trivial⟩
    rw [eA, eB, eW, eN] at k2
    rw [eN]
    exact k2
  rintro ⟨j, at9⟩ ⟨⟨hj, hat⟩, hk⟩
  simp only at hj hat hk
  refine ⟨Nat.le_refl _, ?_⟩
  by_cases e : j = N
  · have h1 : decide (Int.ofNat j < Int.ofNat N) = false := by simp; omega
    exact ⟨_, _, (s7e_vc t.ts q n i N j at9 KK L S M A B W gn h1 _).mpr ⟨h1, .inr ⟨[0], [], _, _, rfl, by simp, st_k [0] (by kernel_rfl)⟩⟩⟩
  have h1 : decide (Int.ofNat j < Int.ofNat N) = true := by simp; omega
  have hjl : j < Q0.length := by omega
  have hAj : A j = Q0[j].a := by rw [eA]; exact qA_lt hjl
  have hBj : B j = Q0[j].m := by rw [eB]; exact qM_lt hjl
  rw [List.drop_eq_getElem_cons hjl, chk_cons, ← hAj, ← hBj] at hk
  by_cases c2 : A j = gn
  · have h2 : decide (A (Int.toNat (Int.ofNat j)) = gn) = true := by simpa using c2
    rw [if_pos c2] at hk
    refine ⟨_, _, (s7a_vc t.ts q n i N j at9 KK L S M A B W gn h1 h2 _).mpr ⟨h1, ⟨by simp <;> omega, by simp <;> omega⟩, trivial, trivial, h2, ⟨by simp <;> omega, by simp <;> omega⟩, .inl ⟨(j + 1, at9), [0], [], _, _, ⟨by omega, ?_⟩, by show N - (j + 1) < N - j; omega, rfl, ?_⟩⟩⟩
    · exact hk
    · exact st_k [0] (by kernel_rfl)
  have h2 : decide (A (Int.toNat (Int.ofNat j)) = gn) = false := by simpa using c2
  rw [if_neg c2] at hk
  have en : t.ts.n q = (t.row q).q.length := rfl
  have ea : ∀ z, t.ts.A q z = qA (t.row q).q z := fun _ => rfl
  by_cases c3 : at9 < (t.row q).q.length ∧ qA (t.row q).q at9 = A j
  · have h3 : decide (Int.ofNat at9 < Int.ofNat (t.ts.n q)) = true := by rw [en]; simp; omega
    have h4 : decide (t.ts.A q at9 = A (Int.toNat (Int.ofNat j))) = true := by rw [ea]; simpa using c3.2
    have h4n : (!decide (t.ts.A q at9 = A j)) = false := by rw [ea]; simpa using c3.2
    rw [if_pos c3] at hk
    refine ⟨_, _, (s7b_vc t.ts q n i N j at9 KK L S M A B W gn h1 h2 h3 h4 _).mpr ⟨h1, ⟨by simp <;> omega, by simp <;> omega⟩, trivial, trivial, h2, trivial, ⟨by simp <;> omega, by simp <;> omega⟩, by omega, h3, h3, trivial, h3, ⟨by simp <;> omega, by simp <;> omega⟩, h3, by omega, h3, h3, ⟨by simp, by simp <;> omega⟩, h3, trivial, h3, trivial, h3, trivial, h3, h3, h3, h4, ⟨by simp <;> omega, by simp <;> omega⟩, trivial, h4n, h4n, h4n, h4n, h4n, h4n, h4n, h4n, h4n, ⟨by simp <;> omega, by simp <;> omega⟩, .inl ⟨(j + 1, at9 + 1), [0], [], _, _, ⟨by omega, ?_⟩, by show N - (j + 1) < N - j; omega, rfl, ?_⟩⟩⟩
    · exact hk
    · exact st_k [0] (by kernel_rfl)
  rw [if_neg c3, Bool.and_eq_true, decide_eq_true_eq] at hk
  obtain ⟨⟨a0, a1, a2, a3⟩, hk⟩ := hk
  subst a0
  have h5 : decide (A (Int.toNat (Int.ofNat j)) < 0) = false := by simp; omega
  have h6 : decide (2 < A (Int.toNat (Int.ofNat j))) = false := by simp; omega
  have h5n : (!decide (A j < 0)) = true := by simp; omega
  have h6n : (!decide (2 < A j)) = true := by simp; omega
  have h7 : decide (t.ts.h ((q * 3 + Int.toNat (A (Int.toNat (Int.ofNat j)))) / 3) ((q * 3 + Int.toNat (A (Int.toNat (Int.ofNat j)))) % 3) < B (Int.toNat (Int.ofNat j))) = false := by
    have e1 : (q * 3 + Int.toNat (A j)) / 3 = q := by omega
    have e2 : (q * 3 + Int.toNat (A j)) % 3 = Int.toNat (A j) := by omega
    have e3 : t.ts.h q (Int.toNat (A j)) = hx (t.row q).h (A j) := by
      rcases three (a := A j) (by omega) with e | e | e <;> rw [e] <;> rfl
    show decide (t.ts.h ((q * 3 + Int.toNat (A j)) / 3) ((q * 3 + Int.toNat (A j)) % 3) < B j) = false
    rw [e1, e2, e3]
    simp only [decide_eq_false_iff_not]
    omega
  by_cases c4 : 0 < (t.row q).q.length
  · have h3 : decide (0 < Int.ofNat (t.ts.n q)) = true := by rw [en]; simp; omega
    have h4 : decide (t.ts.A q 0 = A (Int.toNat (Int.ofNat j))) = false := by
      rw [ea]
      simp only [decide_eq_false_iff_not]
      exact fun e9 => c3 ⟨c4, e9⟩
    have h4n : (!decide (t.ts.A q 0 = A j)) = true := by
      have : decide (t.ts.A q 0 = A j) = false := h4
      rw [this]; rfl
    refine ⟨_, _, (s7d_vc t.ts q n i N j KK L S M A B W gn h1 h2 h3 h4 h5 h6 h7 _).mpr ⟨h1, ⟨by simp <;> omega, by simp <;> omega⟩, trivial, trivial, h2, trivial, ⟨by simp <;> omega, by simp <;> omega⟩, by omega, h3, h3, trivial, h3, ⟨by simp <;> omega, by simp <;> omega⟩, h3, by omega, h3, h3, ⟨by decide, by have := en; omega⟩, h3, trivial, h3, trivial, h3, trivial, h3, h3, h3, h4, trivial, h4n, h4n, h4n, trivial, h4n, h4n, h5n, trivial, h5n, h5n, h4n, h5, h4n, h6n, h6n, trivial, h6n, h6n, trivial, h6n, ⟨by simp <;> omega, by simp <;> omega⟩, h6n, ⟨by omega, by omega⟩, h6n, by omega, h6n, trivial, h6n, h6n, h4n, h6, h4n, h7, ⟨by simp <;> omega, by simp <;> omega⟩, .inl ⟨(j + 1, 0), [0], [], _, _, ⟨by omega, ?_⟩, by show N - (j + 1) < N - j; omega, rfl, ?_⟩⟩⟩
    · exact hk
    · exact st_k [0] (by kernel_rfl)
  · have h3 : decide (0 < Int.ofNat (t.ts.n q)) = false := by rw [en, show (t.row q).q.length = 0 by omega]; rfl
    refine ⟨_, _, (s7c_vc t.ts q n i N j KK L S M A B W gn h1 h2 h3 h5 h6 h7 _).mpr ⟨h1, ⟨by simp <;> omega, by simp <;> omega⟩, trivial, trivial, h2, trivial, ⟨by simp <;> omega, by simp <;> omega⟩, by omega, h3, h3, h3, h3, h3, h3, h3, h3, h3, h3, h3, h3, trivial, trivial, h5n, trivial, h5n, h5n, h5, h6n, h6n, trivial, h6n, h6n, trivial, h6n, ⟨by simp <;> omega, by simp <;> omega⟩, h6n, ⟨by omega, by omega⟩, h6n, by omega, h6n, trivial, h6n, h6n, h6, h7, ⟨by simp <;> omega, by simp <;> omega⟩, .inl ⟨(j + 1, 0), [0], [], _, _, ⟨by omega, ?_⟩, by show N - (j + 1) < N - j; omega, rfl, ?_⟩⟩⟩
    · exact hk
    · exact st_k [0] (by kernel_rfl)
def stB (q : Nat) (s : LS) (kk k m : Int) : LS := if kk = 1 then (if freeE s (Int.ofNat q) k = 0 then freeS s (Int.ofNat q) k else s) else if kk = 2 then dropS s k else (if askE s (Int.ofNat q) k m = 0 then askS s (Int.ofNat q) k m else s)
def runB (q : Nat) (KK S M : Nat → Int) : Nat → LS
  | 0 => zS
  | i + 1 => stB q (runB q KK S M i) (KK i) (S i) (M i)
theorem runB_s (q : Nat) (KK S M : Nat → Int) (i : Nat) : runB q KK S M (i + 1) = stB q (runB q KK S M i) (KK i) (S i) (M i) := rfl
theorem runB_ok (q : Nat) (KK S M : Nat → Int) : ∀ i, (runB q KK S M i).ok
  | 0 => zS_ok
  | i + 1 => stA_ok (runB_ok q KK S M i) _ _ _ _
theorem runB_va (q : Nat) (KK S M : Nat → Int) : ∀ i, vaS (runB q KK S M i) = true
  | 0 => zS_va
  | i + 1 => stA_va (runB_va q KK S M i) _ _ _ _
theorem set_row (s : LS) (l : Nat) (r : Rw) : (s.set l r).row l = r := by
  unfold LS.set
  have : Nat.beq l l = true := Nat.beq_refl l
  simp only [this, cond_true]
theorem ask_row {s : LS} {q : Nat} {k m : Int} (h : askE s (Int.ofNat q) k m = 0) : okA s (Int.ofNat q) k m = true ∧ (askS s (Int.ofNat q) k m).row q = onR (askR (s.row q) k m) := by
  unfold askE at h
  cases c : okA s (Int.ofNat q) k m with
  | false => rw [c] at h; cases h
  | true =>
    refine ⟨rfl, ?_⟩
    unfold askS
    rw [c]
    exact set_row _ _ _
theorem free_row {s : LS} {q : Nat} {k : Int} (h : freeE s (Int.ofNat q) k = 0) : okF s (Int.ofNat q) k = true ∧ (freeS s (Int.ofNat q) k).row q = onR (freeR (s.row q) k) := by
  unfold freeE at h
  cases c : okF s (Int.ofNat q) k with
  | false => rw [c] at h; cases h
  | true =>
    refine ⟨rfl, ?_⟩
    unfold freeS
    rw [c]
    exact set_row _ _ _
theorem law7_lp (q n : Nat) (hq : q < 19) (KK L S M : Nat → Int) (hn : n ≤ 1152921504606846976) : LDoes Try.prog (loopAt Try.prog 7 0) 202 1 (mkT [(1, .i .i64 (Int.ofNat q)), (5, .p 0 0), (28, .sv 4 n (opC KK L S M)), (29, .i .i64 (Int.ofNat n)), (30, .i .i64 0)]) [some tzO] (.exit 0) (mkT [(1, .i .i64 (Int.ofNat q)), (5, .p 0 0)]) [some (tsF (runB q KK S M (min n 301)).ts)] := by
  have key := loop_indV (P := Try.prog) (c := loopAt Try.prog 7 0) (n := 202) (b := 1) (x := .exit 0) (l' := [(1, .i .i64 (Int.ofNat q)), (5, .p 0 0)]) (objs' := [some (tsF (runB q KK S M (min n 301)).ts)]) (D := Nat)
    (fun i : Nat => ([(1, .i .i64 (Int.ofNat q)), (5, .p 0 0), (28, .sv 4 n (opC KK L S M)), (29, .i .i64 (Int.ofNat n)), (30, .i .i64 (Int.ofNat i))], [some (tsF (runB q KK S M i).ts)])) (fun i => n - i) (fun i => i ≤ n ∧ i ≤ 301) (fun i hi => ?_) 0 ⟨Nat.zero_le _, Nat.zero_le _⟩
  · exact key.ovl (objs0 := [some tzO]) ⟨tzO_F, trivial⟩
  refine ⟨Nat.le_refl _, ?_⟩
  have ok := runB_ok q KK S M i
  have va := runB_va q KK S M i
  have va1 := runB_va q KK S M (i + 1)
  have er := runB_s q KK S M i
  have hw := (mayB_ok (va_row va hq)).w.1
  have hl := (mayB_ok (va_row va hq)).len
  by_cases e1 : i = n
  · have h1 : decide (Int.ofNat i < Int.ofNat n) = false := by simp; omega
    refine ⟨_, _, (s7Y_vc (runB q KK S M i).ts q n i KK L S M h1 _).mpr ⟨h1, .inr ⟨[0], [], _, _, _, [some (tsF (runB q KK S M i).ts)], rfl, by simp, st_k [0] (by kernel_rfl), TVL.refl _, ?_⟩⟩⟩
    rw [show min n 301 = i by omega]
    exact OVL.refl _
  have h1 : decide (Int.ofNat i < Int.ofNat n) = true := by simp; omega
  by_cases e2 : i = 301
  · have h2 : decide ((300 : Int) < Int.ofNat i) = true := by simp; omega
    refine ⟨_, _, (s7X_vc (runB q KK S M i).ts q n i KK L S M h1 h2 _).mpr ⟨h1, ⟨by simp <;> omega, by simp <;> omega⟩, trivial, h2, .inr ⟨[0], [], _, _, _, [some (tsF (runB q KK S M i).ts)], rfl, by simp, st_k [0] (by kernel_rfl), TVL.refl _, ?_⟩⟩⟩
    rw [show min n 301 = i by omega]
    exact OVL.refl _
  have h2 : decide ((300 : Int) < Int.ofNat i) = false := by simp; omega
  by_cases e3 : KK i = 1
  · have h3 : decide (KK (Int.toNat (Int.ofNat i)) = 1) = true := by simpa using e3
    have hc := free_con (runB q KK S M i) ok (Int.ofNat q) (S i)
    by_cases e4 : (freeE (runB q KK S M i) (Int.ofNat q) (S i)) = 0
    · have h4 : (!decide ((freeE (runB q KK S M i) (Int.ofNat q) (S i)) = 0)) = false := by simpa using e4
      unfold stB at er
      rw [if_pos e3, if_pos e4] at er
      obtain ⟨f1, f2⟩ := free_row e4
      have fk := (okF_iff.1 f1).2.1
      have hch := chk_free hw fk
      rw [← f2] at hch
      rw [er] at va1
      have hlk := lk7_lp (freeS (runB q KK S M i) (Int.ofNat q) (S i)) q n i 0 KK L S M ((runB q KK S M i).row q).q (S i) hq (by omega) (by have := (mayB_ok (va_row va1 hq)).len; omega) hch
      refine ⟨_, _, (s7C_vc (runB q KK S M i).ts (freeS (runB q KK S M i) (Int.ofNat q) (S i)).ts (freeE (runB q KK S M i) (Int.ofNat q) (S i)) q n i KK L S M h1 h2 h3 h4 _).mpr ⟨h1, ⟨by simp <;> omega, by simp <;> omega⟩, trivial, h2, trivial, ⟨by simp <;> omega, by simp <;> omega⟩, by omega, trivial, trivial, h3, trivial, own_con _ ok, trivial, hc, trivial, h4, trivial, hlk, ⟨by simp <;> omega, by simp <;> omega⟩, .inl ⟨i + 1, [0], [], _, _, _, [some (tsF (freeS (runB q KK S M i) (Int.ofNat q) (S i)).ts)], by omega, by show n - (i + 1) < n - i; omega, rfl, st_k [0] (by kernel_rfl), TVL.refl _, ?_⟩⟩⟩
      dsimp only
      rw [er]
      exact OVL.refl _
    · have h4 : (!decide ((freeE (runB q KK S M i) (Int.ofNat q) (S i)) = 0)) = true := by simpa using e4
      unfold stB at er
      rw [if_pos e3, if_neg e4] at er
      refine ⟨_, _, (s7D_vc (runB q KK S M i).ts (freeS (runB q KK S M i) (Int.ofNat q) (S i)).ts (freeE (runB q KK S M i) (Int.ofNat q) (S i)) q n i KK L S M h1 h2 h3 h4 _).mpr ⟨h1, ⟨by simp <;> omega, by simp <;> omega⟩, trivial, h2, trivial, ⟨by simp <;> omega, by simp <;> omega⟩, by omega, trivial, trivial, h3, trivial, own_con _ ok, trivial, hc, trivial, h4, ⟨by simp <;> omega, by simp <;> omega⟩, .inl ⟨i + 1, [0], [], _, _, _, [some (tsF (runB q KK S M i).ts)], by omega, by show n - (i + 1) < n - i; omega, rfl, st_k [0] (by kernel_rfl), TVL.refl _, ?_⟩⟩⟩
      dsimp only
      rw [er]
      exact OVL.refl _
  have h3 : decide (KK (Int.toNat (Int.ofNat i)) = 1) = false := by simpa using e3
  by_cases e3b : KK i = 2
  · have h3b : decide (KK (Int.toNat (Int.ofNat i)) = 2) = true := by simpa using e3b
    have hc := drop_con (runB q KK S M i) ok (S i)
    unfold stB at er
    rw [if_neg e3, if_pos e3b] at er
    have hch : chk ((dropS (runB q KK S M i) (S i)).row q).q ((dropS (runB q KK S M i) (S i)).row q).h (S i) 0 ((runB q KK S M i).row q).q = true := by
      by_cases hk : 0 ≤ S i ∧ S i < 3
      · rw [dropS_row va hk hq]
        exact chk_free hw hk
      · have e : (dropS (runB q KK S M i) (S i)) = (runB q KK S M i) := by
          unfold dropS
          have : isServerB (S i) = false := by
            unfold isServerB
            rw [Bool.eq_false_iff]
            intro c
            simp only [Bool.and_eq_true, decide_eq_true_eq] at c
            exact hk c
          rw [this]
          rfl
        rw [e]
        exact chk_self hw.once fun x hx9 e9 => hk (by rw [← e9]; exact (mw_iff.1 (hw.wait x hx9)).1)
    rw [er] at va1
    have hlk := lk7_lp (dropS (runB q KK S M i) (S i)) q n i 0 KK L S M ((runB q KK S M i).row q).q (S i) hq (by omega) (by have := (mayB_ok (va_row va1 hq)).len; omega) hch
    refine ⟨_, _, (s7E_vc (runB q KK S M i).ts (dropS (runB q KK S M i) (S i)).ts q n i KK L S M h1 h2 h3 h3b _).mpr ⟨h1, ⟨by simp <;> omega, by simp <;> omega⟩, trivial, h2, trivial, ⟨by simp <;> omega, by simp <;> omega⟩, by omega, trivial, trivial, h3, h3b, trivial, own_con _ ok, trivial, hc, trivial, trivial, hlk, ⟨by simp <;> omega, by simp <;> omega⟩, .inl ⟨i + 1, [0], [], _, _, _, [some (tsF (dropS (runB q KK S M i) (S i)).ts)], by omega, by show n - (i + 1) < n - i; omega, rfl, st_k [0] (by kernel_rfl), TVL.refl _, ?_⟩⟩⟩
    dsimp only
    rw [er]
    exact OVL.refl _
  have h3b : decide (KK (Int.toNat (Int.ofNat i)) = 2) = false := by simpa using e3b
  have hc := ask_con (runB q KK S M i) ok (Int.ofNat q) (S i) (M i)
  by_cases e4 : (askE (runB q KK S M i) (Int.ofNat q) (S i) (M i)) = 0
  · have h4 : (!decide ((askE (runB q KK S M i) (Int.ofNat q) (S i) (M i)) = 0)) = false := by simpa using e4
    unfold stB at er
    rw [if_neg e3, if_neg e3b, if_pos e4] at er
    obtain ⟨f1, f2⟩ := ask_row e4
    have fk := okA_iff.1 f1
    have hch := chk_ask hw fk.2.1 fk.2.2.1
    rw [← f2] at hch
    rw [er] at va1
    have hlk := lk7_lp (askS (runB q KK S M i) (Int.ofNat q) (S i) (M i)) q n i 0 KK L S M ((runB q KK S M i).row q).q (-1) hq (by omega) (by have := (mayB_ok (va_row va1 hq)).len; omega) hch
    refine ⟨_, _, (s7A_vc (runB q KK S M i).ts (askS (runB q KK S M i) (Int.ofNat q) (S i) (M i)).ts (askE (runB q KK S M i) (Int.ofNat q) (S i) (M i)) q n i KK L S M h1 h2 h3 h3b h4 _).mpr ⟨h1, ⟨by simp <;> omega, by simp <;> omega⟩, trivial, h2, trivial, ⟨by simp <;> omega, by simp <;> omega⟩, by omega, trivial, trivial, h3, h3b, trivial, own_con _ ok, trivial, trivial, hc, h4, trivial, hlk, ⟨by simp <;> omega, by simp <;> omega⟩, .inl ⟨i + 1, [0], [], _, _, _, [some (tsF (askS (runB q KK S M i) (Int.ofNat q) (S i) (M i)).ts)], by omega, by show n - (i + 1) < n - i; omega, rfl, st_k [0] (by kernel_rfl), TVL.refl _, ?_⟩⟩⟩
    dsimp only
    rw [er]
    exact OVL.refl _
  · have h4 : (!decide ((askE (runB q KK S M i) (Int.ofNat q) (S i) (M i)) = 0)) = true := by simpa using e4
    unfold stB at er
    rw [if_neg e3, if_neg e3b, if_neg e4] at er
    refine ⟨_, _, (s7B_vc (runB q KK S M i).ts (askS (runB q KK S M i) (Int.ofNat q) (S i) (M i)).ts (askE (runB q KK S M i) (Int.ofNat q) (S i) (M i)) q n i KK L S M h1 h2 h3 h3b h4 _).mpr ⟨h1, ⟨by simp <;> omega, by simp <;> omega⟩, trivial, h2, trivial, ⟨by simp <;> omega, by simp <;> omega⟩, by omega, trivial, trivial, h3, h3b, trivial, own_con _ ok, trivial, trivial, hc, h4, ⟨by simp <;> omega, by simp <;> omega⟩, .inl ⟨i + 1, [0], [], _, _, _, [some (tsF (runB q KK S M i).ts)], by omega, by show n - (i + 1) < n - i; omega, rfl, st_k [0] (by kernel_rfl), TVL.refl _, ?_⟩⟩⟩
    dsimp only
    rw [er]
    exact OVL.refl _
structure Jo (x : HQ) (D : Int → Prop) (r : Rw) : Prop where
  w : RowW r
  stk : Stk r
  freed : ∀ k, 0 ≤ k ∧ k < 3 → D k → hx r.h k = 0 ∧ ∀ y ∈ r.q, y.a ≠ k
  fst : x ∈ r.q ∨ (hx r.h x.a = x.m ∧ ∀ y ∈ r.q, y.a ≠ x.a)
theorem mem_rm {k : Int} : ∀ {q : List HQ} {x : HQ}, x ∈ q → x.a ≠ k → x ∈ rmQ k q
  | [], x, h, _ => by cases h
  | y :: q, x, h, hne => by
    unfold rmQ
    split
    · rename_i c
      rcases List.mem_cons.1 h with rfl | h
      · exact absurd c hne
      · exact h
    · rcases List.mem_cons.1 h with rfl | h
      · exact List.mem_cons_self
      · exact List.mem_cons_of_mem _ (mem_rm h hne)
theorem Jo.step {x : HQ} {D : Int → Prop} {r : Rw} (j : Jo x D r) {k : Int} (hk : 0 ≤ k ∧ k < 3) (hxa : 0 ≤ x.a ∧ x.a < 3) (hne : k ≠ x.a) : Jo x (fun b => D b ∨ b = k) (onR (freeR r k)) := by
  have wf := free_w j.w hk
  have e : onR (freeR r k) = goL (setH r.h k 0) (rmQ k r.q) := by rw [freeR_eq]; rfl
  obtain ⟨o1, o2⟩ := goL_ok (freeR r k).q (freeR r k).h wf
  rw [freeR_eq] at wf o1 o2
  obtain ⟨p, p1, p2, p3⟩ := goL_spec (rmQ k r.q) (setH r.h k 0) wf
  rw [e]
  refine ⟨o1, o2, fun b hb hd => ?_, ?_⟩
  · have ho : ∀ y ∈ rmQ k r.q, y.a ≠ b := by
      intro y hy
      rcases hd with hd | rfl
      · exact (j.freed b hb hd).2 y ((rmQ_sub k r.q).subset hy)
      · exact rmQ_ne b r.q j.w.once y hy
    refine ⟨?_, fun y hy => ho y (by rw [p1]; exact List.mem_append_right _ hy)⟩
    rw [p3 b hb fun y hy => ho y (by rw [p1]; exact List.mem_append_left _ hy), hx_set _ _ hk hb]
    split
    · rfl
    · rename_i c
      rcases hd with hd | hd
      · exact (j.freed b hb hd).1
      · exact absurd hd c
  · rcases j.fst with h | ⟨h1, h2⟩
    · have hm := mem_rm (k := k) h (fun c => hne c.symm)
      rw [p1] at hm
      rcases List.mem_append.1 hm with hm | hm
      · refine .inr ⟨p2 x hm, fun y hy c => ?_⟩
        have ho := wf.once
        rw [show (⟨setH r.h k 0, rmQ k r.q⟩ : Rw).q = p ++ (goL (setH r.h k 0) (rmQ k r.q)).q from p1, List.pairwise_append] at ho
        exact ho.2.2 x hm y hy c.symm
      · exact .inl hm
    · refine .inr ⟨?_, fun y hy => h2 y ((rmQ_sub k r.q).subset (by rw [p1]; exact List.mem_append_right _ hy))⟩
      rw [p3 x.a hxa fun y hy => h2 y ((rmQ_sub k r.q).subset (by rw [p1]; exact List.mem_append_left _ hy)), hx_set _ _ hk hxa, if_neg fun c => hne c.symm]
      exact h1
theorem Jo.fin {x : HQ} {D : Int → Prop} {r : Rw} (j : Jo x D r) (hxa : 0 ≤ x.a ∧ x.a < 3) (hd : ∀ k, 0 ≤ k ∧ k < 3 → k ≠ x.a → D k) : hx r.h x.a = x.m ∧ r.q = [] := by
  have only : ∀ y ∈ r.q, y.a = x.a := by
    intro y hy
    apply Classical.byContradiction
    intro c
    have hya := (mw_iff.1 (j.w.wait y hy)).1
    exact (j.freed y.a hya (hd y.a hya c)).2 y hy rfl
  cases hq : r.q with
  | nil =>
    rcases j.fst with h | ⟨h1, _⟩
    · rw [hq] at h; cases h
    · exact ⟨h1, rfl⟩
  | cons y l =>
    exfalso
    have hy := only y (by rw [hq]; exact List.mem_cons_self)
    rcases j.fst with h | ⟨_, h2⟩
    · have hs := j.stk y l hq
      have z : ∀ b, 0 ≤ b ∧ b < 3 → b ≠ x.a → hx r.h b = 0 := fun b hb hne => (j.freed b hb (hd b hb hne)).1
      have e0 : hx r.h 0 = r.h 0 := rfl
      have e1 : hx r.h 1 = r.h 1 := rfl
      have e2 : hx r.h 2 = r.h 2 := rfl
      have ct : canB r.h y.a y.m = true := by
        rw [hy]
        unfold canB goesB
        simp only [Bool.and_eq_true, Bool.or_eq_true, decide_eq_true_eq]
        refine ⟨?_, ?_, ?_⟩
        · by_cases c : (0 : Int) = x.a
          · exact .inl c
          · exact .inr (.inl (.inr (by rw [← e0]; exact z 0 (by omega) c)))
        · by_cases c : (1 : Int) = x.a
          · exact .inl c
          · exact .inr (.inl (.inr (by rw [← e1]; exact z 1 (by omega) c)))
        · by_cases c : (2 : Int) = x.a
          · exact .inl c
          · exact .inr (.inl (.inr (by rw [← e2]; exact z 2 (by omega) c)))
      rw [ct] at hs
      cases hs
    · exact h2 y (by rw [hq]; exact List.mem_cons_self) hy
def fN (q : Nat) (a : Int) (s : LS) : Nat → LS
  | 0 => s
  | j + 1 => if Int.ofNat j = a then fN q a s j else freeS (fN q a s j) (Int.ofNat q) (Int.ofNat j)
theorem fN_s (q : Nat) (a : Int) (s : LS) (j : Nat) : fN q a s (j + 1) = if Int.ofNat j = a then fN q a s j else freeS (fN q a s j) (Int.ofNat q) (Int.ofNat j) := rfl
theorem fN_ok {s : LS} (o : s.ok) (q : Nat) (a : Int) : ∀ j, (fN q a s j).ok
  | 0 => o
  | j + 1 => by
    rw [fN_s]
    split
    · exact fN_ok o q a j
    · exact freeS_ok (fN_ok o q a j) _ _
theorem fN_va {s : LS} (v : vaS s = true) (q : Nat) (a : Int) : ∀ j, vaS (fN q a s j) = true
  | 0 => v
  | j + 1 => by
    rw [fN_s]
    split
    · exact fN_va v q a j
    · exact freeS_va (fN_va v q a j) _ _
theorem okF_e {s : LS} {l k : Int} (h : okF s l k = true) : freeE s l k = 0 := by unfold freeE; rw [h]; rfl
theorem fN_ok0 {s : LS} (v : vaS s = true) {q : Nat} (hq : q < 19) (a : Int) {j : Nat} (hj : j < 3) : freeE (fN q a s j) (Int.ofNat q) (Int.ofNat j) = 0 :=
  okF_e (okF_iff.2 ⟨⟨by simp, by simp <;> omega⟩, ⟨by simp, by simp <;> omega⟩, fN_va v q a j⟩)
theorem fN_jo {s : LS} (v : vaS s = true) {q : Nat} (hq : q < 19) {x : HQ} (hxa : 0 ≤ x.a ∧ x.a < 3) (hxq : x ∈ (s.row q).q) : ∀ j, j ≤ 3 → Jo x (fun b => b < Int.ofNat j ∧ b ≠ x.a) ((fN q x.a s j).row q)
  | 0, _ => by
    have hm := mayB_ok (va_row v hq)
    exact ⟨hm.w.1, hm.w.2, fun k hk hd => by simp at hd; omega, .inl hxq⟩
  | j + 1, hj => by
    have ih := fN_jo v hq hxa hxq j (by omega)
    rw [fN_s]
    by_cases c : Int.ofNat j = x.a
    · rw [if_pos c]
      exact ⟨ih.w, ih.stk, fun k hk hd => ih.freed k hk ⟨by have := hd.1; have := hd.2; simp at *; omega, hd.2⟩, ih.fst⟩
    · rw [if_neg c, (free_row (fN_ok0 v hq x.a (by omega))).2]
      have st := ih.step (k := Int.ofNat j) ⟨by simp, by simp <;> omega⟩ hxa c
      refine ⟨st.w, st.stk, fun k hk hd => st.freed k hk ?_, st.fst⟩
      by_cases e : k = Int.ofNat j
      · exact .inr e
      · exact .inl ⟨by have := hd.1; simp at *; omega, hd.2⟩
theorem fl7_lp (s0 : LS) (o : s0.ok) (v : vaS s0 = true) (q : Nat) (hq : q < 19) (a m w : Int) : LDoes Try.prog (loopAt Try.prog 7 2) 202 2 (mkT [(1, .i .i64 (Int.ofNat q)), (5, .p 0 0), (16, .p 1 0), (17, .i .i64 0)]) [some (tsF s0.ts), some (fbO a m w)] (.exit 5) (mkT [(1, .i .i64 (Int.ofNat q)), (5, .p 0 0), (16, .p 1 0)]) [some (tsF (fN q a s0 3).ts), some (fbO a m w)] := by
  refine loop_indV (D := Nat) (fun s : Nat => ([(1, .i .i64 (Int.ofNat q)), (5, .p 0 0), (16, .p 1 0), (17, .i .i64 (Int.ofNat s))], [some (tsF (fN q a s0 s).ts), some (fbO a m w)])) (fun s => 3 - s) (fun s => s ≤ 3) (fun s hs => ?_) 0 (by decide)
  refine ⟨Nat.le_refl _, ?_⟩
  have ok := fN_ok o q a s
  by_cases e : s = 3
  · subst e
    exact ⟨_, _, (s7r_vc _ q a m w _).mpr (.inr ⟨[0, 1], [], _, _, _, [some (tsF (fN q a s0 3).ts), some (fbO a m w)], rfl, by simp, st_k [0, 1] (by kernel_rfl), TVL.refl _, OVL.refl _⟩)⟩
  have h1 : decide (Int.ofNat s < 3) = true := by simp <;> omega
  have er := fN_s q a s0 s
  by_cases c : Int.ofNat s = a
  · have h2 : (!decide (Int.ofNat s = a)) = false := by rw [decide_eq_true c]; rfl
    rw [if_pos c] at er
    refine ⟨_, _, (s7p_vc (fN q a s0 s).ts q s a m w h1 h2 _).mpr ⟨h1, trivial, h2, ⟨by simp <;> omega, by simp <;> omega⟩, .inl ⟨s + 1, [0, 1], [], _, _, _, [some (tsF (fN q a s0 s).ts), some (fbO a m w)], by omega, by show 3 - (s + 1) < 3 - s; omega, rfl, st_k [0, 1] (by kernel_rfl), TVL.refl _, ?_⟩⟩⟩
    dsimp only
    rw [er]
    exact OVL.refl _
  · have h2 : (!decide (Int.ofNat s = a)) = true := by rw [decide_eq_false c]; rfl
    rw [if_neg c] at er
    have hc := free_con (fN q a s0 s) ok (Int.ofNat q) (Int.ofNat s)
    rw [fN_ok0 v hq a (by omega)] at hc
    refine ⟨_, _, (s7q_vc (fN q a s0 s).ts (freeS (fN q a s0 s) (Int.ofNat q) (Int.ofNat s)).ts q s a m w h1 h2 _).mpr ⟨h1, trivial, h2, trivial, own_con _ ok, hc, trivial, ⟨by simp <;> omega, by simp <;> omega⟩, .inl ⟨s + 1, [0, 1], [], _, _, _, [some (tsX (freeS (fN q a s0 s) (Int.ofNat q) (Int.ofNat s)).ts), some (fbO a m w)], by omega, by show 3 - (s + 1) < 3 - s; omega, rfl, st_k [0, 1] (by kernel_rfl), TVL.refl _, ?_⟩⟩⟩
    dsimp only
    rw [er]
    exact ⟨tsX_ov _, .refl _, trivial⟩
theorem law7_con (n : Nat) (KK L S M : Nat → Int) (k : Int) (hn : n ≤ 1152921504606846976) : Con Try.prog 7 [.sv 4 n (opC KK L S M), .i .i64 k] [] (.b true) [] := by
  by_cases c0 : k < 0
  · have h1 : decide (k < 0) = true := by simpa using c0
    refine con_pureX (s7N0_vc n KK L S M k h1 _) rfl ?_
    repeat' first | exact awake_con | exact trivial | exact rfl | (simp only [h1, Bool.not_true, Bool.not_false]; done) | apply And.intro
  have h1 : decide (k < 0) = false := by simpa using c0
  by_cases c1 : 18 < k
  · have h2 : decide (18 < k) = true := by simpa using c1
    refine con_pureX (s7N1_vc n KK L S M k h1 h2 _) rfl ?_
    repeat' first | exact awake_con | exact trivial | exact rfl | (simp only [h1, h2, Bool.not_true, Bool.not_false]; done) | apply And.intro
  obtain ⟨q, rfl⟩ : ∃ q : Nat, k = Int.ofNat q := ⟨k.toNat, by simp; omega⟩
  have h2 : decide (18 < Int.ofNat q) = false := by simpa using c1
  have hq : q < 19 := by simp at c1; omega
  have hlp := law7_lp q n hq KK L S M hn
  have ot := runB_ok q KK S M (min n 301)
  have vt := runB_va q KK S M (min n 301)
  generalize runB q KK S M (min n 301) = s at hlp ot vt
  cases er : (s.row q).q with
  | nil =>
    have h3 : decide (Int.ofNat (s.ts.n q) = 0) = true := by
      have : s.ts.n q = 0 := by show (s.row q).q.length = 0; rw [er]; rfl
      rw [this]; rfl
    refine con_pureX (s7M0_vc s.ts n q KK L S M h1 h2 h3 _) rfl ⟨awake_con, trivial, h2, hlp, trivial, ⟨by simp <;> omega, by simp <;> omega⟩, by omega, h3, ?_⟩
    rfl
  | cons x l =>
    have hxq : x ∈ (s.row q).q := by rw [er]; exact List.mem_cons_self
    have hxa := (mw_iff.1 ((mayB_ok (va_row vt hq)).w.1.wait x hxq)).1
    have hfl := fl7_lp s ot vt q hq x.a x.m x.w
    have hj := (fN_jo vt hq hxa hxq 3 (Nat.le_refl _)).fin hxa fun b hb hne => ⟨hb.2, hne⟩
    generalize fN q x.a s 3 = s2 at hfl hj
    have eA : s.ts.A q 0 = x.a := by show qA (s.row q).q 0 = x.a; rw [er]; rfl
    have eM : s.ts.M q 0 = x.m := by show qM (s.row q).q 0 = x.m; rw [er]; rfl
    have eW : s.ts.W q 0 = x.w := by show qW (s.row q).q 0 = x.w; rw [er]; rfl
    have en : s.ts.n q = l.length + 1 := by show (s.row q).q.length = _; rw [er]; rfl
    have h3 : decide (Int.ofNat (s.ts.n q) = 0) = false := by rw [en]; simp; omega
    rw [← eA, ← eM, ← eW] at hfl
    rw [← eA] at hxa
    have h4 : decide (0 ≤ s.ts.A q 0) = true := by simpa using hxa.1
    have h5 : decide (s.ts.A q 0 < 3) = true := by simpa using hxa.2
    have h6 : decide (s2.ts.h ((q * 3 + Int.toNat (s.ts.A q 0)) / 3) ((q * 3 + Int.toNat (s.ts.A q 0)) % 3) = s.ts.M q 0) = true := by
      have e1 : (q * 3 + Int.toNat (s.ts.A q 0)) / 3 = q := by omega
      have e2 : (q * 3 + Int.toNat (s.ts.A q 0)) % 3 = Int.toNat (s.ts.A q 0) := by omega
      have e3 : s2.ts.h q (Int.toNat (s.ts.A q 0)) = hx (s2.row q).h (s.ts.A q 0) := by
        rcases three hxa with e | e | e <;> rw [e] <;> rfl
      rw [e1, e2, e3, eM, eA, hj.1]
      simp
    refine con_pureX (s7M1_vc s.ts s2.ts n q KK L S M h1 h2 h3 h4 h5 h6 _) rfl ⟨awake_con, trivial, h2, hlp, trivial, ⟨by simp <;> omega, by simp <;> omega⟩, by omega, h3, trivial, ⟨by simp <;> omega, by simp <;> omega⟩, by omega, ⟨by decide, by omega⟩, trivial, hfl, trivial, h4, trivial, h4, h4, h4, h5, h5, trivial, h5, h5, trivial, h5, ⟨by simp <;> omega, by simp <;> omega⟩, h5, ⟨by omega, by omega⟩, h5, by omega, h5, trivial, h5, h5, h5, h6, h6, trivial, h6, ⟨by simp <;> omega, by simp <;> omega⟩, h6, by omega, h6, h6, h6, ?_⟩
    have : s2.ts.n q = 0 := by show (s2.row q).q.length = 0; rw [hj.2]; rfl
    rw [this]
    rfl
end Go.Proofs.Lk
