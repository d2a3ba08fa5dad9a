/- Runs over unknown values, told by the kernel: part GC. -/
import Derived.Test.YtgggnjjhfkijfaaGB
set_option linter.unusedSimpArgs false
set_option linter.unusedVariables false
set_option maxRecDepth 20000
namespace Go.Proofs.Ck
open Go Go.Sim Go.Proofs Go.Proofs.Lk Go.Proofs.Sv Go.Proofs.Ytgggnjjhfkijfaa
noncomputable abbrev tuT (m1 : Mg) (p : Int) (n : Nat) (f : Nat → Int) (now sent to i : Int) : List (Nat × AV) := [(0, .i .i64 p), (4, .b false), (5, .p 0 0), (7, mg1 m1), (8, .i .i64 0), (9, .i .i64 now), (10, .i .i64 sent), (11, .i .i64 to), (46, isv n f), (47, .i .i64 (Int.ofNat n)), (48, .i .i64 i)]
theorem t2_lq (x : Cl) (m1 : Mg) (p : Int) (n : Nat) (f : Nat → Int) (now : Int) (sent : Int) (to : Int) (i : Nat) (h0 : decide (Int.ofNat i < Int.ofNat n) = true) (h1 : decide
  (200 < Int.ofNat i) = false) (h2 : decide (6 ≤ (now + gp (f i)) - sent) = false) (h3 : (decide (6 ≤ (now + gp (f i)) - sent) == false) = true) : LD Try.prog (loopAt Try.prog
  6 0) 122 1 [(0, .i .i64 p), (4, .b false), (5, .p 0 0), (7, mg1 m1), (8, .i .i64 0), (9, .i .i64 now), (10, .i .i64 sent), (11, .i .i64 to), (46, isv n f), (47, .i .i64
  (Int.ofNat n)), (48, .i .i64 (Int.ofNat i))] [some (clO x)] (Orc.t (Orc.f (Orc.cal [0] (.tup [.l0, .i .i64 0]) [.keep] (oc 6 (Orc.t (Orc.t (Orc.t (Orc.f (Orc.c (Orc.f
  Orc.z)))))))))) .nrm [0] [(0, .i .i64 p), (4, .b false), (5, .p 0 0), (7, mg1 m1), (8, .i .i64 0), (9, .i .i64 (now + gp (f i))), (10, .i .i64 sent), (11, .i .i64 to), (46,
  isv n f), (47, .i .i64 (Int.ofNat n)), (48, .i .i64 (Int.ofNat i + 1))] [some (clO x)] 1 (fun Lf => decide (Int.ofNat i < Int.ofNat n) = true ∧ (0 ≤ Int.ofNat i ∧ Int.ofNat i
  < ↑n) ∧ True ∧ decide (200 < Int.ofNat i) = false ∧ (((-9223372036854775808) ≤ now + gp (f i)) ∧ (now + gp (f i)) ≤ 9223372036854775807) ∧ Con Try.prog 10 [.p 0 0, .i .i64
  (now + gp (f i))] [some (clO x)] (.tup [.l0, .i .i64 0]) [.keep] ∧ rg ((now + gp (f i)) - sent) ∧ True ∧ (!!decide (6 ≤ (now + gp (f i)) - sent) == false) = true ∧ (!!decide
  (6 ≤ (now + gp (f i)) - sent) == false) = true ∧ (!!decide (6 ≤ (now + gp (f i)) - sent) == false) = true ∧ (!decide (6 ≤ (now + gp (f i)) - sent) == false) = false ∧ decide
  (6 ≤ (now + gp (f i)) - sent) = false ∧ rg (Int.ofNat i + 1) ∧ Lf) := by unfold LD LQ; kernel_rfl
theorem t3_lq (x : Cl) (m1 : Mg) (p : Int) (n : Nat) (f : Nat → Int) (now : Int) (sent : Int) (to : Int) (m2 : Mg) (x2 : Cl) (i : Nat) (h0 : decide (Int.ofNat i < Int.ofNat n)
  = true) (h1 : decide (200 < Int.ofNat i) = false) (h2 : decide (6 ≤ (now + gp (f i)) - sent) = true) (h3 : (decide (6 ≤ (now + gp (f i)) - sent) == true) = true) (h4 : decide
  (m2.to = Int.tmod (to + 1) p) = true) : LD Try.prog (loopAt Try.prog 6 0) 122 1 [(0, .i .i64 p), (4, .b false), (5, .p 0 0), (7, mg1 m1), (8, .i .i64 0), (9, .i .i64 now),
  (10, .i .i64 sent), (11, .i .i64 to), (46, isv n f), (47, .i .i64 (Int.ofNat n)), (48, .i .i64 (Int.ofNat i))] [some (clO x)] (Orc.t (Orc.f (Orc.cal [0] (.tup [mg1 m2, .i
  .i64 0]) [.set (clO x2)] (oc 6 (Orc.t (Orc.t (Orc.t (Orc.f (Orc.c (Orc.t (Orc.t (Orc.t (Orc.t (Orc.t (Orc.t (Orc.t (Orc.t (Orc.t (Orc.t (Orc.cal [] (.b true) [] (Orc.t (Orc.f
  (Orc.c Orc.z))))))))))))))))))))))) .nrm [0] [(0, .i .i64 p), (4, .b false), (5, .p 0 0), (7, mg1 m1), (8, .i .i64 0), (9, .i .i64 (now + gp (f i))), (10, .i .i64 (now + gp
  (f i))), (11, .i .i64 (Int.tmod (to + 1) p)), (46, isv n f), (47, .i .i64 (Int.ofNat n)), (48, .i .i64 (Int.ofNat i + 1))] [some (clO x2)] 1 (fun Lf => decide (Int.ofNat i <
  Int.ofNat n) = true ∧ (0 ≤ Int.ofNat i ∧ Int.ofNat i < ↑n) ∧ True ∧ decide (200 < Int.ofNat i) = false ∧ (((-9223372036854775808) ≤ now + gp (f i)) ∧ (now + gp (f i)) ≤
  9223372036854775807) ∧ Con Try.prog 10 [.p 0 0, .i .i64 (now + gp (f i))] [some (clO x)] (.tup [mg1 m2, .i .i64 0]) [.set (clO x2)] ∧ rg ((now + gp (f i)) - sent) ∧ True ∧
  (!!decide (6 ≤ (now + gp (f i)) - sent) == true) = true ∧ (!!decide (6 ≤ (now + gp (f i)) - sent) == true) = true ∧ (!!decide (6 ≤ (now + gp (f i)) - sent) == true) = true ∧
  (!decide (6 ≤ (now + gp (f i)) - sent) == true) = false ∧ decide (6 ≤ (now + gp (f i)) - sent) = true ∧ rg (to + 1) ∧ p ≠ 0 ∧ ((0 : Int) ≤ (0 : Int) ∧ (0 : Int) < (1 : Int))
  ∧ True ∧ True ∧ (!!decide (Mg.to m2 = Int.tmod (to + 1) p)) = true ∧ (!!decide (Mg.to m2 = Int.tmod (to + 1) p)) = true ∧ ((0 : Int) ≤ (0 : Int) ∧ (0 : Int) < (1 : Int)) ∧
  (!!decide (Mg.to m2 = Int.tmod (to + 1) p)) = true ∧ True ∧ (!!decide (Mg.to m2 = Int.tmod (to + 1) p)) = true ∧ True ∧ (!!decide (Mg.to m2 = Int.tmod (to + 1) p)) = true ∧
  (!!decide (Mg.to m2 = Int.tmod (to + 1) p)) = true ∧ ((0 : Int) ≤ (0 : Int) ∧ (0 : Int) < (1 : Int)) ∧ (!!decide (Mg.to m2 = Int.tmod (to + 1) p)) = true ∧ True ∧ (!!decide
  (Mg.to m2 = Int.tmod (to + 1) p)) = true ∧ True ∧ (!!decide (Mg.to m2 = Int.tmod (to + 1) p)) = true ∧ Con Try.prog 22 [.agg [.i .i64 (Cm.k (Mg.c m2)), .i .i64 (Cm.sv (Mg.c
  m2)), .i .i64 (Cm.bt (Mg.c m2)), .i .i64 (Cm.sq (Mg.c m2)), .i .i64 (Cm.gn (Mg.c m2)), .i .i64 (Cm.lk (Mg.c m2)), .i .i64 (Cm.md (Mg.c m2)), .i .i64 (Cm.ot (Mg.c m2)), isv
  (Cm.mn (Mg.c m2)) (Cm.mf (Mg.c m2)), .i .i64 (Cm.d (Mg.c m2))], .agg [.i .i64 (Cm.k (Mg.c m1)), .i .i64 (Cm.sv (Mg.c m1)), .i .i64 (Cm.bt (Mg.c m1)), .i .i64 (Cm.sq (Mg.c
  m1)), .i .i64 (Cm.gn (Mg.c m1)), .i .i64 (Cm.lk (Mg.c m1)), .i .i64 (Cm.md (Mg.c m1)), .i .i64 (Cm.ot (Mg.c m1)), isv (Cm.mn (Mg.c m1)) (Cm.mf (Mg.c m1)), .i .i64 (Cm.d (Mg.c
  m1))]] [] (.b true) [] ∧ (!!decide (Mg.to m2 = Int.tmod (to + 1) p)) = true ∧ True ∧ (!decide (Mg.to m2 = Int.tmod (to + 1) p)) = false ∧ rg (Int.ofNat i + 1) ∧ Lf)
  := by unfold LD LQ; kernel_rfl
theorem tB_lq (x : Cl) (m1 : Mg) (p : Int) (n : Nat) (f : Nat → Int) (now : Int) (sent : Int) (to : Int) (i : Nat) (h0 : decide (Int.ofNat i < Int.ofNat n) = true) (h1 : decide
  (200 < Int.ofNat i) = true) : LD Try.prog (loopAt Try.prog 6 0) 122 1 [(0, .i .i64 p), (4, .b false), (5, .p 0 0), (7, mg1 m1), (8, .i .i64 0), (9, .i .i64 now), (10, .i .i64
  sent), (11, .i .i64 to), (46, isv n f), (47, .i .i64 (Int.ofNat n)), (48, .i .i64 (Int.ofNat i))] [some (clO x)] (Orc.t (Orc.t Orc.z)) (.exit 0) [0] [(5, .p 0 0), (7, mg1
  m1), (8, .i .i64 0), (11, .i .i64 to)] [some (clO x)] 1 (fun Lf => decide (Int.ofNat i < Int.ofNat n) = true ∧ (0 ≤ Int.ofNat i ∧ Int.ofNat i < ↑n) ∧ True ∧ decide (200 <
  Int.ofNat i) = true ∧ Lf) := by unfold LD LQ; kernel_rfl
theorem tE_lq (x : Cl) (m1 : Mg) (p : Int) (n : Nat) (f : Nat → Int) (now : Int) (sent : Int) (to : Int) (i : Nat) (h0 : decide (Int.ofNat i < Int.ofNat n) = false) : LD
  Try.prog (loopAt Try.prog 6 0) 122 1 [(0, .i .i64 p), (4, .b false), (5, .p 0 0), (7, mg1 m1), (8, .i .i64 0), (9, .i .i64 now), (10, .i .i64 sent), (11, .i .i64 to), (46,
  isv n f), (47, .i .i64 (Int.ofNat n)), (48, .i .i64 (Int.ofNat i))] [some (clO x)] (Orc.f Orc.z) (.exit 0) [0] [(5, .p 0 0), (7, mg1 m1), (8, .i .i64 0), (11, .i .i64 to)]
  [some (clO x)] 1 (fun Lf => decide (Int.ofNat i < Int.ofNat n) = false ∧ Lf) := by unfold LD LQ; kernel_rfl
theorem t0a_vq (p : Int) (n : Nat) (f : Nat → Int) (h : decide (p < 1) = true) : VD Try.prog 6 [.i .i64 p, isv n f] [] (Orc.cal [] (.b true) [] (Orc.c (Orc.cal [] (.tup [.p0,
  .i .i64 2]) [] (oc 7 (Orc.f (Orc.f (Orc.c (Orc.t (Orc.c Orc.z))))))))) (.b true) [] [] 0 (fun Lf => Con Try.prog 13 [] [] (.b true) [] ∧ True ∧ Con Try.prog 8 [.i .i64 0, .i
  .i64 1, .i .i64 p] [] (.tup [.p0, .i .i64 2]) [] ∧ True ∧ (!decide (p < 1)) = false ∧ (!decide (p < 1)) = false ∧ decide (p < 1) = true ∧ Lf) := by unfold VD VQ; kernel_rfl
theorem t0b_vq (p : Int) (n : Nat) (f : Nat → Int) (h : decide (p < 1) = false) : VD Try.prog 6 [.i .i64 p, isv n f] [] (Orc.cal [] (.b true) [] (Orc.c (Orc.cal [] (.tup [.p0,
  .i .i64 2]) [] (oc 7 (Orc.t (Orc.t (Orc.c (Orc.f (Orc.c Orc.z))))))))) (.b (decide (3 < p))) [] [] 0 (fun Lf => Con Try.prog 13 [] [] (.b true) [] ∧ True ∧ Con Try.prog 8 [.i
  .i64 0, .i .i64 1, .i .i64 p] [] (.tup [.p0, .i .i64 2]) [] ∧ True ∧ (!decide (p < 1)) = true ∧ (!decide (p < 1)) = true ∧ decide (p < 1) = false ∧ Lf)
  := by unfold VD VQ; kernel_rfl
theorem t1_vq (x0 : Cl) (x1 : Cl) (m1 : Mg) (p : Int) (n : Nat) (f : Nat → Int) (x2 : Cl) (to : Int) : VD Try.prog 6 [.i .i64 p, isv n f] [] (Orc.cal [] (.b true) [] (Orc.c
  (Orc.cal [] (.tup [.p 0 0, .i .i64 0]) [.set (clO x0)] (oc 4 (Orc.cal [0] (.tup [mg1 m1, .i .i64 0]) [.set (clO x1)] (Orc.lop [0] [0, 4, 5, 7, 8, 9, 10, 11, 46, 47, 48] 1
  (XO.exit 0) [(5, .p 0 0), (7, mg1 m1), (8, .i .i64 0), (11, .i .i64 to)] [some (clO x2)] (oc 6 (Orc.cal [0] (.i .i64 to) [.keep] (oc 3 Orc.z))))))))) (.b (decide (to = to)))
  [] [] 1 (fun Lf => Con Try.prog 13 [] [] (.b true) [] ∧ True ∧ Con Try.prog 8 [.i .i64 0, .i .i64 1, .i .i64 p] [] (.tup [.p 0 0, .i .i64 0]) [.set (clO x0)] ∧ True ∧ Con
  Try.prog 9 [.p 0 0, .i .i64 0, .agg [.i .i64 1, .i .i64 0, .i .i64 0, .i .i64 0, .i .i64 0, .i .i64 0, .i .i64 0, .i .i64 0, .l0, .i .i64 0]] [some (clO x0)] (.tup [mg1 m1,
  .i .i64 0]) [.set (clO x1)] ∧ LDoes Try.prog (loopAt Try.prog 6 0) 122 1 (mkT [(0, .i .i64 p), (4, .b false), (5, .p 0 0), (7, mg1 m1), (8, .i .i64 0), (9, .i .i64 0), (10,
  .i .i64 0), (11, .i .i64 0), (46, isv n f), (47, .i .i64 (Int.ofNat n)), (48, .i .i64 0)]) [some (clO x1)] (XO.exit 0) (mkT [(5, .p 0 0), (7, mg1 m1), (8, .i .i64 0), (11, .i
  .i64 to)]) [some (clO x2)] ∧ Con Try.prog 14 [.p 0 0] [some (clO x2)] (.i .i64 to) [.keep] ∧ Lf) := by unfold VD VQ; kernel_rfl
theorem fE_ok {t : Int} (h1 : 0 ≤ t) (h2 : t ≤ 4503599627370496) : fE t = 0 := by
  unfold fE wi
  rw [decide_eq_true h1, decide_eq_true h2]; rfl
theorem sce_con (c : Cm) (h : c.mn ≤ 1152921504606846976) : Con Try.prog 22 [cmV c, cmV c] [] (.b true) [] := by
  have := rscm_con c.k c.sv c.bt c.sq c.gn c.lk c.md c.ot c.d c.mn h c.mf c
  rw [eqN_self] at this
  simpa [cmV, cmL] using this
structure Tu where
  x : Cl
  now : Int
  sent : Int
def tuN (g : Int) (d : Tu) : Tu := bif decide (6 ≤ (d.now + gp g) - d.sent) then ⟨tdS d.x (d.now + gp g), d.now + gp g, d.now + gp g⟩ else ⟨d.x, d.now + gp g, d.sent⟩
def tuA (d0 : Tu) (f : Nat → Int) : Nat → Tu
  | 0 => d0
  | i + 1 => tuN (f i) (tuA d0 f i)
structure TuI (p : Int) (k : Cm) (i : Nat) (d : Tu) : Prop where
  o : d.x.o = true
  c : d.x.c = k
  l : d.x.l = d.sent
  pp : d.x.p = p
  q0 : 0 ≤ d.x.q
  q1 : d.x.q < p
  s0 : 0 ≤ d.sent
  s1 : d.sent ≤ d.now
  s2 : d.now ≤ Int.ofNat i * 1073741824
theorem nq_mod {x : Cl} (h0 : 0 ≤ x.q) (h1 : x.q < x.p) (h3 : x.p ≤ 3) : nqI x = Int.tmod (x.q + 1) x.p := by
  unfold nqI
  obtain ⟨s, b, p, q, n, o, c, f, l⟩ := x
  simp only at *
  have e1 : p = 1 ∨ p = 2 ∨ p = 3 := by omega
  have e2 : q = 0 ∨ q = 1 ∨ q = 2 := by omega
  rcases e1 with rfl | rfl | rfl <;> rcases e2 with rfl | rfl | rfl <;> first | rfl | omega
theorem nq_b {x : Cl} (h0 : 0 ≤ x.q) (h1 : x.q < x.p) : 0 ≤ nqI x ∧ nqI x < x.p := by
  unfold nqI
  by_cases h : x.q + 1 < x.p
  · rw [decide_eq_true h, cond_true]; omega
  · rw [decide_eq_false h, cond_false]; omega
theorem TuI.step {p : Int} {k : Cm} {i : Nat} {d : Tu} (h : TuI p k i d) (g : Int) : TuI p k (i + 1) (tuN g d) := by
  have hg := gp_b g
  have e : Int.ofNat (i + 1) * 1073741824 = Int.ofNat i * 1073741824 + 1073741824 := by simp [Int.add_mul]
  have s2 := h.s2
  have s1 := h.s1
  have s0 := h.s0
  unfold tuN
  cases hd : decide (6 ≤ (d.now + gp g) - d.sent) with
  | true =>
    rw [cond_true]
    have nb := nq_b h.q0 (by rw [h.pp]; exact h.q1)
    exact ⟨h.o, h.c, rfl, h.pp, nb.1, (by rw [← h.pp]; exact nb.2), (by show 0 ≤ d.now + gp g; omega), Int.le_refl _, (by show d.now + gp g ≤ _; omega)⟩
  | false =>
    rw [cond_false]
    exact ⟨h.o, h.c, h.l, h.pp, h.q0, h.q1, h.s0, (by show d.sent ≤ d.now + gp g; omega), (by show d.now + gp g ≤ _; omega)⟩
theorem tuA_I {p : Int} {k : Cm} {d0 : Tu} (h : TuI p k 0 d0) (f : Nat → Int) : ∀ i, TuI p k i (tuA d0 f i)
  | 0 => h
  | i + 1 => (tuA_I h f i).step (f i)
theorem tu_lp (p : Int) (hp : p ≤ 3) (m1 : Mg) (hm : m1.c.mn ≤ 17592186044416) (hs : m1.c.sv = 0) (d0 : Tu) (h : TuI p m1.c 0 d0) (n : Nat) (hn : n ≤ 1152921504606846976) (f : Nat → Int) :
    LDoes Try.prog (loopAt Try.prog 6 0) 122 1 (mkT (tuT m1 p n f d0.now d0.sent d0.x.q 0)) [some (clO d0.x)] (.exit 0) (mkT [(5, .p 0 0), (7, mg1 m1), (8, .i .i64 0), (11, .i .i64 (tuA d0 f (min n 201)).x.q)]) [some (clO (tuA d0 f (min n 201)).x)] := by
  refine loop_q (fun i : Nat => (tuT m1 p n f (tuA d0 f i).now (tuA d0 f i).sent (tuA d0 f i).x.q (Int.ofNat i), [some (clO (tuA d0 f i).x)])) (fun i => n - i) (fun i => i ≤ min n 201) (fun _ => Nat.le_refl _) ?_ 0 (Nat.zero_le _)
  intro i hi
  have I := tuA_I h f i
  by_cases hlt : i < n
  · have h0 : decide (Int.ofNat i < Int.ofNat n) = true := decide_eq_true (by simp; omega)
    have bi : (0 : Int) ≤ Int.ofNat i ∧ Int.ofNat i < (↑n : Int) := ⟨by simp, by simp; omega⟩
    by_cases hb : 200 < i
    · have h1 : decide ((200 : Int) < Int.ofNat i) = true := decide_eq_true (by simp; omega)
      have e : min n 201 = i := by omega
      rw [e]
      exact rd_out (tB_lq _ m1 p n f _ _ _ i h0 h1) ⟨h0, bi, trivial, h1, rfl⟩ rfl rfl (.refl _) (.refl _)
    · have h1 : decide ((200 : Int) < Int.ofNat i) = false := decide_eq_false (by simp; omega)
      have ri : rg (Int.ofNat i + 1) := ⟨by simp <;> omega, by simp <;> omega⟩
      have mu : n - (i + 1) < n - i := by omega
      have hi' : i + 1 ≤ min n 201 := by omega
      have e : tuA d0 f (i + 1) = tuN (f i) (tuA d0 f i) := rfl
      generalize hd : tuA d0 f i = d at I e
      have hg := gp_b (f i)
      obtain ⟨io, ic, il, ip, iq0, iq1, is0, is1, is2⟩ := I
      have is2' : d.now ≤ 200 * 1073741824 := by have : Int.ofNat i ≤ 200 := by simp; omega
                                                 omega
      have rt : (-9223372036854775808 : Int) ≤ d.now + gp (f i) ∧ d.now + gp (f i) ≤ 9223372036854775807 := ⟨by omega, by omega⟩
      have rs : rg ((d.now + gp (f i)) - d.sent) := ⟨by omega, by omega⟩
      have rl : rg (d.x.l + 6) := ⟨by omega, by omega⟩
      have f0 : fE (d.now + gp (f i)) = 0 := fE_ok (by omega) (by omega)
      cases h2 : decide (6 ≤ (d.now + gp (f i)) - d.sent) with
      | false =>
        have hq := of_decide_eq_false h2
        have tb : tdB d.x (d.now + gp (f i)) = false := by
          unfold tdB
          rw [decide_eq_true f0, io, show decide (d.now + gp (f i) < d.x.l + 6) = true from decide_eq_true (by omega)]; rfl
        have td := tdN_con d.x (d.now + gp (f i)) tb rl
        rw [f0] at td
        have h3 : (decide (6 ≤ (d.now + gp (f i)) - d.sent) == false) = true := by rw [h2]; rfl
        have e2 : tuA d0 f (i + 1) = ⟨d.x, d.now + gp (f i), d.sent⟩ := by rw [e]; unfold tuN; rw [h2]; rfl
        refine rd_nrm (t2_lq d.x m1 p n f d.now d.sent d.x.q i h0 h1 h2 h3) (by repeat' first | exact trivial | assumption | exact nT h3 | exact nnT h3 | exact rfl | apply And.intro) (i + 1) hi' mu (by subst hd; rfl) ?_ ?_ <;> rw [e2]
        · exact .refl _
        · exact .refl _
      | true =>
        have hq := of_decide_eq_true h2
        have tb : tdB d.x (d.now + gp (f i)) = true := by
          unfold tdB
          rw [decide_eq_true f0, io, show decide (d.now + gp (f i) < d.x.l + 6) = false from decide_eq_false (by omega)]; rfl
        have td := tdY_con d.x (d.now + gp (f i)) tb rl ⟨by omega, by omega⟩ (by rw [ic, hs]; exact ⟨by decide, by decide⟩) (by rw [ic]; exact hm)
        have h3 : (decide (6 ≤ (d.now + gp (f i)) - d.sent) == true) = true := by rw [h2]; rfl
        have nm := nq_mod iq0 (by rw [ip]; exact iq1) (by rw [ip]; exact hp)
        rw [ip] at nm
        have h4 : decide ((rqM (tdS d.x (d.now + gp (f i)))).to = Int.tmod (d.x.q + 1) p) = true := decide_eq_true nm
        have e2 : tuA d0 f (i + 1) = ⟨tdS d.x (d.now + gp (f i)), d.now + gp (f i), d.now + gp (f i)⟩ := by rw [e]; unfold tuN; rw [h2]; rfl
        have sc := sce_con m1.c (Nat.le_trans hm (by decide))
        have hc : (rqM (tdS d.x (d.now + gp (f i)))).c = m1.c := ic
        have rq : rg (d.x.q + 1) := ⟨by omega, by omega⟩
        have pn : p ≠ 0 := by omega
        have b0 : (0 : Int) ≤ (0 : Int) ∧ (0 : Int) < (1 : Int) := ⟨by decide, by decide⟩
        refine rd_nrm (t3_lq d.x m1 p n f d.now d.sent d.x.q (rqM (tdS d.x (d.now + gp (f i)))) (tdS d.x (d.now + gp (f i))) i h0 h1 h2 h3 h4) ?_ (i + 1) hi' mu (by subst hd; rfl) ?_ ?_
        · rw [hc]
          repeat' first | exact trivial | assumption | exact nT h3 | exact nnT h3 | exact nT h4 | exact nnT h4 | exact rfl | apply And.intro
        · rw [e2]
          show TVL (tuT m1 p n f _ _ (Int.tmod (d.x.q + 1) p) _) (tuT m1 p n f _ _ (nqI d.x) _)
          rw [nm]
          exact .refl _
        · rw [e2]; exact .refl _
  · have e : min n 201 = i := by omega
    rw [e]
    have h0 : decide (Int.ofNat i < Int.ofNat n) = false := decide_eq_false (by simp; omega)
    exact rd_out (tE_lq _ m1 p n f _ _ _ i h0) ⟨h0, rfl⟩ rfl rfl (.refl _) (.refl _)
def mt0 : Cm := ⟨1, 0, 0, 0, 0, 0, 0, 0, 0, fun _ => 0, 0⟩
theorem law6_con (p : Int) (n : Nat) (hn : n ≤ 1152921504606846976) (f : Nat → Int) : Con Try.prog 6 [.i .i64 p, isv n f] [] (.b true) [] := by
  cases hb : nwB 0 1 p with
  | false =>
    have nw := new0_con 0 1 p hb
    cases h1 : decide (p < 1) with
    | true => exact con_d (t0a_vq p n f h1) (by repeat' first | exact trivial | exact awake_con | assumption | exact nT h1 | exact nnT h1 | exact rfl | apply And.intro)
    | false =>
      have h2 : decide ((3 : Int) < p) = true := decide_eq_true (by
        have h1 := of_decide_eq_false h1
        have : ¬ (1 ≤ p ∧ p ≤ 3) := fun q => by
          have : nwB 0 1 p = true := by unfold nwB wi; rw [decide_eq_true q.1, decide_eq_true q.2]; rfl
          rw [this] at hb; cases hb
        omega)
      have := con_d (t0b_vq p n f h1) (by repeat' first | exact trivial | exact awake_con | assumption | exact nF h1 | exact nnF h1 | exact rfl | apply And.intro)
      rw [h2] at this
      exact this
  | true =>
    have nw := new1_con 0 1 p hb
    have hp : 1 ≤ p ∧ p ≤ 3 := by
      unfold nwB at hb
      simp only [Bool.and_eq_true] at hb
      have := hb.2.2
      unfold wi at this
      simpa using this
    have hk : decide (akE (cl0 0 1 p) 0 mt0 = 0) = true := by
      have v : maB (akC (cl0 0 1 p) mt0) = true := by kernel_rfl
      unfold akE
      rw [v, show fE 0 = 0 from rfl]; rfl
    have ak := (akY_con (cl0 0 1 p) 0 mt0 hk (show rg ((0 : Int) + 1) from ⟨by decide, by decide⟩) (show rg ((8 : Int) + 0) from ⟨by decide, by decide⟩) (show (0 : Nat) ≤ 17592186044416 by decide)).pre (pargs' := [.p 0 0, .i .i64 0, .agg [.i .i64 1, .i .i64 0, .i .i64 0, .i .i64 0, .i .i64 0, .i .i64 0, .i .i64 0, .i .i64 0, .l0, .i .i64 0]]) ⟨.refl _, .refl _, .agg ⟨.refl _, .refl _, .refl _, .refl _, .refl _, .refl _, .refl _, .refl _, .nil _ _, .refl _, trivial⟩, trivial⟩
    have lp := tu_lp p hp.2 (rqM (akS (cl0 0 1 p) 0 mt0)) (show (0 : Nat) ≤ 17592186044416 by decide) rfl ⟨akS (cl0 0 1 p) 0 mt0, 0, 0⟩ ⟨rfl, rfl, rfl, rfl, Int.le_refl 0, (by show (0 : Int) < p; omega), Int.le_refl 0, Int.le_refl 0, (show (0 : Int) ≤ Int.ofNat 0 * 1073741824 by decide)⟩ n hn f
    have := con_d (t1_vq (cl0 0 1 p) (akS (cl0 0 1 p) 0 mt0) (rqM (akS (cl0 0 1 p) 0 mt0)) p n f _ _) (by repeat' first | exact trivial | exact awake_con | exact nw | exact ak | exact lp | exact pe_con _ | exact rfl | apply And.intro)
    rwa [decide_eq_true rfl] at this
end Go.Proofs.Ck
