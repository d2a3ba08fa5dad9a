/- Runs over unknown values, told by the kernel: part GC. -/
import Derived.Test.YtgggnjjhfkijfaaGB
set_option linter.unusedSimpArgs false
set_option linter.unusedVariables false
set_option maxRecDepth 20000
namespace Go.Proofs.Ck
open Go Go.Sim Go.Proofs Go.Proofs.Lk Go.Proofs.Sv Go.Proofs.Ytgggnjjhfkijfaa
theorem nq_b {x : Cl} (h0 : 0 ≤ x.q) (h1 : x.q < x.p) : 0 ≤ nqI x ∧ nqI x < x.p := by
  unfold nqI
  by_cases h : x.q + 1 < x.p
  · rw [decide_eq_true h, cond_true]; omega
  · rw [decide_eq_false h, cond_false]; omega
noncomputable def mgW (m : Mg) (a : AV) : List AV := [.i .i64 m.k, .i .i64 m.fr, .i .i64 m.to, .i .i64 m.bl, .i .i64 m.sl, .i .i64 m.ab, .s m.av, .s m.st,
  .i .i64 m.c.k, .i .i64 m.c.sv, .i .i64 m.c.bt, .i .i64 m.c.sq, .i .i64 m.c.gn, .i .i64 m.c.lk, .i .i64 m.c.md, .i .i64 m.c.ot, a, .i .i64 m.c.d,
  .i .i64 (m.v.x 6), .i .i64 (m.v.x 7), .i .i64 (m.v.x 8), isv m.v.mn m.v.mf, isv m.v.sn m.v.sf, svN m.v.hn m.v.hA m.v.hM m.v.hW, svN m.v.dn m.v.dA m.v.dM m.v.dW]
def cpP (m : Mg) : Prop := frzP 2 (.rows 1 m.c.mn fun i _ => .i .i64 (m.c.mf i)) (.agg (mgW m (.lr 2 1 0 m.c.mn false))) ∧ True
theorem cp0_fq (m : Mg) : VF Try.prog 17 [mgV m] [] (Orc.lop [0, 1] [1, 2, 3, 4] 2 (XO.exit 0) [(1, .p 0 0), (2, .p 1 0), (3, .lr 2 1 0 (Cm.mn (Mg.c m)) false)] [some (mgO m),
  some mgZ, some (AObj.rows 3 1 (Cm.mn (Mg.c m)) fun i x => CV.i .i64 (Cm.mf (Mg.c m) i))] (Orc.cal [] (.agg [.i .i64 (Mb.x (Mg.v m) 6), .i .i64 (Mb.x (Mg.v m) 7), .i .i64
  (Mb.x (Mg.v m) 8), isv (Mb.mn (Mg.v m)) (Mb.mf (Mg.v m)), isv (Mb.sn (Mg.v m)) (Mb.sf (Mg.v m)), svN (Mb.hn (Mg.v m)) (Mb.hA (Mg.v m)) (Mb.hM (Mg.v m)) (Mb.hW (Mg.v m)), svN
  (Mb.dn (Mg.v m)) (Mb.dA (Mg.v m)) (Mb.dM (Mg.v m)) (Mb.dW (Mg.v m))]) [] Orc.z)) (.agg (mgW m (.sv 1 m.c.mn (shiftF 0 fun i _ => .i .i64 (m.c.mf i))))) [] [2] [] (cpP m) 3
  (fun Lf => LDoes Try.prog (loopAt Try.prog 17 0) 30 2 (mkT [(1, .p 0 0), (2, .p 1 0), (3, .l0), (4, .i .i64 0)]) [some (mgO m), some mgZ] (XO.exit 0) (mkT [(1, .p 0 0), (2,
  .p 1 0), (3, .lr 2 1 0 (Cm.mn (Mg.c m)) false)]) [some (mgO m), some mgZ, some (AObj.rows 3 1 (Cm.mn (Mg.c m)) fun i x => CV.i .i64 (Cm.mf (Mg.c m) i))] ∧ True ∧ True ∧ True
  ∧ Con Try.prog 38 [.agg [.i .i64 (Mb.x (Mg.v m) 6), .i .i64 (Mb.x (Mg.v m) 7), .i .i64 (Mb.x (Mg.v m) 8), isv (Mb.mn (Mg.v m)) (Mb.mf (Mg.v m)), isv (Mb.sn (Mg.v m)) (Mb.sf
  (Mg.v m)), svN (Mb.hn (Mg.v m)) (Mb.hA (Mg.v m)) (Mb.hM (Mg.v m)) (Mb.hW (Mg.v m)), svN (Mb.dn (Mg.v m)) (Mb.dA (Mg.v m)) (Mb.dM (Mg.v m)) (Mb.dW (Mg.v m))]] [] (.agg [.i
  .i64 (Mb.x (Mg.v m) 6), .i .i64 (Mb.x (Mg.v m) 7), .i .i64 (Mb.x (Mg.v m) 8), isv (Mb.mn (Mg.v m)) (Mb.mf (Mg.v m)), isv (Mb.sn (Mg.v m)) (Mb.sf (Mg.v m)), svN (Mb.hn (Mg.v
  m)) (Mb.hA (Mg.v m)) (Mb.hM (Mg.v m)) (Mb.hW (Mg.v m)), svN (Mb.dn (Mg.v m)) (Mb.dA (Mg.v m)) (Mb.dM (Mg.v m)) (Mb.dW (Mg.v m))]) [] ∧ True ∧ Lf) := by unfold VF; kernel_rfl
theorem cpR_lq (m : Mg) (F : Nat → Nat → CV) (k i : Nat) (h1 : decide (Int.ofNat i < Int.ofNat m.c.mn) = true) : LD Try.prog (loopAt Try.prog 17 0) 30 2 [(1, .p 0 0), (2, .p 1
  0), (3, .lr 2 1 0 k false), (4, .i .i64 (Int.ofNat i))] [some (mgO m), some mgZ, some (.rows 3 1 k F)] (Orc.t Orc.z) .nrm [0, 1, 4] [(1, .p 0 0), (2, .p 1 0), (3, .lr 2 1 0
  (addN k 1) false), (4, .i .i64 (Int.ofNat i + 1))] [some (mgO m), some mgZ, some (.rows 3 1 (addN k 1) (appZ k F (listF 1 [.i .i64 (m.c.mf i)] 1)))] 5 (fun Lf => True ∧ True
  ∧ decide (Int.ofNat i < Int.ofNat (Cm.mn (Mg.c m))) = true ∧ True ∧ True ∧ (0 ≤ Int.ofNat i ∧ Int.ofNat i < ↑(Cm.mn (Mg.c m))) ∧ True ∧ (0 + k ≤ k ∧ True ∧ k + 1 ≤
  140737488355328 ∧ (3 * (k + 1) + 1536) * 8 ≤ 562949953421312) ∧ rg (Int.ofNat i + 1) ∧ Lf) := by unfold LD LQ; kernel_rfl
theorem cpE_lq (m : Mg) (F : Nat → Nat → CV) (k i : Nat) (h1 : decide (Int.ofNat i < Int.ofNat m.c.mn) = false) : LD Try.prog (loopAt Try.prog 17 0) 30 2 [(1, .p 0 0), (2, .p 1
  0), (3, .lr 2 1 0 k false), (4, .i .i64 (Int.ofNat i))] [some (mgO m), some mgZ, some (.rows 3 1 k F)] (Orc.f Orc.z) (.exit 0) [0, 1, 2] [(1, .p 0 0), (2, .p 1 0), (3, .lr 2
  1 0 k false)] [some (mgO m), some mgZ, some (.rows 3 1 k F)] 3 (fun Lf => True ∧ True ∧ decide (Int.ofNat i < Int.ofNat (Cm.mn (Mg.c m))) = false ∧ Lf)
  := by unfold LD LQ; kernel_rfl
theorem cpP_ (m : Mg) : cpP m := by
  unfold cpP mgW
  refine ⟨?_, trivial⟩
  simp [frzP, frzsP, isv, svN]
theorem cp_lp (m : Mg) (hm : m.c.mn ≤ 17592186044416) : LDoes Try.prog (loopAt Try.prog 17 0) 30 2 (mkT [(1, .p 0 0), (2, .p 1 0), (3, .l0), (4, .i .i64 0)]) [some (mgO m), some mgZ] (.exit 0) (mkT [(1, .p 0 0), (2, .p 1 0), (3, .lr 2 1 0 m.c.mn false)]) [some (mgO m), some mgZ, some (.rows 3 1 m.c.mn fun i _ => .i .i64 (m.c.mf i))] := by
  have key := loop_q (P := Try.prog) (c := loopAt Try.prog 17 0) (n := 30) (b := 2) (x := .exit 0) (l' := [(1, .p 0 0), (2, .p 1 0), (3, .lr 2 1 0 m.c.mn false)]) (objs' := [some (mgO m), some mgZ, some (.rows 3 1 m.c.mn fun i _ => .i .i64 (m.c.mf i))]) (D := Nat)
    (fun i : Nat => ([(1, .p 0 0), (2, .p 1 0), (3, .lr 2 1 0 i false), (4, .i .i64 (Int.ofNat i))], [some (mgO m), some mgZ, some (.rows 3 1 i fun i _ => .i .i64 (m.c.mf i))])) (fun i => m.c.mn - i) (fun i => i ≤ m.c.mn) (fun _ => by simp) ?_ 0 (Nat.zero_le _)
  · refine key.weak ⟨rfl, .inl rfl, rfl, .inl rfl, rfl, .inr ⟨rfl, .inl ⟨2, 1, 0, false, rfl⟩⟩, rfl, .inl rfl, trivial⟩ ?_
    refine ⟨.refl _, .refl _, ?_⟩
    intro o ho
    simp at ho; subst ho
    exact ⟨_, rfl, rfl⟩
  intro i hi
  by_cases e : i = m.c.mn
  · have h1 : decide (Int.ofNat i < Int.ofNat m.c.mn) = false := by simp; omega
    have := rd_out (I := fun i : Nat => ([(1, .p 0 0), (2, .p 1 0), (3, .lr 2 1 0 i false), (4, .i .i64 (Int.ofNat i))], [some (mgO m), some mgZ, some (.rows 3 1 i fun i _ => .i .i64 (m.c.mf i))])) (μ := fun i => m.c.mn - i) (inv := fun i => i ≤ m.c.mn) (d := i) (l' := [(1, .p 0 0), (2, .p 1 0), (3, .lr 2 1 0 m.c.mn false)]) (objs' := [some (mgO m), some mgZ, some (.rows 3 1 m.c.mn fun i _ => .i .i64 (m.c.mf i))]) (cpE_lq m (fun i _ => .i .i64 (m.c.mf i)) i i h1) (by repeat' first | exact trivial | exact h1 | exact rfl | apply And.intro) rfl rfl (by rw [← e]; exact .refl _) (by rw [← e]; exact .refl _)
    exact this
  · have hl : i < m.c.mn := by omega
    have h1 : decide (Int.ofNat i < Int.ofNat m.c.mn) = true := by simp; omega
    have bi : (0 : Int) ≤ Int.ofNat i ∧ Int.ofNat i < (↑(m.c.mn) : Int) := ⟨by simp, by simp; omega⟩
    have ri : rg (Int.ofNat i + 1) := ⟨by simp <;> omega, by simp <;> omega⟩
    have b1 : 0 + i ≤ i := by omega
    have b2 : i + 1 ≤ 140737488355328 := by omega
    have b3 : (3 * (i + 1) + 1536) * 8 ≤ 562949953421312 := by omega
    refine rd_nrm (cpR_lq m (fun i _ => .i .i64 (m.c.mf i)) i i h1) (by repeat' first | exact trivial | exact h1 | exact bi | exact ri | exact b1 | exact b2 | exact b3 | exact rfl | apply And.intro) (i + 1) hl (by show m.c.mn - (i + 1) < m.c.mn - i; omega) rfl ?_ ?_
    · rw [addN_eq]; exact .refl _
    · refine ⟨.refl _, .refl _, ?_, trivial⟩
      rw [addN_eq]
      refine OV.rowsW fun j c hj hc => CW.of ?_
      obtain rfl : c = 0 := by omega
      rw [appZ_i (k := .i64) (a := m.c.mf j) (b := m.c.mf i) rfl rfl]
      by_cases d : j < i
      · rw [if_pos d]
      · obtain rfl : j = i := by omega
        rw [if_neg d]
theorem mcp_con (m : Mg) (hm : m.c.mn ≤ 17592186044416) (hv : m.v.mn ≤ 17592186044416 ∧ m.v.sn ≤ 17592186044416 ∧ m.v.hn ≤ 5864062014805 ∧ m.v.dn ≤ 5864062014805) : Con Try.prog 17 [mgV m] [] (mgV m) [] := by
  refine Con.post (con_f (cp0_fq m) (cpP_ m) (by repeat' first | exact trivial | exact cp_lp m hm | exact c52_con m.v hv | exact rfl | apply And.intro)) (.agg ?_) trivial
  refine ⟨.refl _, .refl _, .refl _, .refl _, .refl _, .refl _, .refl _, .refl _, .refl _, .refl _, .refl _, .refl _, .refl _, .refl _, .refl _, .refl _, VW.sv fun i j hi hj => ?_, .refl _, .refl _, .refl _, .refl _, .refl _, .refl _, .refl _, .refl _, trivial⟩
  rw [shiftF_eq, Nat.zero_add]
noncomputable abbrev onT (s b : Int) (O : Nat → Opx) (n : Nat) (la fi : Int) (op : Bool) (i : Int) : List (Nat × AV) := [(0, .i .i64 s), (1, .i .i64 b), (6, .b false), (7, .p 0 0), (9, .i .i64 la), (10, .i .i64 fi), (11, .b op), (47, .sv 27 n (oxF O)), (48, .i .i64 (Int.ofNat n)), (49, .i .i64 i)]
theorem a1_lq (x : Cl) (s : Int) (b : Int) (n : Nat) (O : Nat → Opx) (fi : Int) (e : Int) (c2 : Cm) (q : Int) (i : Nat) (h0 : decide (Int.ofNat i < Int.ofNat n) = true) (h1 :
  decide (300 < Int.ofNat i) = false) (k1 : decide ((O i).k = 1) = true) (he : decide (e = 0) = true) (ho : x.o = true) (hs : decide (c2.sq = x.n) = true) (q1 : decide (q < 0)
  = false) (q2 : decide (2 < q) = false) : LD Try.prog (loopAt Try.prog 5 0) 249 1 [(0, .i .i64 s), (1, .i .i64 b), (6, .b false), (7, .p 0 0), (9, .i .i64 x.n), (10, .i .i64
  fi), (11, .b x.o), (47, .sv 27 n (oxF O)), (48, .i .i64 (Int.ofNat n)), (49, .i .i64 (Int.ofNat i))] [some (clO x)] (Orc.t (Orc.f (Orc.t (Orc.cal [0] (.tup [.l0, .i .i64 e])
  [.keep] (Orc.t (Orc.t (Orc.t (Orc.t (oc 10 (Orc.cal [0] (.tup [.agg [.i .i64 (Cm.k c2), .i .i64 (Cm.sv c2), .i .i64 (Cm.bt c2), .i .i64 (Cm.sq c2), .i .i64 (Cm.gn c2), .i
  .i64 (Cm.lk c2), .i .i64 (Cm.md c2), .i .i64 (Cm.ot c2), isv (Cm.mn c2) (Cm.mf c2), .i .i64 (Cm.d c2)], .b (Cl.o x)]) [.keep] (Orc.t (Orc.t (Orc.t (Orc.t (Orc.t (Orc.t (Orc.t
  (Orc.t (Orc.f (Orc.t (Orc.t (Orc.cal [0] (.i .i64 q) [.keep] (Orc.t (Orc.f (Orc.t (Orc.t (Orc.cal [0] (.i .i64 q) [.keep] (Orc.t (Orc.f (Orc.f
  Orc.z)))))))))))))))))))))))))))))) .nrm [0] [(0, .i .i64 s), (1, .i .i64 b), (6, .b false), (7, .p 0 0), (9, .i .i64 x.n), (10, .i .i64 fi), (11, .b x.o), (47, .sv 27 n (oxF
  O)), (48, .i .i64 (Int.ofNat n)), (49, .i .i64 (Int.ofNat i + 1))] [some (clO x)] 3 (fun Lf => decide (Int.ofNat i < Int.ofNat n) = true ∧ (0 ≤ Int.ofNat i ∧ Int.ofNat i <
  ↑n) ∧ True ∧ decide (300 < Int.ofNat i) = false ∧ True ∧ decide (Opx.k (O i) = 1) = true ∧ True ∧ Con Try.prog 10 [.p 0 0, .i .i64 (Opx.t (O i))] [some (clO x)] (.tup [.l0,
  .i .i64 e]) [.keep] ∧ decide (e = 0) = true ∧ decide (e = 0) = true ∧ decide (e = 0) = true ∧ decide (e = 0) = true ∧ Con Try.prog 12 [.p 0 0] [some (clO x)] (.tup [.agg [.i
  .i64 (Cm.k c2), .i .i64 (Cm.sv c2), .i .i64 (Cm.bt c2), .i .i64 (Cm.sq c2), .i .i64 (Cm.gn c2), .i .i64 (Cm.lk c2), .i .i64 (Cm.md c2), .i .i64 (Cm.ot c2), isv (Cm.mn c2)
  (Cm.mf c2), .i .i64 (Cm.d c2)], .b (Cl.o x)]) [.keep] ∧ True ∧ (!!Cl.o x == Cl.o x) = true ∧ (!!Cl.o x == Cl.o x) = true ∧ Cl.o x = true ∧ True ∧ Cl.o x = true ∧ Cl.o x =
  true ∧ Cl.o x = true ∧ (!!Cl.o x == Cl.o x) = true ∧ Cl.o x = true ∧ (!Cl.o x == Cl.o x) = false ∧ (!!decide (Cm.sq c2 = Cl.n x)) = true ∧ (!!decide (Cm.sq c2 = Cl.n x)) =
  true ∧ Con Try.prog 14 [.p 0 0] [some (clO x)] (.i .i64 q) [.keep] ∧ (!!decide (Cm.sq c2 = Cl.n x)) = true ∧ (!decide (Cm.sq c2 = Cl.n x)) = false ∧ (!decide (q < 0)) = true
  ∧ (!decide (q < 0)) = true ∧ Con Try.prog 14 [.p 0 0] [some (clO x)] (.i .i64 q) [.keep] ∧ (!decide (q < 0)) = true ∧ decide (q < 0) = false ∧ decide (2 < q) = false ∧ rg
  (Int.ofNat i + 1) ∧ Lf) := by unfold LD LQ; kernel_rfl
theorem a2_lq (x : Cl) (s : Int) (b : Int) (n : Nat) (O : Nat → Opx) (fi : Int) (e : Int) (c2 : Cm) (q : Int) (i : Nat) (h0 : decide (Int.ofNat i < Int.ofNat n) = true) (h1 :
  decide (300 < Int.ofNat i) = false) (k1 : decide ((O i).k = 1) = true) (he : decide (e = 0) = true) (ho : x.o = false) (q1 : decide (q < 0) = false) (q2 : decide (2 < q) =
  false) : LD Try.prog (loopAt Try.prog 5 0) 249 1 [(0, .i .i64 s), (1, .i .i64 b), (6, .b false), (7, .p 0 0), (9, .i .i64 x.n), (10, .i .i64 fi), (11, .b x.o), (47, .sv 27 n
  (oxF O)), (48, .i .i64 (Int.ofNat n)), (49, .i .i64 (Int.ofNat i))] [some (clO x)] (Orc.t (Orc.f (Orc.t (Orc.cal [0] (.tup [.l0, .i .i64 e]) [.keep] (Orc.t (Orc.t (Orc.t
  (Orc.t (oc 10 (Orc.cal [0] (.tup [.agg [.i .i64 (Cm.k c2), .i .i64 (Cm.sv c2), .i .i64 (Cm.bt c2), .i .i64 (Cm.sq c2), .i .i64 (Cm.gn c2), .i .i64 (Cm.lk c2), .i .i64 (Cm.md
  c2), .i .i64 (Cm.ot c2), isv (Cm.mn c2) (Cm.mf c2), .i .i64 (Cm.d c2)], .b (Cl.o x)]) [.keep] (Orc.t (Orc.t (Orc.f (Orc.f (Orc.f (Orc.f (Orc.t (Orc.f (Orc.f (oc 2 (Orc.cal
  [0] (.i .i64 q) [.keep] (oc 2 (Orc.t (Orc.t (Orc.cal [0] (.i .i64 q) [.keep] (Orc.t (Orc.f (Orc.f Orc.z)))))))))))))))))))))))))))) .nrm [0] [(0, .i .i64 s), (1, .i .i64 b),
  (6, .b false), (7, .p 0 0), (9, .i .i64 x.n), (10, .i .i64 fi), (11, .b x.o), (47, .sv 27 n (oxF O)), (48, .i .i64 (Int.ofNat n)), (49, .i .i64 (Int.ofNat i + 1))] [some (clO
  x)] 3 (fun Lf => decide (Int.ofNat i < Int.ofNat n) = true ∧ (0 ≤ Int.ofNat i ∧ Int.ofNat i < ↑n) ∧ True ∧ decide (300 < Int.ofNat i) = false ∧ True ∧ decide (Opx.k (O i) =
  1) = true ∧ True ∧ Con Try.prog 10 [.p 0 0, .i .i64 (Opx.t (O i))] [some (clO x)] (.tup [.l0, .i .i64 e]) [.keep] ∧ decide (e = 0) = true ∧ decide (e = 0) = true ∧ decide (e
  = 0) = true ∧ decide (e = 0) = true ∧ Con Try.prog 12 [.p 0 0] [some (clO x)] (.tup [.agg [.i .i64 (Cm.k c2), .i .i64 (Cm.sv c2), .i .i64 (Cm.bt c2), .i .i64 (Cm.sq c2), .i
  .i64 (Cm.gn c2), .i .i64 (Cm.lk c2), .i .i64 (Cm.md c2), .i .i64 (Cm.ot c2), isv (Cm.mn c2) (Cm.mf c2), .i .i64 (Cm.d c2)], .b (Cl.o x)]) [.keep] ∧ True ∧ (!!Cl.o x == Cl.o
  x) = true ∧ (!!Cl.o x == Cl.o x) = true ∧ Cl.o x = false ∧ Cl.o x = false ∧ Cl.o x = false ∧ Cl.o x = false ∧ (!!Cl.o x == Cl.o x) = true ∧ Cl.o x = false ∧ (!Cl.o x == Cl.o
  x) = false ∧ Con Try.prog 14 [.p 0 0] [some (clO x)] (.i .i64 q) [.keep] ∧ (!decide (q < 0)) = true ∧ (!decide (q < 0)) = true ∧ Con Try.prog 14 [.p 0 0] [some (clO x)] (.i
  .i64 q) [.keep] ∧ (!decide (q < 0)) = true ∧ decide (q < 0) = false ∧ decide (2 < q) = false ∧ rg (Int.ofNat i + 1) ∧ Lf) := by unfold LD LQ; kernel_rfl
theorem a3_lq (x : Cl) (s : Int) (b : Int) (n : Nat) (O : Nat → Opx) (fi : Int) (e : Int) (c2 : Cm) (q : Int) (i : Nat) (h0 : decide (Int.ofNat i < Int.ofNat n) = true) (h1 :
  decide (300 < Int.ofNat i) = false) (k1 : decide ((O i).k = 1) = true) (he : decide (e = 0) = false) (ho : x.o = true) (hs : decide (c2.sq = x.n) = true) (q1 : decide (q < 0)
  = false) (q2 : decide (2 < q) = false) : LD Try.prog (loopAt Try.prog 5 0) 249 1 [(0, .i .i64 s), (1, .i .i64 b), (6, .b false), (7, .p 0 0), (9, .i .i64 x.n), (10, .i .i64
  fi), (11, .b x.o), (47, .sv 27 n (oxF O)), (48, .i .i64 (Int.ofNat n)), (49, .i .i64 (Int.ofNat i))] [some (clO x)] (Orc.t (Orc.f (Orc.t (Orc.cal [0] (.tup [.l0, .i .i64 e])
  [.keep] (Orc.f (Orc.f (Orc.f (Orc.f (oc 10 (Orc.cal [0] (.tup [.agg [.i .i64 (Cm.k c2), .i .i64 (Cm.sv c2), .i .i64 (Cm.bt c2), .i .i64 (Cm.sq c2), .i .i64 (Cm.gn c2), .i
  .i64 (Cm.lk c2), .i .i64 (Cm.md c2), .i .i64 (Cm.ot c2), isv (Cm.mn c2) (Cm.mf c2), .i .i64 (Cm.d c2)], .b (Cl.o x)]) [.keep] (Orc.t (Orc.t (Orc.t (Orc.t (Orc.t (Orc.t (Orc.t
  (Orc.t (Orc.f (Orc.t (Orc.t (Orc.cal [0] (.i .i64 q) [.keep] (Orc.t (Orc.f (Orc.t (Orc.t (Orc.cal [0] (.i .i64 q) [.keep] (Orc.t (Orc.f (Orc.f
  Orc.z)))))))))))))))))))))))))))))) .nrm [0] [(0, .i .i64 s), (1, .i .i64 b), (6, .b false), (7, .p 0 0), (9, .i .i64 x.n), (10, .i .i64 fi), (11, .b x.o), (47, .sv 27 n (oxF
  O)), (48, .i .i64 (Int.ofNat n)), (49, .i .i64 (Int.ofNat i + 1))] [some (clO x)] 3 (fun Lf => decide (Int.ofNat i < Int.ofNat n) = true ∧ (0 ≤ Int.ofNat i ∧ Int.ofNat i <
  ↑n) ∧ True ∧ decide (300 < Int.ofNat i) = false ∧ True ∧ decide (Opx.k (O i) = 1) = true ∧ True ∧ Con Try.prog 10 [.p 0 0, .i .i64 (Opx.t (O i))] [some (clO x)] (.tup [.l0,
  .i .i64 e]) [.keep] ∧ decide (e = 0) = false ∧ decide (e = 0) = false ∧ decide (e = 0) = false ∧ decide (e = 0) = false ∧ Con Try.prog 12 [.p 0 0] [some (clO x)] (.tup [.agg
  [.i .i64 (Cm.k c2), .i .i64 (Cm.sv c2), .i .i64 (Cm.bt c2), .i .i64 (Cm.sq c2), .i .i64 (Cm.gn c2), .i .i64 (Cm.lk c2), .i .i64 (Cm.md c2), .i .i64 (Cm.ot c2), isv (Cm.mn c2)
  (Cm.mf c2), .i .i64 (Cm.d c2)], .b (Cl.o x)]) [.keep] ∧ True ∧ (!!Cl.o x == Cl.o x) = true ∧ (!!Cl.o x == Cl.o x) = true ∧ Cl.o x = true ∧ True ∧ Cl.o x = true ∧ Cl.o x =
  true ∧ Cl.o x = true ∧ (!!Cl.o x == Cl.o x) = true ∧ Cl.o x = true ∧ (!Cl.o x == Cl.o x) = false ∧ (!!decide (Cm.sq c2 = Cl.n x)) = true ∧ (!!decide (Cm.sq c2 = Cl.n x)) =
  true ∧ Con Try.prog 14 [.p 0 0] [some (clO x)] (.i .i64 q) [.keep] ∧ (!!decide (Cm.sq c2 = Cl.n x)) = true ∧ (!decide (Cm.sq c2 = Cl.n x)) = false ∧ (!decide (q < 0)) = true
  ∧ (!decide (q < 0)) = true ∧ Con Try.prog 14 [.p 0 0] [some (clO x)] (.i .i64 q) [.keep] ∧ (!decide (q < 0)) = true ∧ decide (q < 0) = false ∧ decide (2 < q) = false ∧ rg
  (Int.ofNat i + 1) ∧ Lf) := by unfold LD LQ; kernel_rfl
theorem a4_lq (x : Cl) (s : Int) (b : Int) (n : Nat) (O : Nat → Opx) (fi : Int) (e : Int) (c2 : Cm) (q : Int) (i : Nat) (h0 : decide (Int.ofNat i < Int.ofNat n) = true) (h1 :
  decide (300 < Int.ofNat i) = false) (k1 : decide ((O i).k = 1) = true) (he : decide (e = 0) = false) (ho : x.o = false) (q1 : decide (q < 0) = false) (q2 : decide (2 < q) =
  false) : LD Try.prog (loopAt Try.prog 5 0) 249 1 [(0, .i .i64 s), (1, .i .i64 b), (6, .b false), (7, .p 0 0), (9, .i .i64 x.n), (10, .i .i64 fi), (11, .b x.o), (47, .sv 27 n
  (oxF O)), (48, .i .i64 (Int.ofNat n)), (49, .i .i64 (Int.ofNat i))] [some (clO x)] (Orc.t (Orc.f (Orc.t (Orc.cal [0] (.tup [.l0, .i .i64 e]) [.keep] (Orc.f (Orc.f (Orc.f
  (Orc.f (oc 10 (Orc.cal [0] (.tup [.agg [.i .i64 (Cm.k c2), .i .i64 (Cm.sv c2), .i .i64 (Cm.bt c2), .i .i64 (Cm.sq c2), .i .i64 (Cm.gn c2), .i .i64 (Cm.lk c2), .i .i64 (Cm.md
  c2), .i .i64 (Cm.ot c2), isv (Cm.mn c2) (Cm.mf c2), .i .i64 (Cm.d c2)], .b (Cl.o x)]) [.keep] (Orc.t (Orc.t (Orc.f (Orc.f (Orc.f (Orc.f (Orc.t (Orc.f (Orc.f (oc 2 (Orc.cal
  [0] (.i .i64 q) [.keep] (oc 2 (Orc.t (Orc.t (Orc.cal [0] (.i .i64 q) [.keep] (Orc.t (Orc.f (Orc.f Orc.z)))))))))))))))))))))))))))) .nrm [0] [(0, .i .i64 s), (1, .i .i64 b),
  (6, .b false), (7, .p 0 0), (9, .i .i64 x.n), (10, .i .i64 fi), (11, .b x.o), (47, .sv 27 n (oxF O)), (48, .i .i64 (Int.ofNat n)), (49, .i .i64 (Int.ofNat i + 1))] [some (clO
  x)] 3 (fun Lf => decide (Int.ofNat i < Int.ofNat n) = true ∧ (0 ≤ Int.ofNat i ∧ Int.ofNat i < ↑n) ∧ True ∧ decide (300 < Int.ofNat i) = false ∧ True ∧ decide (Opx.k (O i) =
  1) = true ∧ True ∧ Con Try.prog 10 [.p 0 0, .i .i64 (Opx.t (O i))] [some (clO x)] (.tup [.l0, .i .i64 e]) [.keep] ∧ decide (e = 0) = false ∧ decide (e = 0) = false ∧ decide
  (e = 0) = false ∧ decide (e = 0) = false ∧ Con Try.prog 12 [.p 0 0] [some (clO x)] (.tup [.agg [.i .i64 (Cm.k c2), .i .i64 (Cm.sv c2), .i .i64 (Cm.bt c2), .i .i64 (Cm.sq c2),
  .i .i64 (Cm.gn c2), .i .i64 (Cm.lk c2), .i .i64 (Cm.md c2), .i .i64 (Cm.ot c2), isv (Cm.mn c2) (Cm.mf c2), .i .i64 (Cm.d c2)], .b (Cl.o x)]) [.keep] ∧ True ∧ (!!Cl.o x ==
  Cl.o x) = true ∧ (!!Cl.o x == Cl.o x) = true ∧ Cl.o x = false ∧ Cl.o x = false ∧ Cl.o x = false ∧ Cl.o x = false ∧ (!!Cl.o x == Cl.o x) = true ∧ Cl.o x = false ∧ (!Cl.o x ==
  Cl.o x) = false ∧ Con Try.prog 14 [.p 0 0] [some (clO x)] (.i .i64 q) [.keep] ∧ (!decide (q < 0)) = true ∧ (!decide (q < 0)) = true ∧ Con Try.prog 14 [.p 0 0] [some (clO x)]
  (.i .i64 q) [.keep] ∧ (!decide (q < 0)) = true ∧ decide (q < 0) = false ∧ decide (2 < q) = false ∧ rg (Int.ofNat i + 1) ∧ Lf) := by unfold LD LQ; kernel_rfl
theorem c1_lq (x : Cl) (s : Int) (b : Int) (n : Nat) (O : Nat → Opx) (fi : Int) (c2 : Cm) (q : Int) (i : Nat) (h0 : decide (Int.ofNat i < Int.ofNat n) = true) (h1 : decide (300
  < Int.ofNat i) = false) (k1 : decide ((O i).k = 1) = false) (k2 : decide ((O i).k = 2) = true) (ho : x.o = true) (hs : decide (c2.sq = x.n) = true) (q1 : decide (q < 0) =
  false) (q2 : decide (2 < q) = false) : LD Try.prog (loopAt Try.prog 5 0) 249 1 [(0, .i .i64 s), (1, .i .i64 b), (6, .b false), (7, .p 0 0), (9, .i .i64 x.n), (10, .i .i64
  fi), (11, .b x.o), (47, .sv 27 n (oxF O)), (48, .i .i64 (Int.ofNat n)), (49, .i .i64 (Int.ofNat i))] [some (clO x)] (Orc.t (Orc.f (Orc.f (Orc.t (Orc.cal [] (.agg [.i .i64
  (Mg.k (Opx.m (O i))), .i .i64 (Mg.fr (Opx.m (O i))), .i .i64 (Mg.to (Opx.m (O i))), .i .i64 (Mg.bl (Opx.m (O i))), .i .i64 (Mg.sl (Opx.m (O i))), .i .i64 (Mg.ab (Opx.m (O
  i))), .s (Mg.av (Opx.m (O i))), .s (Mg.st (Opx.m (O i))), .i .i64 (Cm.k (Mg.c (Opx.m (O i)))), .i .i64 (Cm.sv (Mg.c (Opx.m (O i)))), .i .i64 (Cm.bt (Mg.c (Opx.m (O i)))), .i
  .i64 (Cm.sq (Mg.c (Opx.m (O i)))), .i .i64 (Cm.gn (Mg.c (Opx.m (O i)))), .i .i64 (Cm.lk (Mg.c (Opx.m (O i)))), .i .i64 (Cm.md (Mg.c (Opx.m (O i)))), .i .i64 (Cm.ot (Mg.c
  (Opx.m (O i)))), isv (Cm.mn (Mg.c (Opx.m (O i)))) (Cm.mf (Mg.c (Opx.m (O i)))), .i .i64 (Cm.d (Mg.c (Opx.m (O i)))), .i .i64 (Mb.x (Mg.v (Opx.m (O i))) 6), .i .i64 (Mb.x
  (Mg.v (Opx.m (O i))) 7), .i .i64 (Mb.x (Mg.v (Opx.m (O i))) 8), isv (Mb.mn (Mg.v (Opx.m (O i)))) (Mb.mf (Mg.v (Opx.m (O i)))), isv (Mb.sn (Mg.v (Opx.m (O i)))) (Mb.sf (Mg.v
  (Opx.m (O i)))), svN (Mb.hn (Mg.v (Opx.m (O i)))) (Mb.hA (Mg.v (Opx.m (O i)))) (Mb.hM (Mg.v (Opx.m (O i)))) (Mb.hW (Mg.v (Opx.m (O i)))), svN (Mb.dn (Mg.v (Opx.m (O i))))
  (Mb.dA (Mg.v (Opx.m (O i)))) (Mb.dM (Mg.v (Opx.m (O i)))) (Mb.dW (Mg.v (Opx.m (O i))))]) [] (Orc.cal [0] (.tup [.agg (vwL mb0), .i .i64 0, .b false]) [.keep] (Orc.cal [0]
  (.tup [.agg (vwL mb0), .i .i64 0, .b false]) [.keep] (oc 14 (Orc.t (Orc.t (Orc.t (Orc.cal [0] (.tup [.agg [.i .i64 (Cm.k c2), .i .i64 (Cm.sv c2), .i .i64 (Cm.bt c2), .i .i64
  (Cm.sq c2), .i .i64 (Cm.gn c2), .i .i64 (Cm.lk c2), .i .i64 (Cm.md c2), .i .i64 (Cm.ot c2), isv (Cm.mn c2) (Cm.mf c2), .i .i64 (Cm.d c2)], .b (Cl.o x)]) [.keep] (Orc.t (Orc.t
  (oc 4 (Orc.t (Orc.c (Orc.f (Orc.t (Orc.t (Orc.cal [0] (.i .i64 q) [.keep] (Orc.t (Orc.f (Orc.t (Orc.t (Orc.cal [0] (.i .i64 q) [.keep] (Orc.t (Orc.f (Orc.f
  Orc.z))))))))))))))))))))))))))))) .nrm [0] [(0, .i .i64 s), (1, .i .i64 b), (6, .b false), (7, .p 0 0), (9, .i .i64 x.n), (10, .i .i64 fi), (11, .b true), (47, .sv 27 n (oxF
  O)), (48, .i .i64 (Int.ofNat n)), (49, .i .i64 (Int.ofNat i + 1))] [some (clO x)] 6 (fun Lf => decide (Int.ofNat i < Int.ofNat n) = true ∧ (0 ≤ Int.ofNat i ∧ Int.ofNat i <
  ↑n) ∧ True ∧ decide (300 < Int.ofNat i) = false ∧ True ∧ decide (Opx.k (O i) = 1) = false ∧ decide (Opx.k (O i) = 2) = true ∧ True ∧ Con Try.prog 17 [.agg [.i .i64 (Mg.k
  (Opx.m (O i))), .i .i64 (Mg.fr (Opx.m (O i))), .i .i64 (Mg.to (Opx.m (O i))), .i .i64 (Mg.bl (Opx.m (O i))), .i .i64 (Mg.sl (Opx.m (O i))), .i .i64 (Mg.ab (Opx.m (O i))), .s
  (Mg.av (Opx.m (O i))), .s (Mg.st (Opx.m (O i))), .i .i64 (Cm.k (Mg.c (Opx.m (O i)))), .i .i64 (Cm.sv (Mg.c (Opx.m (O i)))), .i .i64 (Cm.bt (Mg.c (Opx.m (O i)))), .i .i64
  (Cm.sq (Mg.c (Opx.m (O i)))), .i .i64 (Cm.gn (Mg.c (Opx.m (O i)))), .i .i64 (Cm.lk (Mg.c (Opx.m (O i)))), .i .i64 (Cm.md (Mg.c (Opx.m (O i)))), .i .i64 (Cm.ot (Mg.c (Opx.m (O
  i)))), isv (Cm.mn (Mg.c (Opx.m (O i)))) (Cm.mf (Mg.c (Opx.m (O i)))), .i .i64 (Cm.d (Mg.c (Opx.m (O i)))), .i .i64 (Mb.x (Mg.v (Opx.m (O i))) 6), .i .i64 (Mb.x (Mg.v (Opx.m
  (O i))) 7), .i .i64 (Mb.x (Mg.v (Opx.m (O i))) 8), isv (Mb.mn (Mg.v (Opx.m (O i)))) (Mb.mf (Mg.v (Opx.m (O i)))), isv (Mb.sn (Mg.v (Opx.m (O i)))) (Mb.sf (Mg.v (Opx.m (O
  i)))), svN (Mb.hn (Mg.v (Opx.m (O i)))) (Mb.hA (Mg.v (Opx.m (O i)))) (Mb.hM (Mg.v (Opx.m (O i)))) (Mb.hW (Mg.v (Opx.m (O i)))), svN (Mb.dn (Mg.v (Opx.m (O i)))) (Mb.dA (Mg.v
  (Opx.m (O i)))) (Mb.dM (Mg.v (Opx.m (O i)))) (Mb.dW (Mg.v (Opx.m (O i))))]] [] (.agg [.i .i64 (Mg.k (Opx.m (O i))), .i .i64 (Mg.fr (Opx.m (O i))), .i .i64 (Mg.to (Opx.m (O
  i))), .i .i64 (Mg.bl (Opx.m (O i))), .i .i64 (Mg.sl (Opx.m (O i))), .i .i64 (Mg.ab (Opx.m (O i))), .s (Mg.av (Opx.m (O i))), .s (Mg.st (Opx.m (O i))), .i .i64 (Cm.k (Mg.c
  (Opx.m (O i)))), .i .i64 (Cm.sv (Mg.c (Opx.m (O i)))), .i .i64 (Cm.bt (Mg.c (Opx.m (O i)))), .i .i64 (Cm.sq (Mg.c (Opx.m (O i)))), .i .i64 (Cm.gn (Mg.c (Opx.m (O i)))), .i
  .i64 (Cm.lk (Mg.c (Opx.m (O i)))), .i .i64 (Cm.md (Mg.c (Opx.m (O i)))), .i .i64 (Cm.ot (Mg.c (Opx.m (O i)))), isv (Cm.mn (Mg.c (Opx.m (O i)))) (Cm.mf (Mg.c (Opx.m (O i)))),
  .i .i64 (Cm.d (Mg.c (Opx.m (O i)))), .i .i64 (Mb.x (Mg.v (Opx.m (O i))) 6), .i .i64 (Mb.x (Mg.v (Opx.m (O i))) 7), .i .i64 (Mb.x (Mg.v (Opx.m (O i))) 8), isv (Mb.mn (Mg.v
  (Opx.m (O i)))) (Mb.mf (Mg.v (Opx.m (O i)))), isv (Mb.sn (Mg.v (Opx.m (O i)))) (Mb.sf (Mg.v (Opx.m (O i)))), svN (Mb.hn (Mg.v (Opx.m (O i)))) (Mb.hA (Mg.v (Opx.m (O i))))
  (Mb.hM (Mg.v (Opx.m (O i)))) (Mb.hW (Mg.v (Opx.m (O i)))), svN (Mb.dn (Mg.v (Opx.m (O i)))) (Mb.dA (Mg.v (Opx.m (O i)))) (Mb.dM (Mg.v (Opx.m (O i)))) (Mb.dW (Mg.v (Opx.m (O
  i))))]) [] ∧ Con Try.prog 11 [.p 0 0, .agg [.i .i64 (Mg.k (Opx.m (O i))), .i .i64 (Mg.fr (Opx.m (O i))), .i .i64 (Mg.to (Opx.m (O i))), .i .i64 (Mg.bl (Opx.m (O i))), .i .i64
  (Mg.sl (Opx.m (O i))), .i .i64 (Mg.ab (Opx.m (O i))), .s (Mg.av (Opx.m (O i))), .s (Mg.st (Opx.m (O i))), .i .i64 (Cm.k (Mg.c (Opx.m (O i)))), .i .i64 (Cm.sv (Mg.c (Opx.m (O
  i)))), .i .i64 (Cm.bt (Mg.c (Opx.m (O i)))), .i .i64 (Cm.sq (Mg.c (Opx.m (O i)))), .i .i64 (Cm.gn (Mg.c (Opx.m (O i)))), .i .i64 (Cm.lk (Mg.c (Opx.m (O i)))), .i .i64 (Cm.md
  (Mg.c (Opx.m (O i)))), .i .i64 (Cm.ot (Mg.c (Opx.m (O i)))), isv (Cm.mn (Mg.c (Opx.m (O i)))) (Cm.mf (Mg.c (Opx.m (O i)))), .i .i64 (Cm.d (Mg.c (Opx.m (O i)))), .i .i64 (Mb.x
  (Mg.v (Opx.m (O i))) 6), .i .i64 (Mb.x (Mg.v (Opx.m (O i))) 7), .i .i64 (Mb.x (Mg.v (Opx.m (O i))) 8), isv (Mb.mn (Mg.v (Opx.m (O i)))) (Mb.mf (Mg.v (Opx.m (O i)))), isv
  (Mb.sn (Mg.v (Opx.m (O i)))) (Mb.sf (Mg.v (Opx.m (O i)))), svN (Mb.hn (Mg.v (Opx.m (O i)))) (Mb.hA (Mg.v (Opx.m (O i)))) (Mb.hM (Mg.v (Opx.m (O i)))) (Mb.hW (Mg.v (Opx.m (O
  i)))), svN (Mb.dn (Mg.v (Opx.m (O i)))) (Mb.dA (Mg.v (Opx.m (O i)))) (Mb.dM (Mg.v (Opx.m (O i)))) (Mb.dW (Mg.v (Opx.m (O i))))]] [some (clO x)] (.tup [.agg (vwL mb0), .i .i64
  0, .b false]) [.keep] ∧ Con Try.prog 11 [.p 0 0, .agg [.i .i64 (Mg.k (Opx.m (O i))), .i .i64 (Mg.fr (Opx.m (O i))), .i .i64 (Mg.to (Opx.m (O i))), .i .i64 (Mg.bl (Opx.m (O
  i))), .i .i64 (Mg.sl (Opx.m (O i))), .i .i64 (Mg.ab (Opx.m (O i))), .s (Mg.av (Opx.m (O i))), .s (Mg.st (Opx.m (O i))), .i .i64 (Cm.k (Mg.c (Opx.m (O i)))), .i .i64 (Cm.sv
  (Mg.c (Opx.m (O i)))), .i .i64 (Cm.bt (Mg.c (Opx.m (O i)))), .i .i64 (Cm.sq (Mg.c (Opx.m (O i)))), .i .i64 (Cm.gn (Mg.c (Opx.m (O i)))), .i .i64 (Cm.lk (Mg.c (Opx.m (O i)))),
  .i .i64 (Cm.md (Mg.c (Opx.m (O i)))), .i .i64 (Cm.ot (Mg.c (Opx.m (O i)))), isv (Cm.mn (Mg.c (Opx.m (O i)))) (Cm.mf (Mg.c (Opx.m (O i)))), .i .i64 (Cm.d (Mg.c (Opx.m (O
  i)))), .i .i64 (Mb.x (Mg.v (Opx.m (O i))) 6), .i .i64 (Mb.x (Mg.v (Opx.m (O i))) 7), .i .i64 (Mb.x (Mg.v (Opx.m (O i))) 8), isv (Mb.mn (Mg.v (Opx.m (O i)))) (Mb.mf (Mg.v
  (Opx.m (O i)))), isv (Mb.sn (Mg.v (Opx.m (O i)))) (Mb.sf (Mg.v (Opx.m (O i)))), svN (Mb.hn (Mg.v (Opx.m (O i)))) (Mb.hA (Mg.v (Opx.m (O i)))) (Mb.hM (Mg.v (Opx.m (O i))))
  (Mb.hW (Mg.v (Opx.m (O i)))), svN (Mb.dn (Mg.v (Opx.m (O i)))) (Mb.dA (Mg.v (Opx.m (O i)))) (Mb.dM (Mg.v (Opx.m (O i)))) (Mb.dW (Mg.v (Opx.m (O i))))]] [some (clO x)] (.tup
  [.agg (vwL mb0), .i .i64 0, .b false]) [.keep] ∧ Cl.o x = true ∧ Cl.o x = true ∧ True ∧ Cl.o x = true ∧ Con Try.prog 12 [.p 0 0] [some (clO x)] (.tup [.agg [.i .i64 (Cm.k
  c2), .i .i64 (Cm.sv c2), .i .i64 (Cm.bt c2), .i .i64 (Cm.sq c2), .i .i64 (Cm.gn c2), .i .i64 (Cm.lk c2), .i .i64 (Cm.md c2), .i .i64 (Cm.ot c2), isv (Cm.mn c2) (Cm.mf c2), .i
  .i64 (Cm.d c2)], .b (Cl.o x)]) [.keep] ∧ True ∧ (!!Cl.o x == true) = true ∧ (!!Cl.o x == true) = true ∧ True ∧ (!!Cl.o x == true) = true ∧ (!Cl.o x == true) = false ∧
  (!!decide (Cm.sq c2 = Cl.n x)) = true ∧ (!!decide (Cm.sq c2 = Cl.n x)) = true ∧ Con Try.prog 14 [.p 0 0] [some (clO x)] (.i .i64 q) [.keep] ∧ (!!decide (Cm.sq c2 = Cl.n x)) =
  true ∧ (!decide (Cm.sq c2 = Cl.n x)) = false ∧ (!decide (q < 0)) = true ∧ (!decide (q < 0)) = true ∧ Con Try.prog 14 [.p 0 0] [some (clO x)] (.i .i64 q) [.keep] ∧ (!decide (q
  < 0)) = true ∧ decide (q < 0) = false ∧ decide (2 < q) = false ∧ rg (Int.ofNat i + 1) ∧ Lf) := by unfold LD LQ; kernel_rfl
theorem c2_lq (x : Cl) (s : Int) (b : Int) (n : Nat) (O : Nat → Opx) (fi : Int) (c2 : Cm) (q : Int) (i : Nat) (h0 : decide (Int.ofNat i < Int.ofNat n) = true) (h1 : decide (300
  < Int.ofNat i) = false) (k1 : decide ((O i).k = 1) = false) (k2 : decide ((O i).k = 2) = true) (ho : x.o = false) (q1 : decide (q < 0) = false) (q2 : decide (2 < q) = false)
  : LD Try.prog (loopAt Try.prog 5 0) 249 1 [(0, .i .i64 s), (1, .i .i64 b), (6, .b false), (7, .p 0 0), (9, .i .i64 x.n), (10, .i .i64 fi), (11, .b x.o), (47, .sv 27 n (oxF
  O)), (48, .i .i64 (Int.ofNat n)), (49, .i .i64 (Int.ofNat i))] [some (clO x)] (Orc.t (Orc.f (Orc.f (Orc.t (Orc.cal [] (.agg [.i .i64 (Mg.k (Opx.m (O i))), .i .i64 (Mg.fr
  (Opx.m (O i))), .i .i64 (Mg.to (Opx.m (O i))), .i .i64 (Mg.bl (Opx.m (O i))), .i .i64 (Mg.sl (Opx.m (O i))), .i .i64 (Mg.ab (Opx.m (O i))), .s (Mg.av (Opx.m (O i))), .s
  (Mg.st (Opx.m (O i))), .i .i64 (Cm.k (Mg.c (Opx.m (O i)))), .i .i64 (Cm.sv (Mg.c (Opx.m (O i)))), .i .i64 (Cm.bt (Mg.c (Opx.m (O i)))), .i .i64 (Cm.sq (Mg.c (Opx.m (O i)))),
  .i .i64 (Cm.gn (Mg.c (Opx.m (O i)))), .i .i64 (Cm.lk (Mg.c (Opx.m (O i)))), .i .i64 (Cm.md (Mg.c (Opx.m (O i)))), .i .i64 (Cm.ot (Mg.c (Opx.m (O i)))), isv (Cm.mn (Mg.c
  (Opx.m (O i)))) (Cm.mf (Mg.c (Opx.m (O i)))), .i .i64 (Cm.d (Mg.c (Opx.m (O i)))), .i .i64 (Mb.x (Mg.v (Opx.m (O i))) 6), .i .i64 (Mb.x (Mg.v (Opx.m (O i))) 7), .i .i64 (Mb.x
  (Mg.v (Opx.m (O i))) 8), isv (Mb.mn (Mg.v (Opx.m (O i)))) (Mb.mf (Mg.v (Opx.m (O i)))), isv (Mb.sn (Mg.v (Opx.m (O i)))) (Mb.sf (Mg.v (Opx.m (O i)))), svN (Mb.hn (Mg.v (Opx.m
  (O i)))) (Mb.hA (Mg.v (Opx.m (O i)))) (Mb.hM (Mg.v (Opx.m (O i)))) (Mb.hW (Mg.v (Opx.m (O i)))), svN (Mb.dn (Mg.v (Opx.m (O i)))) (Mb.dA (Mg.v (Opx.m (O i)))) (Mb.dM (Mg.v
  (Opx.m (O i)))) (Mb.dW (Mg.v (Opx.m (O i))))]) [] (Orc.cal [0] (.tup [.agg (vwL mb0), .i .i64 0, .b false]) [.keep] (Orc.cal [0] (.tup [.agg (vwL mb0), .i .i64 0, .b false])
  [.keep] (oc 14 (Orc.f (Orc.f (Orc.f (Orc.cal [0] (.tup [.agg [.i .i64 (Cm.k c2), .i .i64 (Cm.sv c2), .i .i64 (Cm.bt c2), .i .i64 (Cm.sq c2), .i .i64 (Cm.gn c2), .i .i64
  (Cm.lk c2), .i .i64 (Cm.md c2), .i .i64 (Cm.ot c2), isv (Cm.mn c2) (Cm.mf c2), .i .i64 (Cm.d c2)], .b (Cl.o x)]) [.keep] (Orc.t (Orc.t (oc 4 (Orc.t (Orc.c (Orc.f (oc 2
  (Orc.cal [0] (.i .i64 q) [.keep] (oc 2 (Orc.t (Orc.t (Orc.cal [0] (.i .i64 q) [.keep] (Orc.t (Orc.f (Orc.f Orc.z))))))))))))))))))))))))))) .nrm [0] [(0, .i .i64 s), (1, .i
  .i64 b), (6, .b false), (7, .p 0 0), (9, .i .i64 x.n), (10, .i .i64 fi), (11, .b false), (47, .sv 27 n (oxF O)), (48, .i .i64 (Int.ofNat n)), (49, .i .i64 (Int.ofNat i + 1))]
  [some (clO x)] 6 (fun Lf => decide (Int.ofNat i < Int.ofNat n) = true ∧ (0 ≤ Int.ofNat i ∧ Int.ofNat i < ↑n) ∧ True ∧ decide (300 < Int.ofNat i) = false ∧ True ∧ decide
  (Opx.k (O i) = 1) = false ∧ decide (Opx.k (O i) = 2) = true ∧ True ∧ Con Try.prog 17 [.agg [.i .i64 (Mg.k (Opx.m (O i))), .i .i64 (Mg.fr (Opx.m (O i))), .i .i64 (Mg.to (Opx.m
  (O i))), .i .i64 (Mg.bl (Opx.m (O i))), .i .i64 (Mg.sl (Opx.m (O i))), .i .i64 (Mg.ab (Opx.m (O i))), .s (Mg.av (Opx.m (O i))), .s (Mg.st (Opx.m (O i))), .i .i64 (Cm.k (Mg.c
  (Opx.m (O i)))), .i .i64 (Cm.sv (Mg.c (Opx.m (O i)))), .i .i64 (Cm.bt (Mg.c (Opx.m (O i)))), .i .i64 (Cm.sq (Mg.c (Opx.m (O i)))), .i .i64 (Cm.gn (Mg.c (Opx.m (O i)))), .i
  .i64 (Cm.lk (Mg.c (Opx.m (O i)))), .i .i64 (Cm.md (Mg.c (Opx.m (O i)))), .i .i64 (Cm.ot (Mg.c (Opx.m (O i)))), isv (Cm.mn (Mg.c (Opx.m (O i)))) (Cm.mf (Mg.c (Opx.m (O i)))),
  .i .i64 (Cm.d (Mg.c (Opx.m (O i)))), .i .i64 (Mb.x (Mg.v (Opx.m (O i))) 6), .i .i64 (Mb.x (Mg.v (Opx.m (O i))) 7), .i .i64 (Mb.x (Mg.v (Opx.m (O i))) 8), isv (Mb.mn (Mg.v
  (Opx.m (O i)))) (Mb.mf (Mg.v (Opx.m (O i)))), isv (Mb.sn (Mg.v (Opx.m (O i)))) (Mb.sf (Mg.v (Opx.m (O i)))), svN (Mb.hn (Mg.v (Opx.m (O i)))) (Mb.hA (Mg.v (Opx.m (O i))))
  (Mb.hM (Mg.v (Opx.m (O i)))) (Mb.hW (Mg.v (Opx.m (O i)))), svN (Mb.dn (Mg.v (Opx.m (O i)))) (Mb.dA (Mg.v (Opx.m (O i)))) (Mb.dM (Mg.v (Opx.m (O i)))) (Mb.dW (Mg.v (Opx.m (O
  i))))]] [] (.agg [.i .i64 (Mg.k (Opx.m (O i))), .i .i64 (Mg.fr (Opx.m (O i))), .i .i64 (Mg.to (Opx.m (O i))), .i .i64 (Mg.bl (Opx.m (O i))), .i .i64 (Mg.sl (Opx.m (O i))), .i
  .i64 (Mg.ab (Opx.m (O i))), .s (Mg.av (Opx.m (O i))), .s (Mg.st (Opx.m (O i))), .i .i64 (Cm.k (Mg.c (Opx.m (O i)))), .i .i64 (Cm.sv (Mg.c (Opx.m (O i)))), .i .i64 (Cm.bt
  (Mg.c (Opx.m (O i)))), .i .i64 (Cm.sq (Mg.c (Opx.m (O i)))), .i .i64 (Cm.gn (Mg.c (Opx.m (O i)))), .i .i64 (Cm.lk (Mg.c (Opx.m (O i)))), .i .i64 (Cm.md (Mg.c (Opx.m (O i)))),
  .i .i64 (Cm.ot (Mg.c (Opx.m (O i)))), isv (Cm.mn (Mg.c (Opx.m (O i)))) (Cm.mf (Mg.c (Opx.m (O i)))), .i .i64 (Cm.d (Mg.c (Opx.m (O i)))), .i .i64 (Mb.x (Mg.v (Opx.m (O i)))
  6), .i .i64 (Mb.x (Mg.v (Opx.m (O i))) 7), .i .i64 (Mb.x (Mg.v (Opx.m (O i))) 8), isv (Mb.mn (Mg.v (Opx.m (O i)))) (Mb.mf (Mg.v (Opx.m (O i)))), isv (Mb.sn (Mg.v (Opx.m (O
  i)))) (Mb.sf (Mg.v (Opx.m (O i)))), svN (Mb.hn (Mg.v (Opx.m (O i)))) (Mb.hA (Mg.v (Opx.m (O i)))) (Mb.hM (Mg.v (Opx.m (O i)))) (Mb.hW (Mg.v (Opx.m (O i)))), svN (Mb.dn (Mg.v
  (Opx.m (O i)))) (Mb.dA (Mg.v (Opx.m (O i)))) (Mb.dM (Mg.v (Opx.m (O i)))) (Mb.dW (Mg.v (Opx.m (O i))))]) [] ∧ Con Try.prog 11 [.p 0 0, .agg [.i .i64 (Mg.k (Opx.m (O i))), .i
  .i64 (Mg.fr (Opx.m (O i))), .i .i64 (Mg.to (Opx.m (O i))), .i .i64 (Mg.bl (Opx.m (O i))), .i .i64 (Mg.sl (Opx.m (O i))), .i .i64 (Mg.ab (Opx.m (O i))), .s (Mg.av (Opx.m (O
  i))), .s (Mg.st (Opx.m (O i))), .i .i64 (Cm.k (Mg.c (Opx.m (O i)))), .i .i64 (Cm.sv (Mg.c (Opx.m (O i)))), .i .i64 (Cm.bt (Mg.c (Opx.m (O i)))), .i .i64 (Cm.sq (Mg.c (Opx.m
  (O i)))), .i .i64 (Cm.gn (Mg.c (Opx.m (O i)))), .i .i64 (Cm.lk (Mg.c (Opx.m (O i)))), .i .i64 (Cm.md (Mg.c (Opx.m (O i)))), .i .i64 (Cm.ot (Mg.c (Opx.m (O i)))), isv (Cm.mn
  (Mg.c (Opx.m (O i)))) (Cm.mf (Mg.c (Opx.m (O i)))), .i .i64 (Cm.d (Mg.c (Opx.m (O i)))), .i .i64 (Mb.x (Mg.v (Opx.m (O i))) 6), .i .i64 (Mb.x (Mg.v (Opx.m (O i))) 7), .i .i64
  (Mb.x (Mg.v (Opx.m (O i))) 8), isv (Mb.mn (Mg.v (Opx.m (O i)))) (Mb.mf (Mg.v (Opx.m (O i)))), isv (Mb.sn (Mg.v (Opx.m (O i)))) (Mb.sf (Mg.v (Opx.m (O i)))), svN (Mb.hn (Mg.v
  (Opx.m (O i)))) (Mb.hA (Mg.v (Opx.m (O i)))) (Mb.hM (Mg.v (Opx.m (O i)))) (Mb.hW (Mg.v (Opx.m (O i)))), svN (Mb.dn (Mg.v (Opx.m (O i)))) (Mb.dA (Mg.v (Opx.m (O i)))) (Mb.dM
  (Mg.v (Opx.m (O i)))) (Mb.dW (Mg.v (Opx.m (O i))))]] [some (clO x)] (.tup [.agg (vwL mb0), .i .i64 0, .b false]) [.keep] ∧ Con Try.prog 11 [.p 0 0, .agg [.i .i64 (Mg.k (Opx.m
  (O i))), .i .i64 (Mg.fr (Opx.m (O i))), .i .i64 (Mg.to (Opx.m (O i))), .i .i64 (Mg.bl (Opx.m (O i))), .i .i64 (Mg.sl (Opx.m (O i))), .i .i64 (Mg.ab (Opx.m (O i))), .s (Mg.av
  (Opx.m (O i))), .s (Mg.st (Opx.m (O i))), .i .i64 (Cm.k (Mg.c (Opx.m (O i)))), .i .i64 (Cm.sv (Mg.c (Opx.m (O i)))), .i .i64 (Cm.bt (Mg.c (Opx.m (O i)))), .i .i64 (Cm.sq
  (Mg.c (Opx.m (O i)))), .i .i64 (Cm.gn (Mg.c (Opx.m (O i)))), .i .i64 (Cm.lk (Mg.c (Opx.m (O i)))), .i .i64 (Cm.md (Mg.c (Opx.m (O i)))), .i .i64 (Cm.ot (Mg.c (Opx.m (O i)))),
  isv (Cm.mn (Mg.c (Opx.m (O i)))) (Cm.mf (Mg.c (Opx.m (O i)))), .i .i64 (Cm.d (Mg.c (Opx.m (O i)))), .i .i64 (Mb.x (Mg.v (Opx.m (O i))) 6), .i .i64 (Mb.x (Mg.v (Opx.m (O i)))
  7), .i .i64 (Mb.x (Mg.v (Opx.m (O i))) 8), isv (Mb.mn (Mg.v (Opx.m (O i)))) (Mb.mf (Mg.v (Opx.m (O i)))), isv (Mb.sn (Mg.v (Opx.m (O i)))) (Mb.sf (Mg.v (Opx.m (O i)))), svN
  (Mb.hn (Mg.v (Opx.m (O i)))) (Mb.hA (Mg.v (Opx.m (O i)))) (Mb.hM (Mg.v (Opx.m (O i)))) (Mb.hW (Mg.v (Opx.m (O i)))), svN (Mb.dn (Mg.v (Opx.m (O i)))) (Mb.dA (Mg.v (Opx.m (O
  i)))) (Mb.dM (Mg.v (Opx.m (O i)))) (Mb.dW (Mg.v (Opx.m (O i))))]] [some (clO x)] (.tup [.agg (vwL mb0), .i .i64 0, .b false]) [.keep] ∧ Cl.o x = false ∧ Cl.o x = false ∧ Cl.o
  x = false ∧ Con Try.prog 12 [.p 0 0] [some (clO x)] (.tup [.agg [.i .i64 (Cm.k c2), .i .i64 (Cm.sv c2), .i .i64 (Cm.bt c2), .i .i64 (Cm.sq c2), .i .i64 (Cm.gn c2), .i .i64
  (Cm.lk c2), .i .i64 (Cm.md c2), .i .i64 (Cm.ot c2), isv (Cm.mn c2) (Cm.mf c2), .i .i64 (Cm.d c2)], .b (Cl.o x)]) [.keep] ∧ True ∧ (!!Cl.o x == false) = true ∧ (!!Cl.o x ==
  false) = true ∧ (!!Cl.o x == false) = true ∧ (!Cl.o x == false) = false ∧ Con Try.prog 14 [.p 0 0] [some (clO x)] (.i .i64 q) [.keep] ∧ (!decide (q < 0)) = true ∧ (!decide (q
  < 0)) = true ∧ Con Try.prog 14 [.p 0 0] [some (clO x)] (.i .i64 q) [.keep] ∧ (!decide (q < 0)) = true ∧ decide (q < 0) = false ∧ decide (2 < q) = false ∧ rg (Int.ofNat i + 1)
  ∧ Lf) := by unfold LD LQ; kernel_rfl
theorem e1_lq (x : Cl) (s : Int) (b : Int) (n : Nat) (O : Nat → Opx) (fi : Int) (e : Int) (c2 : Cm) (q : Int) (i : Nat) (h0 : decide (Int.ofNat i < Int.ofNat n) = true) (h1 :
  decide (300 < Int.ofNat i) = false) (k1 : decide ((O i).k = 1) = false) (k2 : decide ((O i).k = 2) = false) (he : decide (e = 0) = false) (ho : x.o = true) (hs : decide
  (c2.sq = x.n) = true) (q1 : decide (q < 0) = false) (q2 : decide (2 < q) = false) : LD Try.prog (loopAt Try.prog 5 0) 249 1 [(0, .i .i64 s), (1, .i .i64 b), (6, .b false),
  (7, .p 0 0), (9, .i .i64 x.n), (10, .i .i64 fi), (11, .b x.o), (47, .sv 27 n (oxF O)), (48, .i .i64 (Int.ofNat n)), (49, .i .i64 (Int.ofNat i))] [some (clO x)] (Orc.t (Orc.f
  (Orc.f (Orc.f (Orc.cal [] (.agg [.i .i64 (Mg.k (Opx.m (O i))), .i .i64 (Mg.fr (Opx.m (O i))), .i .i64 (Mg.to (Opx.m (O i))), .i .i64 (Mg.bl (Opx.m (O i))), .i .i64 (Mg.sl
  (Opx.m (O i))), .i .i64 (Mg.ab (Opx.m (O i))), .s (Mg.av (Opx.m (O i))), .s (Mg.st (Opx.m (O i))), .i .i64 (Cm.k (Mg.c (Opx.m (O i)))), .i .i64 (Cm.sv (Mg.c (Opx.m (O i)))),
  .i .i64 (Cm.bt (Mg.c (Opx.m (O i)))), .i .i64 (Cm.sq (Mg.c (Opx.m (O i)))), .i .i64 (Cm.gn (Mg.c (Opx.m (O i)))), .i .i64 (Cm.lk (Mg.c (Opx.m (O i)))), .i .i64 (Cm.md (Mg.c
  (Opx.m (O i)))), .i .i64 (Cm.ot (Mg.c (Opx.m (O i)))), isv (Cm.mn (Mg.c (Opx.m (O i)))) (Cm.mf (Mg.c (Opx.m (O i)))), .i .i64 (Cm.d (Mg.c (Opx.m (O i)))), .i .i64 (Mb.x (Mg.v
  (Opx.m (O i))) 6), .i .i64 (Mb.x (Mg.v (Opx.m (O i))) 7), .i .i64 (Mb.x (Mg.v (Opx.m (O i))) 8), isv (Mb.mn (Mg.v (Opx.m (O i)))) (Mb.mf (Mg.v (Opx.m (O i)))), isv (Mb.sn
  (Mg.v (Opx.m (O i)))) (Mb.sf (Mg.v (Opx.m (O i)))), svN (Mb.hn (Mg.v (Opx.m (O i)))) (Mb.hA (Mg.v (Opx.m (O i)))) (Mb.hM (Mg.v (Opx.m (O i)))) (Mb.hW (Mg.v (Opx.m (O i)))),
  svN (Mb.dn (Mg.v (Opx.m (O i)))) (Mb.dA (Mg.v (Opx.m (O i)))) (Mb.dM (Mg.v (Opx.m (O i)))) (Mb.dW (Mg.v (Opx.m (O i))))]) [] (Orc.cal [0] (.tup [.l0, .i .i64 e]) [.keep]
  (Orc.t (Orc.c (Orc.cal [0] (.tup [.agg [.i .i64 (Cm.k c2), .i .i64 (Cm.sv c2), .i .i64 (Cm.bt c2), .i .i64 (Cm.sq c2), .i .i64 (Cm.gn c2), .i .i64 (Cm.lk c2), .i .i64 (Cm.md
  c2), .i .i64 (Cm.ot c2), isv (Cm.mn c2) (Cm.mf c2), .i .i64 (Cm.d c2)], .b (Cl.o x)]) [.keep] (Orc.t (Orc.t (Orc.t (Orc.t (Orc.t (Orc.t (Orc.t (Orc.t (Orc.f (Orc.t (Orc.t
  (Orc.cal [0] (.i .i64 q) [.keep] (Orc.t (Orc.f (Orc.t (Orc.t (Orc.cal [0] (.i .i64 q) [.keep] (Orc.t (Orc.f (Orc.f Orc.z))))))))))))))))))))))))))))) .nrm [0] [(0, .i .i64
  s), (1, .i .i64 b), (6, .b false), (7, .p 0 0), (9, .i .i64 x.n), (10, .i .i64 fi), (11, .b x.o), (47, .sv 27 n (oxF O)), (48, .i .i64 (Int.ofNat n)), (49, .i .i64 (Int.ofNat
  i + 1))] [some (clO x)] 3 (fun Lf => decide (Int.ofNat i < Int.ofNat n) = true ∧ (0 ≤ Int.ofNat i ∧ Int.ofNat i < ↑n) ∧ True ∧ decide (300 < Int.ofNat i) = false ∧ True ∧
  decide (Opx.k (O i) = 1) = false ∧ decide (Opx.k (O i) = 2) = false ∧ True ∧ True ∧ Con Try.prog 17 [.agg [.i .i64 (Mg.k (Opx.m (O i))), .i .i64 (Mg.fr (Opx.m (O i))), .i
  .i64 (Mg.to (Opx.m (O i))), .i .i64 (Mg.bl (Opx.m (O i))), .i .i64 (Mg.sl (Opx.m (O i))), .i .i64 (Mg.ab (Opx.m (O i))), .s (Mg.av (Opx.m (O i))), .s (Mg.st (Opx.m (O i))),
  .i .i64 (Cm.k (Mg.c (Opx.m (O i)))), .i .i64 (Cm.sv (Mg.c (Opx.m (O i)))), .i .i64 (Cm.bt (Mg.c (Opx.m (O i)))), .i .i64 (Cm.sq (Mg.c (Opx.m (O i)))), .i .i64 (Cm.gn (Mg.c
  (Opx.m (O i)))), .i .i64 (Cm.lk (Mg.c (Opx.m (O i)))), .i .i64 (Cm.md (Mg.c (Opx.m (O i)))), .i .i64 (Cm.ot (Mg.c (Opx.m (O i)))), isv (Cm.mn (Mg.c (Opx.m (O i)))) (Cm.mf
  (Mg.c (Opx.m (O i)))), .i .i64 (Cm.d (Mg.c (Opx.m (O i)))), .i .i64 (Mb.x (Mg.v (Opx.m (O i))) 6), .i .i64 (Mb.x (Mg.v (Opx.m (O i))) 7), .i .i64 (Mb.x (Mg.v (Opx.m (O i)))
  8), isv (Mb.mn (Mg.v (Opx.m (O i)))) (Mb.mf (Mg.v (Opx.m (O i)))), isv (Mb.sn (Mg.v (Opx.m (O i)))) (Mb.sf (Mg.v (Opx.m (O i)))), svN (Mb.hn (Mg.v (Opx.m (O i)))) (Mb.hA
  (Mg.v (Opx.m (O i)))) (Mb.hM (Mg.v (Opx.m (O i)))) (Mb.hW (Mg.v (Opx.m (O i)))), svN (Mb.dn (Mg.v (Opx.m (O i)))) (Mb.dA (Mg.v (Opx.m (O i)))) (Mb.dM (Mg.v (Opx.m (O i))))
  (Mb.dW (Mg.v (Opx.m (O i))))]] [] (.agg [.i .i64 (Mg.k (Opx.m (O i))), .i .i64 (Mg.fr (Opx.m (O i))), .i .i64 (Mg.to (Opx.m (O i))), .i .i64 (Mg.bl (Opx.m (O i))), .i .i64
  (Mg.sl (Opx.m (O i))), .i .i64 (Mg.ab (Opx.m (O i))), .s (Mg.av (Opx.m (O i))), .s (Mg.st (Opx.m (O i))), .i .i64 (Cm.k (Mg.c (Opx.m (O i)))), .i .i64 (Cm.sv (Mg.c (Opx.m (O
  i)))), .i .i64 (Cm.bt (Mg.c (Opx.m (O i)))), .i .i64 (Cm.sq (Mg.c (Opx.m (O i)))), .i .i64 (Cm.gn (Mg.c (Opx.m (O i)))), .i .i64 (Cm.lk (Mg.c (Opx.m (O i)))), .i .i64 (Cm.md
  (Mg.c (Opx.m (O i)))), .i .i64 (Cm.ot (Mg.c (Opx.m (O i)))), isv (Cm.mn (Mg.c (Opx.m (O i)))) (Cm.mf (Mg.c (Opx.m (O i)))), .i .i64 (Cm.d (Mg.c (Opx.m (O i)))), .i .i64 (Mb.x
  (Mg.v (Opx.m (O i))) 6), .i .i64 (Mb.x (Mg.v (Opx.m (O i))) 7), .i .i64 (Mb.x (Mg.v (Opx.m (O i))) 8), isv (Mb.mn (Mg.v (Opx.m (O i)))) (Mb.mf (Mg.v (Opx.m (O i)))), isv
  (Mb.sn (Mg.v (Opx.m (O i)))) (Mb.sf (Mg.v (Opx.m (O i)))), svN (Mb.hn (Mg.v (Opx.m (O i)))) (Mb.hA (Mg.v (Opx.m (O i)))) (Mb.hM (Mg.v (Opx.m (O i)))) (Mb.hW (Mg.v (Opx.m (O
  i)))), svN (Mb.dn (Mg.v (Opx.m (O i)))) (Mb.dA (Mg.v (Opx.m (O i)))) (Mb.dM (Mg.v (Opx.m (O i)))) (Mb.dW (Mg.v (Opx.m (O i))))]) [] ∧ Con Try.prog 9 [.p 0 0, .i .i64 (Opx.t
  (O i)), .agg [.i .i64 (Cm.k (Mg.c (Opx.m (O i)))), .i .i64 (Cm.sv (Mg.c (Opx.m (O i)))), .i .i64 (Cm.bt (Mg.c (Opx.m (O i)))), .i .i64 (Cm.sq (Mg.c (Opx.m (O i)))), .i .i64
  (Cm.gn (Mg.c (Opx.m (O i)))), .i .i64 (Cm.lk (Mg.c (Opx.m (O i)))), .i .i64 (Cm.md (Mg.c (Opx.m (O i)))), .i .i64 (Cm.ot (Mg.c (Opx.m (O i)))), isv (Cm.mn (Mg.c (Opx.m (O
  i)))) (Cm.mf (Mg.c (Opx.m (O i)))), .i .i64 (Cm.d (Mg.c (Opx.m (O i))))]] [some (clO x)] (.tup [.l0, .i .i64 e]) [.keep] ∧ (!decide (e = 0)) = true ∧ Con Try.prog 12 [.p 0 0]
  [some (clO x)] (.tup [.agg [.i .i64 (Cm.k c2), .i .i64 (Cm.sv c2), .i .i64 (Cm.bt c2), .i .i64 (Cm.sq c2), .i .i64 (Cm.gn c2), .i .i64 (Cm.lk c2), .i .i64 (Cm.md c2), .i .i64
  (Cm.ot c2), isv (Cm.mn c2) (Cm.mf c2), .i .i64 (Cm.d c2)], .b (Cl.o x)]) [.keep] ∧ True ∧ (!!Cl.o x == Cl.o x) = true ∧ (!!Cl.o x == Cl.o x) = true ∧ Cl.o x = true ∧ True ∧
  Cl.o x = true ∧ Cl.o x = true ∧ Cl.o x = true ∧ (!!Cl.o x == Cl.o x) = true ∧ Cl.o x = true ∧ (!Cl.o x == Cl.o x) = false ∧ (!!decide (Cm.sq c2 = Cl.n x)) = true ∧ (!!decide
  (Cm.sq c2 = Cl.n x)) = true ∧ Con Try.prog 14 [.p 0 0] [some (clO x)] (.i .i64 q) [.keep] ∧ (!!decide (Cm.sq c2 = Cl.n x)) = true ∧ (!decide (Cm.sq c2 = Cl.n x)) = false ∧
  (!decide (q < 0)) = true ∧ (!decide (q < 0)) = true ∧ Con Try.prog 14 [.p 0 0] [some (clO x)] (.i .i64 q) [.keep] ∧ (!decide (q < 0)) = true ∧ decide (q < 0) = false ∧ decide
  (2 < q) = false ∧ rg (Int.ofNat i + 1) ∧ Lf) := by unfold LD LQ; kernel_rfl
theorem e2_lq (x : Cl) (s : Int) (b : Int) (n : Nat) (O : Nat → Opx) (fi : Int) (e : Int) (c2 : Cm) (q : Int) (i : Nat) (h0 : decide (Int.ofNat i < Int.ofNat n) = true) (h1 :
  decide (300 < Int.ofNat i) = false) (k1 : decide ((O i).k = 1) = false) (k2 : decide ((O i).k = 2) = false) (he : decide (e = 0) = false) (ho : x.o = false) (q1 : decide (q <
  0) = false) (q2 : decide (2 < q) = false) : LD Try.prog (loopAt Try.prog 5 0) 249 1 [(0, .i .i64 s), (1, .i .i64 b), (6, .b false), (7, .p 0 0), (9, .i .i64 x.n), (10, .i
  .i64 fi), (11, .b x.o), (47, .sv 27 n (oxF O)), (48, .i .i64 (Int.ofNat n)), (49, .i .i64 (Int.ofNat i))] [some (clO x)] (Orc.t (Orc.f (Orc.f (Orc.f (Orc.cal [] (.agg [.i
  .i64 (Mg.k (Opx.m (O i))), .i .i64 (Mg.fr (Opx.m (O i))), .i .i64 (Mg.to (Opx.m (O i))), .i .i64 (Mg.bl (Opx.m (O i))), .i .i64 (Mg.sl (Opx.m (O i))), .i .i64 (Mg.ab (Opx.m
  (O i))), .s (Mg.av (Opx.m (O i))), .s (Mg.st (Opx.m (O i))), .i .i64 (Cm.k (Mg.c (Opx.m (O i)))), .i .i64 (Cm.sv (Mg.c (Opx.m (O i)))), .i .i64 (Cm.bt (Mg.c (Opx.m (O i)))),
  .i .i64 (Cm.sq (Mg.c (Opx.m (O i)))), .i .i64 (Cm.gn (Mg.c (Opx.m (O i)))), .i .i64 (Cm.lk (Mg.c (Opx.m (O i)))), .i .i64 (Cm.md (Mg.c (Opx.m (O i)))), .i .i64 (Cm.ot (Mg.c
  (Opx.m (O i)))), isv (Cm.mn (Mg.c (Opx.m (O i)))) (Cm.mf (Mg.c (Opx.m (O i)))), .i .i64 (Cm.d (Mg.c (Opx.m (O i)))), .i .i64 (Mb.x (Mg.v (Opx.m (O i))) 6), .i .i64 (Mb.x
  (Mg.v (Opx.m (O i))) 7), .i .i64 (Mb.x (Mg.v (Opx.m (O i))) 8), isv (Mb.mn (Mg.v (Opx.m (O i)))) (Mb.mf (Mg.v (Opx.m (O i)))), isv (Mb.sn (Mg.v (Opx.m (O i)))) (Mb.sf (Mg.v
  (Opx.m (O i)))), svN (Mb.hn (Mg.v (Opx.m (O i)))) (Mb.hA (Mg.v (Opx.m (O i)))) (Mb.hM (Mg.v (Opx.m (O i)))) (Mb.hW (Mg.v (Opx.m (O i)))), svN (Mb.dn (Mg.v (Opx.m (O i))))
  (Mb.dA (Mg.v (Opx.m (O i)))) (Mb.dM (Mg.v (Opx.m (O i)))) (Mb.dW (Mg.v (Opx.m (O i))))]) [] (Orc.cal [0] (.tup [.l0, .i .i64 e]) [.keep] (Orc.t (Orc.c (Orc.cal [0] (.tup
  [.agg [.i .i64 (Cm.k c2), .i .i64 (Cm.sv c2), .i .i64 (Cm.bt c2), .i .i64 (Cm.sq c2), .i .i64 (Cm.gn c2), .i .i64 (Cm.lk c2), .i .i64 (Cm.md c2), .i .i64 (Cm.ot c2), isv
  (Cm.mn c2) (Cm.mf c2), .i .i64 (Cm.d c2)], .b (Cl.o x)]) [.keep] (Orc.t (Orc.t (Orc.f (Orc.f (Orc.f (Orc.f (Orc.t (Orc.f (Orc.f (oc 2 (Orc.cal [0] (.i .i64 q) [.keep] (oc 2
  (Orc.t (Orc.t (Orc.cal [0] (.i .i64 q) [.keep] (Orc.t (Orc.f (Orc.f Orc.z))))))))))))))))))))))))))) .nrm [0] [(0, .i .i64 s), (1, .i .i64 b), (6, .b false), (7, .p 0 0), (9,
  .i .i64 x.n), (10, .i .i64 fi), (11, .b x.o), (47, .sv 27 n (oxF O)), (48, .i .i64 (Int.ofNat n)), (49, .i .i64 (Int.ofNat i + 1))] [some (clO x)] 3 (fun Lf => decide
  (Int.ofNat i < Int.ofNat n) = true ∧ (0 ≤ Int.ofNat i ∧ Int.ofNat i < ↑n) ∧ True ∧ decide (300 < Int.ofNat i) = false ∧ True ∧ decide (Opx.k (O i) = 1) = false ∧ decide
  (Opx.k (O i) = 2) = false ∧ True ∧ True ∧ Con Try.prog 17 [.agg [.i .i64 (Mg.k (Opx.m (O i))), .i .i64 (Mg.fr (Opx.m (O i))), .i .i64 (Mg.to (Opx.m (O i))), .i .i64 (Mg.bl
  (Opx.m (O i))), .i .i64 (Mg.sl (Opx.m (O i))), .i .i64 (Mg.ab (Opx.m (O i))), .s (Mg.av (Opx.m (O i))), .s (Mg.st (Opx.m (O i))), .i .i64 (Cm.k (Mg.c (Opx.m (O i)))), .i .i64
  (Cm.sv (Mg.c (Opx.m (O i)))), .i .i64 (Cm.bt (Mg.c (Opx.m (O i)))), .i .i64 (Cm.sq (Mg.c (Opx.m (O i)))), .i .i64 (Cm.gn (Mg.c (Opx.m (O i)))), .i .i64 (Cm.lk (Mg.c (Opx.m (O
  i)))), .i .i64 (Cm.md (Mg.c (Opx.m (O i)))), .i .i64 (Cm.ot (Mg.c (Opx.m (O i)))), isv (Cm.mn (Mg.c (Opx.m (O i)))) (Cm.mf (Mg.c (Opx.m (O i)))), .i .i64 (Cm.d (Mg.c (Opx.m
  (O i)))), .i .i64 (Mb.x (Mg.v (Opx.m (O i))) 6), .i .i64 (Mb.x (Mg.v (Opx.m (O i))) 7), .i .i64 (Mb.x (Mg.v (Opx.m (O i))) 8), isv (Mb.mn (Mg.v (Opx.m (O i)))) (Mb.mf (Mg.v
  (Opx.m (O i)))), isv (Mb.sn (Mg.v (Opx.m (O i)))) (Mb.sf (Mg.v (Opx.m (O i)))), svN (Mb.hn (Mg.v (Opx.m (O i)))) (Mb.hA (Mg.v (Opx.m (O i)))) (Mb.hM (Mg.v (Opx.m (O i))))
  (Mb.hW (Mg.v (Opx.m (O i)))), svN (Mb.dn (Mg.v (Opx.m (O i)))) (Mb.dA (Mg.v (Opx.m (O i)))) (Mb.dM (Mg.v (Opx.m (O i)))) (Mb.dW (Mg.v (Opx.m (O i))))]] [] (.agg [.i .i64
  (Mg.k (Opx.m (O i))), .i .i64 (Mg.fr (Opx.m (O i))), .i .i64 (Mg.to (Opx.m (O i))), .i .i64 (Mg.bl (Opx.m (O i))), .i .i64 (Mg.sl (Opx.m (O i))), .i .i64 (Mg.ab (Opx.m (O
  i))), .s (Mg.av (Opx.m (O i))), .s (Mg.st (Opx.m (O i))), .i .i64 (Cm.k (Mg.c (Opx.m (O i)))), .i .i64 (Cm.sv (Mg.c (Opx.m (O i)))), .i .i64 (Cm.bt (Mg.c (Opx.m (O i)))), .i
  .i64 (Cm.sq (Mg.c (Opx.m (O i)))), .i .i64 (Cm.gn (Mg.c (Opx.m (O i)))), .i .i64 (Cm.lk (Mg.c (Opx.m (O i)))), .i .i64 (Cm.md (Mg.c (Opx.m (O i)))), .i .i64 (Cm.ot (Mg.c
  (Opx.m (O i)))), isv (Cm.mn (Mg.c (Opx.m (O i)))) (Cm.mf (Mg.c (Opx.m (O i)))), .i .i64 (Cm.d (Mg.c (Opx.m (O i)))), .i .i64 (Mb.x (Mg.v (Opx.m (O i))) 6), .i .i64 (Mb.x
  (Mg.v (Opx.m (O i))) 7), .i .i64 (Mb.x (Mg.v (Opx.m (O i))) 8), isv (Mb.mn (Mg.v (Opx.m (O i)))) (Mb.mf (Mg.v (Opx.m (O i)))), isv (Mb.sn (Mg.v (Opx.m (O i)))) (Mb.sf (Mg.v
  (Opx.m (O i)))), svN (Mb.hn (Mg.v (Opx.m (O i)))) (Mb.hA (Mg.v (Opx.m (O i)))) (Mb.hM (Mg.v (Opx.m (O i)))) (Mb.hW (Mg.v (Opx.m (O i)))), svN (Mb.dn (Mg.v (Opx.m (O i))))
  (Mb.dA (Mg.v (Opx.m (O i)))) (Mb.dM (Mg.v (Opx.m (O i)))) (Mb.dW (Mg.v (Opx.m (O i))))]) [] ∧ Con Try.prog 9 [.p 0 0, .i .i64 (Opx.t (O i)), .agg [.i .i64 (Cm.k (Mg.c (Opx.m
  (O i)))), .i .i64 (Cm.sv (Mg.c (Opx.m (O i)))), .i .i64 (Cm.bt (Mg.c (Opx.m (O i)))), .i .i64 (Cm.sq (Mg.c (Opx.m (O i)))), .i .i64 (Cm.gn (Mg.c (Opx.m (O i)))), .i .i64
  (Cm.lk (Mg.c (Opx.m (O i)))), .i .i64 (Cm.md (Mg.c (Opx.m (O i)))), .i .i64 (Cm.ot (Mg.c (Opx.m (O i)))), isv (Cm.mn (Mg.c (Opx.m (O i)))) (Cm.mf (Mg.c (Opx.m (O i)))), .i
  .i64 (Cm.d (Mg.c (Opx.m (O i))))]] [some (clO x)] (.tup [.l0, .i .i64 e]) [.keep] ∧ (!decide (e = 0)) = true ∧ Con Try.prog 12 [.p 0 0] [some (clO x)] (.tup [.agg [.i .i64
  (Cm.k c2), .i .i64 (Cm.sv c2), .i .i64 (Cm.bt c2), .i .i64 (Cm.sq c2), .i .i64 (Cm.gn c2), .i .i64 (Cm.lk c2), .i .i64 (Cm.md c2), .i .i64 (Cm.ot c2), isv (Cm.mn c2) (Cm.mf
  c2), .i .i64 (Cm.d c2)], .b (Cl.o x)]) [.keep] ∧ True ∧ (!!Cl.o x == Cl.o x) = true ∧ (!!Cl.o x == Cl.o x) = true ∧ Cl.o x = false ∧ Cl.o x = false ∧ Cl.o x = false ∧ Cl.o x
  = false ∧ (!!Cl.o x == Cl.o x) = true ∧ Cl.o x = false ∧ (!Cl.o x == Cl.o x) = false ∧ Con Try.prog 14 [.p 0 0] [some (clO x)] (.i .i64 q) [.keep] ∧ (!decide (q < 0)) = true
  ∧ (!decide (q < 0)) = true ∧ Con Try.prog 14 [.p 0 0] [some (clO x)] (.i .i64 q) [.keep] ∧ (!decide (q < 0)) = true ∧ decide (q < 0) = false ∧ decide (2 < q) = false ∧ rg
  (Int.ofNat i + 1) ∧ Lf) := by unfold LD LQ; kernel_rfl
theorem b1_lq (x : Cl) (x2 : Cl) (m2 : Mg) (s : Int) (b : Int) (n : Nat) (O : Nat → Opx) (fi : Int) (c2 : Cm) (q : Int) (i : Nat) (h0 : decide (Int.ofNat i < Int.ofNat n) =
  true) (h1 : decide (300 < Int.ofNat i) = false) (k1 : decide ((O i).k = 1) = true) (hm : decide (m2.c.sq = x.n) = true) (ho : x.o = true) (ho2 : x2.o = true) (hoo : (x2.o ==
  x.o) = true) (hs : decide (c2.sq = x.n) = true) (q1 : decide (q < 0) = false) (q2 : decide (2 < q) = false) : LD Try.prog (loopAt Try.prog 5 0) 249 1 [(0, .i .i64 s), (1, .i
  .i64 b), (6, .b false), (7, .p 0 0), (9, .i .i64 x.n), (10, .i .i64 fi), (11, .b x.o), (47, .sv 27 n (oxF O)), (48, .i .i64 (Int.ofNat n)), (49, .i .i64 (Int.ofNat i))] [some
  (clO x)] (Orc.t (Orc.f (Orc.t (Orc.cal [0] (.tup [mg1 m2, .i .i64 0]) [.set (clO x2)] (oc 7 (Orc.t (Orc.t (Orc.t (Orc.c (Orc.f (oc 11 (Orc.t (Orc.t (Orc.t (Orc.t (Orc.t
  (Orc.cal [] (.b true) [] (Orc.t (Orc.c (Orc.f (oc 2 (Orc.cal [0] (.tup [.agg [.i .i64 (Cm.k c2), .i .i64 (Cm.sv c2), .i .i64 (Cm.bt c2), .i .i64 (Cm.sq c2), .i .i64 (Cm.gn
  c2), .i .i64 (Cm.lk c2), .i .i64 (Cm.md c2), .i .i64 (Cm.ot c2), isv (Cm.mn c2) (Cm.mf c2), .i .i64 (Cm.d c2)], .b (Cl.o x2)]) [.keep] (Orc.t (Orc.t (Orc.t (Orc.t (Orc.t
  (Orc.t (Orc.t (Orc.t (Orc.f (Orc.t (Orc.t (Orc.cal [0] (.i .i64 q) [.keep] (Orc.t (Orc.f (Orc.t (Orc.t (Orc.cal [0] (.i .i64 q) [.keep] (Orc.t (Orc.f (Orc.f
  Orc.z)))))))))))))))))))))))))))))))))))))))))) .nrm [0] [(0, .i .i64 s), (1, .i .i64 b), (6, .b false), (7, .p 0 0), (9, .i .i64 x.n), (10, .i .i64 fi), (11, .b x.o), (47,
  .sv 27 n (oxF O)), (48, .i .i64 (Int.ofNat n)), (49, .i .i64 (Int.ofNat i + 1))] [some (clO x2)] 3 (fun Lf => decide (Int.ofNat i < Int.ofNat n) = true ∧ (0 ≤ Int.ofNat i ∧
  Int.ofNat i < ↑n) ∧ True ∧ decide (300 < Int.ofNat i) = false ∧ True ∧ decide (Opx.k (O i) = 1) = true ∧ True ∧ Con Try.prog 10 [.p 0 0, .i .i64 (Opx.t (O i))] [some (clO x)]
  (.tup [mg1 m2, .i .i64 0]) [.set (clO x2)] ∧ True ∧ (!!Cl.o x) = true ∧ (!!Cl.o x) = true ∧ (!!Cl.o x) = true ∧ (!Cl.o x) = false ∧ ((0 : Int) ≤ (0 : Int) ∧ (0 : Int) < (1 :
  Int)) ∧ True ∧ True ∧ True ∧ (!!decide (Cm.sq (Mg.c m2) = Cl.n x)) = true ∧ (!!decide (Cm.sq (Mg.c m2) = Cl.n x)) = true ∧ ((0 : Int) ≤ (0 : Int) ∧ (0 : Int) < (1 : Int)) ∧
  (!!decide (Cm.sq (Mg.c m2) = Cl.n x)) = true ∧ True ∧ (!!decide (Cm.sq (Mg.c m2) = Cl.n x)) = true ∧ True ∧ (!!decide (Cm.sq (Mg.c m2) = Cl.n x)) = true ∧ Con Try.prog 23
  [.agg [.i .i64 (Cm.k (Mg.c m2)), .i .i64 (Cm.sv (Mg.c m2)), .i .i64 (Cm.bt (Mg.c m2)), .i .i64 (Cm.sq (Mg.c m2)), .i .i64 (Cm.gn (Mg.c m2)), .i .i64 (Cm.lk (Mg.c m2)), .i
  .i64 (Cm.md (Mg.c m2)), .i .i64 (Cm.ot (Mg.c m2)), isv (Cm.mn (Mg.c m2)) (Cm.mf (Mg.c m2)), .i .i64 (Cm.d (Mg.c m2))]] [] (.b true) [] ∧ (!!decide (Cm.sq (Mg.c m2) = Cl.n x))
  = true ∧ True ∧ (!decide (Cm.sq (Mg.c m2) = Cl.n x)) = false ∧ Con Try.prog 12 [.p 0 0] [some (clO x2)] (.tup [.agg [.i .i64 (Cm.k c2), .i .i64 (Cm.sv c2), .i .i64 (Cm.bt
  c2), .i .i64 (Cm.sq c2), .i .i64 (Cm.gn c2), .i .i64 (Cm.lk c2), .i .i64 (Cm.md c2), .i .i64 (Cm.ot c2), isv (Cm.mn c2) (Cm.mf c2), .i .i64 (Cm.d c2)], .b (Cl.o x2)]) [.keep]
  ∧ True ∧ (!!Cl.o x2 == Cl.o x) = true ∧ (!!Cl.o x2 == Cl.o x) = true ∧ Cl.o x = true ∧ True ∧ Cl.o x = true ∧ Cl.o x = true ∧ Cl.o x = true ∧ (!!Cl.o x2 == Cl.o x) = true ∧
  Cl.o x = true ∧ (!Cl.o x2 == Cl.o x) = false ∧ (!!decide (Cm.sq c2 = Cl.n x)) = true ∧ (!!decide (Cm.sq c2 = Cl.n x)) = true ∧ Con Try.prog 14 [.p 0 0] [some (clO x2)] (.i
  .i64 q) [.keep] ∧ (!!decide (Cm.sq c2 = Cl.n x)) = true ∧ (!decide (Cm.sq c2 = Cl.n x)) = false ∧ (!decide (q < 0)) = true ∧ (!decide (q < 0)) = true ∧ Con Try.prog 14 [.p 0
  0] [some (clO x2)] (.i .i64 q) [.keep] ∧ (!decide (q < 0)) = true ∧ decide (q < 0) = false ∧ decide (2 < q) = false ∧ rg (Int.ofNat i + 1) ∧ Lf)
  := by unfold LD LQ; kernel_rfl
theorem d1_lq (x : Cl) (x2 : Cl) (s : Int) (b : Int) (n : Nat) (O : Nat → Opx) (fi : Int) (c2 : Cm) (q : Int) (i : Nat) (h0 : decide (Int.ofNat i < Int.ofNat n) = true) (h1 :
  decide (300 < Int.ofNat i) = false) (k1 : decide ((O i).k = 1) = false) (k2 : decide ((O i).k = 2) = true) (hf : decide (x.f = fi) = true) (hq : decide ((O i).m.c.sq = x.n) =
  true) (hb : decide ((O i).m.c.bt = b) = true) (ho : x.o = true) (ho2 : x2.o = false) (q1 : decide (q < 0) = false) (q2 : decide (2 < q) = false) : LD Try.prog (loopAt
  Try.prog 5 0) 249 1 [(0, .i .i64 s), (1, .i .i64 b), (6, .b false), (7, .p 0 0), (9, .i .i64 x.n), (10, .i .i64 fi), (11, .b x.o), (47, .sv 27 n (oxF O)), (48, .i .i64
  (Int.ofNat n)), (49, .i .i64 (Int.ofNat i))] [some (clO x)] (Orc.t (Orc.f (Orc.f (Orc.t (Orc.cal [] (.agg [.i .i64 (Mg.k (Opx.m (O i))), .i .i64 (Mg.fr (Opx.m (O i))), .i
  .i64 (Mg.to (Opx.m (O i))), .i .i64 (Mg.bl (Opx.m (O i))), .i .i64 (Mg.sl (Opx.m (O i))), .i .i64 (Mg.ab (Opx.m (O i))), .s (Mg.av (Opx.m (O i))), .s (Mg.st (Opx.m (O i))),
  .i .i64 (Cm.k (Mg.c (Opx.m (O i)))), .i .i64 (Cm.sv (Mg.c (Opx.m (O i)))), .i .i64 (Cm.bt (Mg.c (Opx.m (O i)))), .i .i64 (Cm.sq (Mg.c (Opx.m (O i)))), .i .i64 (Cm.gn (Mg.c
  (Opx.m (O i)))), .i .i64 (Cm.lk (Mg.c (Opx.m (O i)))), .i .i64 (Cm.md (Mg.c (Opx.m (O i)))), .i .i64 (Cm.ot (Mg.c (Opx.m (O i)))), isv (Cm.mn (Mg.c (Opx.m (O i)))) (Cm.mf
  (Mg.c (Opx.m (O i)))), .i .i64 (Cm.d (Mg.c (Opx.m (O i)))), .i .i64 (Mb.x (Mg.v (Opx.m (O i))) 6), .i .i64 (Mb.x (Mg.v (Opx.m (O i))) 7), .i .i64 (Mb.x (Mg.v (Opx.m (O i)))
  8), isv (Mb.mn (Mg.v (Opx.m (O i)))) (Mb.mf (Mg.v (Opx.m (O i)))), isv (Mb.sn (Mg.v (Opx.m (O i)))) (Mb.sf (Mg.v (Opx.m (O i)))), svN (Mb.hn (Mg.v (Opx.m (O i)))) (Mb.hA
  (Mg.v (Opx.m (O i)))) (Mb.hM (Mg.v (Opx.m (O i)))) (Mb.hW (Mg.v (Opx.m (O i)))), svN (Mb.dn (Mg.v (Opx.m (O i)))) (Mb.dA (Mg.v (Opx.m (O i)))) (Mb.dM (Mg.v (Opx.m (O i))))
  (Mb.dW (Mg.v (Opx.m (O i))))]) [] (Orc.cal [0] (.tup [.agg (vwL (Mg.v (Opx.m (O i)))), .i .i64 (Cl.f x), .b true]) [.set (clO x2)] (Orc.cal [0] (.tup [.agg (vwL mb0), .i .i64
  0, .b false]) [.keep] (oc 5 (Orc.t (Orc.t (Orc.t (Orc.c (Orc.f (Orc.c (Orc.t (Orc.t (Orc.t (Orc.t (Orc.t (Orc.c (Orc.f (Orc.c (Orc.t (Orc.t (Orc.t (Orc.t (Orc.t (Orc.c (Orc.f
  (oc 3 (Orc.f (Orc.t (Orc.t (Orc.t (Orc.cal [0] (.tup [.agg [.i .i64 (Cm.k c2), .i .i64 (Cm.sv c2), .i .i64 (Cm.bt c2), .i .i64 (Cm.sq c2), .i .i64 (Cm.gn c2), .i .i64 (Cm.lk
  c2), .i .i64 (Cm.md c2), .i .i64 (Cm.ot c2), isv (Cm.mn c2) (Cm.mf c2), .i .i64 (Cm.d c2)], .b (Cl.o x2)]) [.keep] (Orc.t (Orc.t (oc 4 (Orc.t (Orc.c (Orc.f (oc 2 (Orc.cal [0]
  (.i .i64 q) [.keep] (oc 2 (Orc.t (Orc.t (Orc.cal [0] (.i .i64 q) [.keep] (Orc.t (Orc.f (Orc.f Orc.z)))))))))))))))))))))))))))))))))))))))))))))))))) .nrm [0] [(0, .i .i64
  s), (1, .i .i64 b), (6, .b false), (7, .p 0 0), (9, .i .i64 x.n), (10, .i .i64 fi), (11, .b false), (47, .sv 27 n (oxF O)), (48, .i .i64 (Int.ofNat n)), (49, .i .i64
  (Int.ofNat i + 1))] [some (clO x2)] 6 (fun Lf => decide (Int.ofNat i < Int.ofNat n) = true ∧ (0 ≤ Int.ofNat i ∧ Int.ofNat i < ↑n) ∧ True ∧ decide (300 < Int.ofNat i) = false
  ∧ True ∧ decide (Opx.k (O i) = 1) = false ∧ decide (Opx.k (O i) = 2) = true ∧ True ∧ Con Try.prog 17 [.agg [.i .i64 (Mg.k (Opx.m (O i))), .i .i64 (Mg.fr (Opx.m (O i))), .i
  .i64 (Mg.to (Opx.m (O i))), .i .i64 (Mg.bl (Opx.m (O i))), .i .i64 (Mg.sl (Opx.m (O i))), .i .i64 (Mg.ab (Opx.m (O i))), .s (Mg.av (Opx.m (O i))), .s (Mg.st (Opx.m (O i))),
  .i .i64 (Cm.k (Mg.c (Opx.m (O i)))), .i .i64 (Cm.sv (Mg.c (Opx.m (O i)))), .i .i64 (Cm.bt (Mg.c (Opx.m (O i)))), .i .i64 (Cm.sq (Mg.c (Opx.m (O i)))), .i .i64 (Cm.gn (Mg.c
  (Opx.m (O i)))), .i .i64 (Cm.lk (Mg.c (Opx.m (O i)))), .i .i64 (Cm.md (Mg.c (Opx.m (O i)))), .i .i64 (Cm.ot (Mg.c (Opx.m (O i)))), isv (Cm.mn (Mg.c (Opx.m (O i)))) (Cm.mf
  (Mg.c (Opx.m (O i)))), .i .i64 (Cm.d (Mg.c (Opx.m (O i)))), .i .i64 (Mb.x (Mg.v (Opx.m (O i))) 6), .i .i64 (Mb.x (Mg.v (Opx.m (O i))) 7), .i .i64 (Mb.x (Mg.v (Opx.m (O i)))
  8), isv (Mb.mn (Mg.v (Opx.m (O i)))) (Mb.mf (Mg.v (Opx.m (O i)))), isv (Mb.sn (Mg.v (Opx.m (O i)))) (Mb.sf (Mg.v (Opx.m (O i)))), svN (Mb.hn (Mg.v (Opx.m (O i)))) (Mb.hA
  (Mg.v (Opx.m (O i)))) (Mb.hM (Mg.v (Opx.m (O i)))) (Mb.hW (Mg.v (Opx.m (O i)))), svN (Mb.dn (Mg.v (Opx.m (O i)))) (Mb.dA (Mg.v (Opx.m (O i)))) (Mb.dM (Mg.v (Opx.m (O i))))
  (Mb.dW (Mg.v (Opx.m (O i))))]] [] (.agg [.i .i64 (Mg.k (Opx.m (O i))), .i .i64 (Mg.fr (Opx.m (O i))), .i .i64 (Mg.to (Opx.m (O i))), .i .i64 (Mg.bl (Opx.m (O i))), .i .i64
  (Mg.sl (Opx.m (O i))), .i .i64 (Mg.ab (Opx.m (O i))), .s (Mg.av (Opx.m (O i))), .s (Mg.st (Opx.m (O i))), .i .i64 (Cm.k (Mg.c (Opx.m (O i)))), .i .i64 (Cm.sv (Mg.c (Opx.m (O
  i)))), .i .i64 (Cm.bt (Mg.c (Opx.m (O i)))), .i .i64 (Cm.sq (Mg.c (Opx.m (O i)))), .i .i64 (Cm.gn (Mg.c (Opx.m (O i)))), .i .i64 (Cm.lk (Mg.c (Opx.m (O i)))), .i .i64 (Cm.md
  (Mg.c (Opx.m (O i)))), .i .i64 (Cm.ot (Mg.c (Opx.m (O i)))), isv (Cm.mn (Mg.c (Opx.m (O i)))) (Cm.mf (Mg.c (Opx.m (O i)))), .i .i64 (Cm.d (Mg.c (Opx.m (O i)))), .i .i64 (Mb.x
  (Mg.v (Opx.m (O i))) 6), .i .i64 (Mb.x (Mg.v (Opx.m (O i))) 7), .i .i64 (Mb.x (Mg.v (Opx.m (O i))) 8), isv (Mb.mn (Mg.v (Opx.m (O i)))) (Mb.mf (Mg.v (Opx.m (O i)))), isv
  (Mb.sn (Mg.v (Opx.m (O i)))) (Mb.sf (Mg.v (Opx.m (O i)))), svN (Mb.hn (Mg.v (Opx.m (O i)))) (Mb.hA (Mg.v (Opx.m (O i)))) (Mb.hM (Mg.v (Opx.m (O i)))) (Mb.hW (Mg.v (Opx.m (O
  i)))), svN (Mb.dn (Mg.v (Opx.m (O i)))) (Mb.dA (Mg.v (Opx.m (O i)))) (Mb.dM (Mg.v (Opx.m (O i)))) (Mb.dW (Mg.v (Opx.m (O i))))]) [] ∧ Con Try.prog 11 [.p 0 0, .agg [.i .i64
  (Mg.k (Opx.m (O i))), .i .i64 (Mg.fr (Opx.m (O i))), .i .i64 (Mg.to (Opx.m (O i))), .i .i64 (Mg.bl (Opx.m (O i))), .i .i64 (Mg.sl (Opx.m (O i))), .i .i64 (Mg.ab (Opx.m (O
  i))), .s (Mg.av (Opx.m (O i))), .s (Mg.st (Opx.m (O i))), .i .i64 (Cm.k (Mg.c (Opx.m (O i)))), .i .i64 (Cm.sv (Mg.c (Opx.m (O i)))), .i .i64 (Cm.bt (Mg.c (Opx.m (O i)))), .i
  .i64 (Cm.sq (Mg.c (Opx.m (O i)))), .i .i64 (Cm.gn (Mg.c (Opx.m (O i)))), .i .i64 (Cm.lk (Mg.c (Opx.m (O i)))), .i .i64 (Cm.md (Mg.c (Opx.m (O i)))), .i .i64 (Cm.ot (Mg.c
  (Opx.m (O i)))), isv (Cm.mn (Mg.c (Opx.m (O i)))) (Cm.mf (Mg.c (Opx.m (O i)))), .i .i64 (Cm.d (Mg.c (Opx.m (O i)))), .i .i64 (Mb.x (Mg.v (Opx.m (O i))) 6), .i .i64 (Mb.x
  (Mg.v (Opx.m (O i))) 7), .i .i64 (Mb.x (Mg.v (Opx.m (O i))) 8), isv (Mb.mn (Mg.v (Opx.m (O i)))) (Mb.mf (Mg.v (Opx.m (O i)))), isv (Mb.sn (Mg.v (Opx.m (O i)))) (Mb.sf (Mg.v
  (Opx.m (O i)))), svN (Mb.hn (Mg.v (Opx.m (O i)))) (Mb.hA (Mg.v (Opx.m (O i)))) (Mb.hM (Mg.v (Opx.m (O i)))) (Mb.hW (Mg.v (Opx.m (O i)))), svN (Mb.dn (Mg.v (Opx.m (O i))))
  (Mb.dA (Mg.v (Opx.m (O i)))) (Mb.dM (Mg.v (Opx.m (O i)))) (Mb.dW (Mg.v (Opx.m (O i))))]] [some (clO x)] (.tup [.agg (vwL (Mg.v (Opx.m (O i)))), .i .i64 (Cl.f x), .b true])
  [.set (clO x2)] ∧ Con Try.prog 11 [.p 0 0, .agg [.i .i64 (Mg.k (Opx.m (O i))), .i .i64 (Mg.fr (Opx.m (O i))), .i .i64 (Mg.to (Opx.m (O i))), .i .i64 (Mg.bl (Opx.m (O i))), .i
  .i64 (Mg.sl (Opx.m (O i))), .i .i64 (Mg.ab (Opx.m (O i))), .s (Mg.av (Opx.m (O i))), .s (Mg.st (Opx.m (O i))), .i .i64 (Cm.k (Mg.c (Opx.m (O i)))), .i .i64 (Cm.sv (Mg.c
  (Opx.m (O i)))), .i .i64 (Cm.bt (Mg.c (Opx.m (O i)))), .i .i64 (Cm.sq (Mg.c (Opx.m (O i)))), .i .i64 (Cm.gn (Mg.c (Opx.m (O i)))), .i .i64 (Cm.lk (Mg.c (Opx.m (O i)))), .i
  .i64 (Cm.md (Mg.c (Opx.m (O i)))), .i .i64 (Cm.ot (Mg.c (Opx.m (O i)))), isv (Cm.mn (Mg.c (Opx.m (O i)))) (Cm.mf (Mg.c (Opx.m (O i)))), .i .i64 (Cm.d (Mg.c (Opx.m (O i)))),
  .i .i64 (Mb.x (Mg.v (Opx.m (O i))) 6), .i .i64 (Mb.x (Mg.v (Opx.m (O i))) 7), .i .i64 (Mb.x (Mg.v (Opx.m (O i))) 8), isv (Mb.mn (Mg.v (Opx.m (O i)))) (Mb.mf (Mg.v (Opx.m (O
  i)))), isv (Mb.sn (Mg.v (Opx.m (O i)))) (Mb.sf (Mg.v (Opx.m (O i)))), svN (Mb.hn (Mg.v (Opx.m (O i)))) (Mb.hA (Mg.v (Opx.m (O i)))) (Mb.hM (Mg.v (Opx.m (O i)))) (Mb.hW (Mg.v
  (Opx.m (O i)))), svN (Mb.dn (Mg.v (Opx.m (O i)))) (Mb.dA (Mg.v (Opx.m (O i)))) (Mb.dM (Mg.v (Opx.m (O i)))) (Mb.dW (Mg.v (Opx.m (O i))))]] [some (clO x2)] (.tup [.agg (vwL
  mb0), .i .i64 0, .b false]) [.keep] ∧ True ∧ (!!Cl.o x) = true ∧ (!!Cl.o x) = true ∧ (!!Cl.o x) = true ∧ (!Cl.o x) = false ∧ (!!decide (Cl.f x = fi)) = true ∧ True ∧
  (!!decide (Cl.f x = fi)) = true ∧ True ∧ (!!decide (Cl.f x = fi)) = true ∧ (!!decide (Cl.f x = fi)) = true ∧ (!!decide (Cl.f x = fi)) = true ∧ (!decide (Cl.f x = fi)) = false
  ∧ (!!decide (Cm.sq (Mg.c (Opx.m (O i))) = Cl.n x)) = true ∧ True ∧ (!!decide (Cm.sq (Mg.c (Opx.m (O i))) = Cl.n x)) = true ∧ True ∧ (!!decide (Cm.sq (Mg.c (Opx.m (O i))) =
  Cl.n x)) = true ∧ (!!decide (Cm.sq (Mg.c (Opx.m (O i))) = Cl.n x)) = true ∧ (!!decide (Cm.sq (Mg.c (Opx.m (O i))) = Cl.n x)) = true ∧ (!decide (Cm.sq (Mg.c (Opx.m (O i))) =
  Cl.n x)) = false ∧ (!decide (Cm.bt (Mg.c (Opx.m (O i))) = b)) = false ∧ Cl.o x = true ∧ Cl.o x = true ∧ True ∧ Cl.o x = true ∧ Con Try.prog 12 [.p 0 0] [some (clO x2)] (.tup
  [.agg [.i .i64 (Cm.k c2), .i .i64 (Cm.sv c2), .i .i64 (Cm.bt c2), .i .i64 (Cm.sq c2), .i .i64 (Cm.gn c2), .i .i64 (Cm.lk c2), .i .i64 (Cm.md c2), .i .i64 (Cm.ot c2), isv
  (Cm.mn c2) (Cm.mf c2), .i .i64 (Cm.d c2)], .b (Cl.o x2)]) [.keep] ∧ True ∧ (!!Cl.o x2 == false) = true ∧ (!!Cl.o x2 == false) = true ∧ (!!Cl.o x2 == false) = true ∧ (!Cl.o x2
  == false) = false ∧ Con Try.prog 14 [.p 0 0] [some (clO x2)] (.i .i64 q) [.keep] ∧ (!decide (q < 0)) = true ∧ (!decide (q < 0)) = true ∧ Con Try.prog 14 [.p 0 0] [some (clO
  x2)] (.i .i64 q) [.keep] ∧ (!decide (q < 0)) = true ∧ decide (q < 0) = false ∧ decide (2 < q) = false ∧ rg (Int.ofNat i + 1) ∧ Lf) := by unfold LD LQ; kernel_rfl
theorem f1_lq (x : Cl) (x2 : Cl) (m2 : Mg) (s : Int) (b : Int) (n : Nat) (O : Nat → Opx) (fi : Int) (c2 : Cm) (q : Int) (i : Nat) (h0 : decide (Int.ofNat i < Int.ofNat n) =
  true) (h1 : decide (300 < Int.ofNat i) = false) (k1 : decide ((O i).k = 1) = false) (k2 : decide ((O i).k = 2) = false) (hk : decide (m2.k = 8) = true) (hq : decide (m2.c.sq
  = x.n + 1) = true) (hb : decide (m2.c.bt = b) = true) (hv : decide (m2.c.sv = s) = true) (hf : decide (m2.fr = 8 + s) = true) (ho : x.o = false) (ho2 : x2.o = true) (hs :
  decide (c2.sq = x.n + 1) = true) (q1 : decide (q < 0) = false) (q2 : decide (2 < q) = false) : LD Try.prog (loopAt Try.prog 5 0) 249 1 [(0, .i .i64 s), (1, .i .i64 b), (6, .b
  false), (7, .p 0 0), (9, .i .i64 x.n), (10, .i .i64 fi), (11, .b x.o), (47, .sv 27 n (oxF O)), (48, .i .i64 (Int.ofNat n)), (49, .i .i64 (Int.ofNat i))] [some (clO x)] (Orc.t
  (Orc.f (Orc.f (Orc.f (Orc.cal [] (.agg [.i .i64 (Mg.k (Opx.m (O i))), .i .i64 (Mg.fr (Opx.m (O i))), .i .i64 (Mg.to (Opx.m (O i))), .i .i64 (Mg.bl (Opx.m (O i))), .i .i64
  (Mg.sl (Opx.m (O i))), .i .i64 (Mg.ab (Opx.m (O i))), .s (Mg.av (Opx.m (O i))), .s (Mg.st (Opx.m (O i))), .i .i64 (Cm.k (Mg.c (Opx.m (O i)))), .i .i64 (Cm.sv (Mg.c (Opx.m (O
  i)))), .i .i64 (Cm.bt (Mg.c (Opx.m (O i)))), .i .i64 (Cm.sq (Mg.c (Opx.m (O i)))), .i .i64 (Cm.gn (Mg.c (Opx.m (O i)))), .i .i64 (Cm.lk (Mg.c (Opx.m (O i)))), .i .i64 (Cm.md
  (Mg.c (Opx.m (O i)))), .i .i64 (Cm.ot (Mg.c (Opx.m (O i)))), isv (Cm.mn (Mg.c (Opx.m (O i)))) (Cm.mf (Mg.c (Opx.m (O i)))), .i .i64 (Cm.d (Mg.c (Opx.m (O i)))), .i .i64 (Mb.x
  (Mg.v (Opx.m (O i))) 6), .i .i64 (Mb.x (Mg.v (Opx.m (O i))) 7), .i .i64 (Mb.x (Mg.v (Opx.m (O i))) 8), isv (Mb.mn (Mg.v (Opx.m (O i)))) (Mb.mf (Mg.v (Opx.m (O i)))), isv
  (Mb.sn (Mg.v (Opx.m (O i)))) (Mb.sf (Mg.v (Opx.m (O i)))), svN (Mb.hn (Mg.v (Opx.m (O i)))) (Mb.hA (Mg.v (Opx.m (O i)))) (Mb.hM (Mg.v (Opx.m (O i)))) (Mb.hW (Mg.v (Opx.m (O
  i)))), svN (Mb.dn (Mg.v (Opx.m (O i)))) (Mb.dA (Mg.v (Opx.m (O i)))) (Mb.dM (Mg.v (Opx.m (O i)))) (Mb.dW (Mg.v (Opx.m (O i))))]) [] (Orc.cal [0] (.tup [mg1 m2, .i .i64 0])
  [.set (clO x2)] (Orc.c (Orc.t (Orc.t (Orc.t (Orc.f (oc 6 (Orc.t (Orc.t (Orc.t (Orc.t (Orc.t (Orc.t (Orc.t (Orc.t (Orc.f (Orc.t (Orc.t (Orc.t (Orc.t (Orc.t (Orc.t (Orc.t
  (Orc.f (Orc.t (Orc.t (Orc.t (Orc.t (Orc.t (Orc.t (Orc.t (Orc.f (Orc.t (Orc.t (Orc.t (Orc.t (Orc.t (Orc.t (Orc.t (Orc.f (Orc.f (Orc.cal [0] (.tup [.agg [.i .i64 (Cm.k c2), .i
  .i64 (Cm.sv c2), .i .i64 (Cm.bt c2), .i .i64 (Cm.sq c2), .i .i64 (Cm.gn c2), .i .i64 (Cm.lk c2), .i .i64 (Cm.md c2), .i .i64 (Cm.ot c2), isv (Cm.mn c2) (Cm.mf c2), .i .i64
  (Cm.d c2)], .b (Cl.o x2)]) [.keep] (Orc.t (Orc.t (oc 4 (Orc.t (Orc.c (Orc.f (Orc.t (Orc.t (Orc.cal [0] (.i .i64 q) [.keep] (Orc.t (Orc.f (Orc.t (Orc.t (Orc.cal [0] (.i .i64
  q) [.keep] (Orc.t (Orc.f (Orc.f Orc.z)))))))))))))))))))))))))))))))))))))))))))))))))))))))))))))))) .nrm [0] [(0, .i .i64 s), (1, .i .i64 b), (6, .b false), (7, .p 0 0),
  (9, .i .i64 (x.n + 1)), (10, .i .i64 (O i).t), (11, .b true), (47, .sv 27 n (oxF O)), (48, .i .i64 (Int.ofNat n)), (49, .i .i64 (Int.ofNat i + 1))] [some (clO x2)] 3 (fun Lf
  => decide (Int.ofNat i < Int.ofNat n) = true ∧ (0 ≤ Int.ofNat i ∧ Int.ofNat i < ↑n) ∧ True ∧ decide (300 < Int.ofNat i) = false ∧ True ∧ decide (Opx.k (O i) = 1) = false ∧
  decide (Opx.k (O i) = 2) = false ∧ True ∧ True ∧ Con Try.prog 17 [.agg [.i .i64 (Mg.k (Opx.m (O i))), .i .i64 (Mg.fr (Opx.m (O i))), .i .i64 (Mg.to (Opx.m (O i))), .i .i64
  (Mg.bl (Opx.m (O i))), .i .i64 (Mg.sl (Opx.m (O i))), .i .i64 (Mg.ab (Opx.m (O i))), .s (Mg.av (Opx.m (O i))), .s (Mg.st (Opx.m (O i))), .i .i64 (Cm.k (Mg.c (Opx.m (O i)))),
  .i .i64 (Cm.sv (Mg.c (Opx.m (O i)))), .i .i64 (Cm.bt (Mg.c (Opx.m (O i)))), .i .i64 (Cm.sq (Mg.c (Opx.m (O i)))), .i .i64 (Cm.gn (Mg.c (Opx.m (O i)))), .i .i64 (Cm.lk (Mg.c
  (Opx.m (O i)))), .i .i64 (Cm.md (Mg.c (Opx.m (O i)))), .i .i64 (Cm.ot (Mg.c (Opx.m (O i)))), isv (Cm.mn (Mg.c (Opx.m (O i)))) (Cm.mf (Mg.c (Opx.m (O i)))), .i .i64 (Cm.d
  (Mg.c (Opx.m (O i)))), .i .i64 (Mb.x (Mg.v (Opx.m (O i))) 6), .i .i64 (Mb.x (Mg.v (Opx.m (O i))) 7), .i .i64 (Mb.x (Mg.v (Opx.m (O i))) 8), isv (Mb.mn (Mg.v (Opx.m (O i))))
  (Mb.mf (Mg.v (Opx.m (O i)))), isv (Mb.sn (Mg.v (Opx.m (O i)))) (Mb.sf (Mg.v (Opx.m (O i)))), svN (Mb.hn (Mg.v (Opx.m (O i)))) (Mb.hA (Mg.v (Opx.m (O i)))) (Mb.hM (Mg.v (Opx.m
  (O i)))) (Mb.hW (Mg.v (Opx.m (O i)))), svN (Mb.dn (Mg.v (Opx.m (O i)))) (Mb.dA (Mg.v (Opx.m (O i)))) (Mb.dM (Mg.v (Opx.m (O i)))) (Mb.dW (Mg.v (Opx.m (O i))))]] [] (.agg [.i
  .i64 (Mg.k (Opx.m (O i))), .i .i64 (Mg.fr (Opx.m (O i))), .i .i64 (Mg.to (Opx.m (O i))), .i .i64 (Mg.bl (Opx.m (O i))), .i .i64 (Mg.sl (Opx.m (O i))), .i .i64 (Mg.ab (Opx.m
  (O i))), .s (Mg.av (Opx.m (O i))), .s (Mg.st (Opx.m (O i))), .i .i64 (Cm.k (Mg.c (Opx.m (O i)))), .i .i64 (Cm.sv (Mg.c (Opx.m (O i)))), .i .i64 (Cm.bt (Mg.c (Opx.m (O i)))),
  .i .i64 (Cm.sq (Mg.c (Opx.m (O i)))), .i .i64 (Cm.gn (Mg.c (Opx.m (O i)))), .i .i64 (Cm.lk (Mg.c (Opx.m (O i)))), .i .i64 (Cm.md (Mg.c (Opx.m (O i)))), .i .i64 (Cm.ot (Mg.c
  (Opx.m (O i)))), isv (Cm.mn (Mg.c (Opx.m (O i)))) (Cm.mf (Mg.c (Opx.m (O i)))), .i .i64 (Cm.d (Mg.c (Opx.m (O i)))), .i .i64 (Mb.x (Mg.v (Opx.m (O i))) 6), .i .i64 (Mb.x
  (Mg.v (Opx.m (O i))) 7), .i .i64 (Mb.x (Mg.v (Opx.m (O i))) 8), isv (Mb.mn (Mg.v (Opx.m (O i)))) (Mb.mf (Mg.v (Opx.m (O i)))), isv (Mb.sn (Mg.v (Opx.m (O i)))) (Mb.sf (Mg.v
  (Opx.m (O i)))), svN (Mb.hn (Mg.v (Opx.m (O i)))) (Mb.hA (Mg.v (Opx.m (O i)))) (Mb.hM (Mg.v (Opx.m (O i)))) (Mb.hW (Mg.v (Opx.m (O i)))), svN (Mb.dn (Mg.v (Opx.m (O i))))
  (Mb.dA (Mg.v (Opx.m (O i)))) (Mb.dM (Mg.v (Opx.m (O i)))) (Mb.dW (Mg.v (Opx.m (O i))))]) [] ∧ Con Try.prog 9 [.p 0 0, .i .i64 (Opx.t (O i)), .agg [.i .i64 (Cm.k (Mg.c (Opx.m
  (O i)))), .i .i64 (Cm.sv (Mg.c (Opx.m (O i)))), .i .i64 (Cm.bt (Mg.c (Opx.m (O i)))), .i .i64 (Cm.sq (Mg.c (Opx.m (O i)))), .i .i64 (Cm.gn (Mg.c (Opx.m (O i)))), .i .i64
  (Cm.lk (Mg.c (Opx.m (O i)))), .i .i64 (Cm.md (Mg.c (Opx.m (O i)))), .i .i64 (Cm.ot (Mg.c (Opx.m (O i)))), isv (Cm.mn (Mg.c (Opx.m (O i)))) (Cm.mf (Mg.c (Opx.m (O i)))), .i
  .i64 (Cm.d (Mg.c (Opx.m (O i))))]] [some (clO x)] (.tup [mg1 m2, .i .i64 0]) [.set (clO x2)] ∧ (!Cl.o x) = true ∧ (!Cl.o x) = true ∧ (!Cl.o x) = true ∧ Cl.o x = false ∧ ((0 :
  Int) ≤ (0 : Int) ∧ (0 : Int) < (1 : Int)) ∧ True ∧ True ∧ (!!decide (Mg.k m2 = 8)) = true ∧ (!!decide (Mg.k m2 = 8)) = true ∧ ((0 : Int) ≤ (0 : Int) ∧ (0 : Int) < (1 : Int))
  ∧ (!!decide (Mg.k m2 = 8)) = true ∧ True ∧ (!!decide (Mg.k m2 = 8)) = true ∧ True ∧ (!!decide (Mg.k m2 = 8)) = true ∧ True ∧ (!!decide (Mg.k m2 = 8)) = true ∧ (!!decide (Mg.k
  m2 = 8)) = true ∧ rg (Cl.n x + 1) ∧ (!!decide (Mg.k m2 = 8)) = true ∧ (!decide (Mg.k m2 = 8)) = false ∧ (!!decide (Cm.sq (Mg.c m2) = Cl.n x + 1)) = true ∧ (!!decide (Cm.sq
  (Mg.c m2) = Cl.n x + 1)) = true ∧ ((0 : Int) ≤ (0 : Int) ∧ (0 : Int) < (1 : Int)) ∧ (!!decide (Cm.sq (Mg.c m2) = Cl.n x + 1)) = true ∧ True ∧ (!!decide (Cm.sq (Mg.c m2) =
  Cl.n x + 1)) = true ∧ True ∧ (!!decide (Cm.sq (Mg.c m2) = Cl.n x + 1)) = true ∧ True ∧ (!!decide (Cm.sq (Mg.c m2) = Cl.n x + 1)) = true ∧ (!!decide (Cm.sq (Mg.c m2) = Cl.n x
  + 1)) = true ∧ (!decide (Cm.sq (Mg.c m2) = Cl.n x + 1)) = false ∧ (!!decide (Cm.bt (Mg.c m2) = b)) = true ∧ (!!decide (Cm.bt (Mg.c m2) = b)) = true ∧ ((0 : Int) ≤ (0 : Int) ∧
  (0 : Int) < (1 : Int)) ∧ (!!decide (Cm.bt (Mg.c m2) = b)) = true ∧ True ∧ (!!decide (Cm.bt (Mg.c m2) = b)) = true ∧ True ∧ (!!decide (Cm.bt (Mg.c m2) = b)) = true ∧ True ∧
  (!!decide (Cm.bt (Mg.c m2) = b)) = true ∧ (!!decide (Cm.bt (Mg.c m2) = b)) = true ∧ (!decide (Cm.bt (Mg.c m2) = b)) = false ∧ (!!decide (Cm.sv (Mg.c m2) = s)) = true ∧
  (!!decide (Cm.sv (Mg.c m2) = s)) = true ∧ ((0 : Int) ≤ (0 : Int) ∧ (0 : Int) < (1 : Int)) ∧ (!!decide (Cm.sv (Mg.c m2) = s)) = true ∧ True ∧ (!!decide (Cm.sv (Mg.c m2) = s))
  = true ∧ True ∧ (!!decide (Cm.sv (Mg.c m2) = s)) = true ∧ (!!decide (Cm.sv (Mg.c m2) = s)) = true ∧ rg (8 + s) ∧ (!!decide (Cm.sv (Mg.c m2) = s)) = true ∧ (!decide (Cm.sv
  (Mg.c m2) = s)) = false ∧ (!decide (Mg.fr m2 = 8 + s)) = false ∧ rg (Cl.n x + 1) ∧ True ∧ Con Try.prog 12 [.p 0 0] [some (clO x2)] (.tup [.agg [.i .i64 (Cm.k c2), .i .i64
  (Cm.sv c2), .i .i64 (Cm.bt c2), .i .i64 (Cm.sq c2), .i .i64 (Cm.gn c2), .i .i64 (Cm.lk c2), .i .i64 (Cm.md c2), .i .i64 (Cm.ot c2), isv (Cm.mn c2) (Cm.mf c2), .i .i64 (Cm.d
  c2)], .b (Cl.o x2)]) [.keep] ∧ True ∧ (!!Cl.o x2 == true) = true ∧ (!!Cl.o x2 == true) = true ∧ True ∧ (!!Cl.o x2 == true) = true ∧ (!Cl.o x2 == true) = false ∧ (!!decide
  (Cm.sq c2 = Cl.n x + 1)) = true ∧ (!!decide (Cm.sq c2 = Cl.n x + 1)) = true ∧ Con Try.prog 14 [.p 0 0] [some (clO x2)] (.i .i64 q) [.keep] ∧ (!!decide (Cm.sq c2 = Cl.n x +
  1)) = true ∧ (!decide (Cm.sq c2 = Cl.n x + 1)) = false ∧ (!decide (q < 0)) = true ∧ (!decide (q < 0)) = true ∧ Con Try.prog 14 [.p 0 0] [some (clO x2)] (.i .i64 q) [.keep] ∧
  (!decide (q < 0)) = true ∧ decide (q < 0) = false ∧ decide (2 < q) = false ∧ rg (Int.ofNat i + 1) ∧ Lf) := by unfold LD LQ; kernel_rfl
theorem oB_lq (x : Cl) (s : Int) (b : Int) (n : Nat) (O : Nat → Opx) (fi : Int) (i : Nat) (h0 : decide (Int.ofNat i < Int.ofNat n) = true) (h1 : decide (300 < Int.ofNat i) =
  true) : LD Try.prog (loopAt Try.prog 5 0) 249 1 [(0, .i .i64 s), (1, .i .i64 b), (6, .b false), (7, .p 0 0), (9, .i .i64 x.n), (10, .i .i64 fi), (11, .b x.o), (47, .sv 27 n
  (oxF O)), (48, .i .i64 (Int.ofNat n)), (49, .i .i64 (Int.ofNat i))] [some (clO x)] (Orc.t (Orc.t Orc.z)) (.exit 0) [0] [] [some (clO x)] 2 (fun Lf => decide (Int.ofNat i <
  Int.ofNat n) = true ∧ (0 ≤ Int.ofNat i ∧ Int.ofNat i < ↑n) ∧ True ∧ decide (300 < Int.ofNat i) = true ∧ Lf) := by unfold LD LQ; kernel_rfl
theorem oE_lq (x : Cl) (s : Int) (b : Int) (n : Nat) (O : Nat → Opx) (fi : Int) (i : Nat) (h0 : decide (Int.ofNat i < Int.ofNat n) = false) : LD Try.prog (loopAt Try.prog 5 0)
  249 1 [(0, .i .i64 s), (1, .i .i64 b), (6, .b false), (7, .p 0 0), (9, .i .i64 x.n), (10, .i .i64 fi), (11, .b x.o), (47, .sv 27 n (oxF O)), (48, .i .i64 (Int.ofNat n)), (49,
  .i .i64 (Int.ofNat i))] [some (clO x)] (Orc.f Orc.z) (.exit 0) [0] [] [some (clO x)] 1 (fun Lf => decide (Int.ofNat i < Int.ofNat n) = false ∧ Lf)
  := by unfold LD LQ; kernel_rfl
theorem o0_vq (s : Int) (b : Int) (n : Nat) (O : Nat → Opx) : VD Try.prog 5 [.i .i64 s, .i .i64 b, .sv 27 n (oxF O)] [] (Orc.cal [] (.b true) [] (Orc.c (Orc.cal [] (.tup [.p0,
  .i .i64 2]) [] (oc 7 Orc.z)))) (.b true) [] [] 0 (fun Lf => Con Try.prog 13 [] [] (.b true) [] ∧ True ∧ Con Try.prog 8 [.i .i64 s, .i .i64 b, .i .i64 3] [] (.tup [.p0, .i
  .i64 2]) [] ∧ True ∧ Lf) := by unfold VD VQ; kernel_rfl
theorem o1_vq (x0 : Cl) (s : Int) (b : Int) (n : Nat) (O : Nat → Opx) : VD Try.prog 5 [.i .i64 s, .i .i64 b, .sv 27 n (oxF O)] [] (Orc.cal [] (.b true) [] (Orc.c (Orc.cal []
  (.tup [.p 0 0, .i .i64 0]) [.set (clO x0)] (oc 4 (Orc.lop [0] [0, 1, 6, 7, 9, 10, 11, 47, 48, 49] 1 (XO.exit 0) [] [none] Orc.z))))) (.b true) [] [] 1 (fun Lf => Con Try.prog
  13 [] [] (.b true) [] ∧ True ∧ Con Try.prog 8 [.i .i64 s, .i .i64 b, .i .i64 3] [] (.tup [.p 0 0, .i .i64 0]) [.set (clO x0)] ∧ True ∧ LDoes Try.prog (loopAt Try.prog 5 0)
  249 1 (mkT [(0, .i .i64 s), (1, .i .i64 b), (6, .b false), (7, .p 0 0), (9, .i .i64 0), (10, .i .i64 0), (11, .b false), (47, .sv 27 n (oxF O)), (48, .i .i64 (Int.ofNat n)),
  (49, .i .i64 0)]) [some (clO x0)] (XO.exit 0) (mkT []) [none] ∧ Lf) := by unfold VD VQ; kernel_rfl
structure OI (s b : Int) (x : Cl) : Prop where
  s0 : 0 ≤ s
  s2 : s ≤ 2
  xs : x.s = s
  xb : x.b = b
  xp : x.p = 3
  q0 : 0 ≤ x.q
  q2 : x.q ≤ 2
  n0 : 0 ≤ x.n
  n1 : x.n ≤ 1099511627776
  l0 : 0 ≤ x.l
  l1 : x.l ≤ 4503599627370496
  mn : x.c.mn ≤ 17592186044416
  sv : x.o = true → x.c.sv = s
  bt : x.o = true → x.c.bt = b
  sq : x.o = true → x.c.sq = x.n
  vc : x.o = true → vcB x.c = true
theorem fE_b {t : Int} (h : fE t = 0) : 0 ≤ t ∧ t ≤ 4503599627370496 := by
  unfold fE at h
  cases hw : wi t 0 4503599627370496 with
  | false => rw [hw] at h; exact absurd h (by decide)
  | true => unfold wi at hw; simpa using hw
theorem OI.tend {s b : Int} {x : Cl} (h : OI s b x) {t : Int} (hb : tdB x t = true) : OI s b (tdS x t) := by
  unfold tdB at hb
  simp only [Bool.and_eq_true, decide_eq_true_eq] at hb
  have hf := fE_b hb.1
  have nb := nq_b h.q0 (by rw [h.xp]; have := h.q2; omega)
  rw [h.xp] at nb
  exact ⟨h.s0, h.s2, h.xs, h.xb, h.xp, nb.1, (by show nqI x ≤ 2; omega), h.n0, h.n1, hf.1, hf.2, h.mn, h.sv, h.bt, h.sq, h.vc⟩
theorem OI.take {s b : Int} {x : Cl} (h : OI s b x) {m : Mg} (hb : tkB x m = true) : OI s b (tkS x m) := by
  unfold tkB mcB at hb
  simp only [Bool.and_eq_true] at hb
  have hf := hb.2.1.2.2
  unfold wi at hf
  simp only [Bool.and_eq_true, decide_eq_true_eq] at hf
  rw [h.xp] at hf
  exact ⟨h.s0, h.s2, h.xs, h.xb, h.xp, hf.1, (by show m.fr ≤ 2; omega), h.n0, h.n1, Int.le_refl 0, (by show (0 : Int) ≤ 4503599627370496; decide), (by show (0 : Nat) ≤ 17592186044416; decide), (fun q => by cases q), (fun q => by cases q), (fun q => by cases q), (fun q => by cases q)⟩
theorem OI.ask {s b : Int} {x : Cl} (h : OI s b x) {t : Int} {c : Cm} (hm : c.mn ≤ 17592186044416) (hb : decide (akE x t c = 0) = true) : OI s b (akS x t c) := by
  obtain ⟨e, hn, hv, ho⟩ := akE0 hb
  have hf := fE_b e
  have hn := of_decide_eq_false hn
  unfold maB at hv
  simp only [Bool.and_eq_true] at hv
  have := h.n0
  exact ⟨h.s0, h.s2, h.xs, h.xb, h.xp, h.q0, h.q2, (by show 0 ≤ x.n + 1; omega), (by show x.n + 1 ≤ 1099511627776; omega), hf.1, hf.2, hm, fun _ => h.xs, fun _ => h.xb, fun _ => rfl, fun _ => hv.1⟩
theorem noneC_ov (o : Option AObj) : OV o none := .x fun x' h => by cases h
structure Od where
  x : Cl
  fi : Int
  i : Nat
def okO (O : Nat → Opx) : Prop := ∀ i, (O i).m.c.mn ≤ 17592186044416 ∧ okB (O i).m.v
theorem once_lp (s b : Int) (O : Nat → Opx) (n : Nat) (hn : n ≤ 1152921504606846976) (hO : okO O) (x0 : Cl) (h0 : OI s b x0) (fi0 : Int) (hf0 : x0.o = true → fi0 = x0.f) :
    LDoes Try.prog (loopAt Try.prog 5 0) 249 1 (mkT (onT s b O n x0.n fi0 x0.o 0)) [some (clO x0)] (.exit 0) (mkT []) [none] := by
  refine loop_q (fun d : Od => (onT s b O n d.x.n d.fi d.x.o (Int.ofNat d.i), [some (clO d.x)])) (fun d => n - d.i) (fun d => d.i ≤ n ∧ OI s b d.x ∧ (d.x.o = true → d.fi = d.x.f)) (fun _ => Nat.le_refl _) ?_ ⟨x0, fi0, 0⟩ ⟨Nat.zero_le _, h0, hf0⟩
  rintro ⟨x, fi, i⟩ ⟨hi, I, hfi⟩
  dsimp only at hi I hfi
  by_cases hlt : i < n
  · have h0 : decide (Int.ofNat i < Int.ofNat n) = true := decide_eq_true (by simp; omega)
    have bi : (0 : Int) ≤ Int.ofNat i ∧ Int.ofNat i < (↑n : Int) := ⟨by simp, by simp; omega⟩
    by_cases hb : 300 < i
    · have h1 : decide ((300 : Int) < Int.ofNat i) = true := decide_eq_true (by simp; omega)
      exact rd_out (oB_lq x s b n O fi i h0 h1) (by repeat' first | exact trivial | assumption | exact rfl | apply And.intro) rfl rfl (.refl _) ⟨noneC_ov _, trivial⟩
    · have h1 : decide ((300 : Int) < Int.ofNat i) = false := decide_eq_false (by simp; omega)
      have ri : rg (Int.ofNat i + 1) := ⟨by simp <;> omega, by simp <;> omega⟩
      have mu : n - (i + 1) < n - i := by omega
      have hi' : i + 1 ≤ n := by omega
      have b0 : (0 : Int) ≤ (0 : Int) ∧ (0 : Int) < (1 : Int) := ⟨by decide, by decide⟩
      have Is := I.s0
      have Is2 := I.s2
      have Iq := I.q0
      have Iq2 := I.q2
      have In := I.n0
      have In1 := I.n1
      have Il := I.l0
      have Il1 := I.l1
      have rl : rg (x.l + 6) := ⟨by omega, by omega⟩
      have rs : rg (8 + x.s) := by rw [I.xs]; exact ⟨by omega, by omega⟩
      have rs' : rg (8 + s) := ⟨by omega, by omega⟩
      have rp : rg (x.p - 1) := by rw [I.xp]; exact ⟨by decide, by decide⟩
      have rq : rg (x.q + 1) := ⟨by omega, by omega⟩
      have rn : rg (x.n + 1) := ⟨by omega, by omega⟩
      have om := hO i
      have cp := mcp_con (O i).m om.1 om.2
      have op := op_con x I.mn
      have pe := pe_con x
      have q1 : decide (x.q < 0) = false := decide_eq_false (by omega)
      have q2 : decide (2 < x.q) = false := decide_eq_false (by omega)
      have hs : x.o = true → decide ((opC x).sq = x.n) = true := fun ho => decide_eq_true (by unfold opC; rw [ho]; exact I.sq ho)
      by_cases k1 : (O i).k = 1
      · have k1 : decide ((O i).k = 1) = true := decide_eq_true k1
        cases tb : tdB x (O i).t with
        | false =>
          have td := tdN_con x (O i).t tb rl
          cases ho : x.o with
          | true =>
            have hs := hs ho
            rw [ho] at op
            cases he : decide (fE (O i).t = 0) with
            | true => exact rd_nrm (a1_lq x s b n O fi (fE (O i).t) (opC x) x.q i h0 h1 k1 he ho hs q1 q2) (by rw [ho]; repeat' first | exact trivial | assumption | exact nT hs | exact nnT hs | exact nF q1 | exact nF q2 | exact nT he | exact nnT he | exact rfl | apply And.intro) ⟨x, fi, i + 1⟩ ⟨hi', I, hfi⟩ mu rfl (.refl _) (.refl _)
            | false => exact rd_nrm (a3_lq x s b n O fi (fE (O i).t) (opC x) x.q i h0 h1 k1 he ho hs q1 q2) (by rw [ho]; repeat' first | exact trivial | assumption | exact nT hs | exact nnT hs | exact nF q1 | exact nF q2 | exact nF he | exact nnF he | exact rfl | apply And.intro) ⟨x, fi, i + 1⟩ ⟨hi', I, hfi⟩ mu rfl (.refl _) (.refl _)
          | false =>
            rw [ho] at op
            cases he : decide (fE (O i).t = 0) with
            | true => exact rd_nrm (a2_lq x s b n O fi (fE (O i).t) (opC x) x.q i h0 h1 k1 he ho q1 q2) (by rw [ho]; repeat' first | exact trivial | assumption | exact nF q1 | exact nF q2 | exact nT he | exact nnT he | exact rfl | apply And.intro) ⟨x, fi, i + 1⟩ ⟨hi', I, hfi⟩ mu rfl (.refl _) (.refl _)
            | false => exact rd_nrm (a4_lq x s b n O fi (fE (O i).t) (opC x) x.q i h0 h1 k1 he ho q1 q2) (by rw [ho]; repeat' first | exact trivial | assumption | exact nF q1 | exact nF q2 | exact nF he | exact nnF he | exact rfl | apply And.intro) ⟨x, fi, i + 1⟩ ⟨hi', I, hfi⟩ mu rfl (.refl _) (.refl _)
        | true =>
          have ho : x.o = true := by unfold tdB at tb; simp only [Bool.and_eq_true] at tb; exact tb.2.1
          have td := tdY_con x (O i).t tb rl rq (by rw [I.sv ho]; exact rs') I.mn
          have J := I.tend tb
          have op2 := op_con (tdS x (O i).t) J.mn
          have pe2 := pe_con (tdS x (O i).t)
          have q1 : decide ((tdS x (O i).t).q < 0) = false := decide_eq_false (by have := J.q0; omega)
          have q2 : decide (2 < (tdS x (O i).t).q) = false := decide_eq_false (by have := J.q2; omega)
          have ho2 : (tdS x (O i).t).o = true := ho
          have hs2 : decide ((opC (tdS x (O i).t)).sq = x.n) = true := decide_eq_true (by unfold opC; rw [ho2]; exact I.sq ho)
          have hm : decide ((rqM (tdS x (O i).t)).c.sq = x.n) = true := decide_eq_true (I.sq ho)
          have hoo : ((tdS x (O i).t).o == x.o) = true := by rw [ho2, ho]; rfl
          have vc := vcm_con (rqM (tdS x (O i).t)).c (Nat.le_trans I.mn (by decide))
          rw [show vcB (rqM (tdS x (O i).t)).c = true from I.vc ho] at vc
          exact rd_nrm (b1_lq x (tdS x (O i).t) (rqM (tdS x (O i).t)) s b n O fi (opC (tdS x (O i).t)) (tdS x (O i).t).q i h0 h1 k1 hm ho ho2 hoo hs2 q1 q2) (by repeat' first | exact trivial | assumption | exact nT hs2 | exact nnT hs2 | exact nT hm | exact nnT hm | exact nT ho | exact nnT ho | exact nT ho2 | exact nnT ho2 | exact nT hoo | exact nnT hoo | exact nF q1 | exact nF q2 | exact rfl | apply And.intro) ⟨tdS x (O i).t, fi, i + 1⟩ ⟨hi', J, fun _ => hfi ho⟩ mu rfl (.refl _) (.refl _)
      · have k1 : decide ((O i).k = 1) = false := decide_eq_false k1
        by_cases k2 : (O i).k = 2
        · have k2 : decide ((O i).k = 2) = true := decide_eq_true k2
          cases tb : tkB x (O i).m with
          | false =>
            have tk := tkN_con x (O i).m tb rs rp
            cases ho : x.o with
            | true =>
              have hs := hs ho
              have hx : (x.o == true) = true := by rw [ho]; rfl
              exact rd_nrm (c1_lq x s b n O fi (opC x) x.q i h0 h1 k1 k2 ho hs q1 q2) (by repeat' first | exact trivial | assumption | exact nT hs | exact nnT hs | exact nT ho | exact nnT ho | exact nF q1 | exact nF q2 | exact nT hx | exact nnT hx | exact rfl | apply And.intro) ⟨x, fi, i + 1⟩ ⟨hi', I, hfi⟩ mu rfl (by dsimp only; rw [ho]; exact .refl _) (.refl _)
            | false =>
              have hx : (x.o == false) = true := by rw [ho]; rfl
              exact rd_nrm (c2_lq x s b n O fi (opC x) x.q i h0 h1 k1 k2 ho q1 q2) (by repeat' first | exact trivial | assumption | exact nF ho | exact nnF ho | exact nF q1 | exact nF q2 | exact nT hx | exact nnT hx | exact rfl | apply And.intro) ⟨x, fi, i + 1⟩ ⟨hi', I, hfi⟩ mu rfl (by dsimp only; rw [ho]; exact .refl _) (.refl _)
          | true =>
            have tk := tkY_con x (O i).m tb rs rp om.2
            have J := I.take tb
            have tk2 := tkN_con (tkS x (O i).m) (O i).m rfl rs rp
            have op2 := op_con (tkS x (O i).m) J.mn
            have pe2 := pe_con (tkS x (O i).m)
            have q1 : decide ((tkS x (O i).m).q < 0) = false := decide_eq_false (by have := J.q0; omega)
            have q2 : decide (2 < (tkS x (O i).m).q) = false := decide_eq_false (by have := J.q2; omega)
            have tb' := tb
            unfold tkB iaB at tb'
            simp only [Bool.and_eq_true, decide_eq_true_eq] at tb'
            obtain ⟨ho, _, _, hbt, hsq⟩ := tb'
            have hf : decide (x.f = fi) = true := decide_eq_true (hfi ho).symm
            have hq : decide ((O i).m.c.sq = x.n) = true := decide_eq_true (hsq.trans (I.sq ho))
            have hbo : decide ((O i).m.c.bt = b) = true := decide_eq_true (hbt.trans (I.bt ho))
            exact rd_nrm (d1_lq x (tkS x (O i).m) s b n O fi (opC (tkS x (O i).m)) (tkS x (O i).m).q i h0 h1 k1 k2 hf hq hbo ho rfl q1 q2) (by repeat' first | exact trivial | assumption | exact nT hf | exact nnT hf | exact nT hq | exact nnT hq | exact nT hbo | exact nnT hbo | exact nT ho | exact nnT ho | exact nF q1 | exact nF q2 | exact rfl | apply And.intro) ⟨tkS x (O i).m, fi, i + 1⟩ ⟨hi', J, fun q => by cases q⟩ mu rfl (.refl _) (.refl _)
        · have k2 : decide ((O i).k = 2) = false := decide_eq_false k2
          cases he : decide (akE x (O i).t (O i).m.c = 0) with
          | false =>
            have ak := akN_con x (O i).t (O i).m.c he (fun _ => rn) (Nat.le_trans om.1 (by decide))
            cases ho : x.o with
            | true =>
              have hs := hs ho
              rw [ho] at op
              exact rd_nrm (e1_lq x s b n O fi (akE x (O i).t (O i).m.c) (opC x) x.q i h0 h1 k1 k2 he ho hs q1 q2) (by rw [ho]; repeat' first | exact trivial | assumption | exact nT hs | exact nnT hs | exact nF he | exact nnF he | exact nF q1 | exact nF q2 | exact rfl | apply And.intro) ⟨x, fi, i + 1⟩ ⟨hi', I, hfi⟩ mu rfl (.refl _) (.refl _)
            | false =>
              rw [ho] at op
              exact rd_nrm (e2_lq x s b n O fi (akE x (O i).t (O i).m.c) (opC x) x.q i h0 h1 k1 k2 he ho q1 q2) (by rw [ho]; repeat' first | exact trivial | assumption | exact nF he | exact nnF he | exact nF q1 | exact nF q2 | exact rfl | apply And.intro) ⟨x, fi, i + 1⟩ ⟨hi', I, hfi⟩ mu rfl (.refl _) (.refl _)
          | true =>
            have ak := akY_con x (O i).t (O i).m.c he rn rs om.1
            have J := I.ask om.1 he
            obtain ⟨_, _, _, ho⟩ := akE0 he
            have op2 := op_con (akS x (O i).t (O i).m.c) J.mn
            have pe2 := pe_con (akS x (O i).t (O i).m.c)
            have hk : decide ((rqM (akS x (O i).t (O i).m.c)).k = 8) = true := rfl
            have hq : decide ((rqM (akS x (O i).t (O i).m.c)).c.sq = x.n + 1) = true := decide_eq_true rfl
            have hbo : decide ((rqM (akS x (O i).t (O i).m.c)).c.bt = b) = true := decide_eq_true I.xb
            have hv : decide ((rqM (akS x (O i).t (O i).m.c)).c.sv = s) = true := decide_eq_true I.xs
            have hf : decide ((rqM (akS x (O i).t (O i).m.c)).fr = 8 + s) = true := decide_eq_true (by show 8 + x.s = 8 + s; rw [I.xs])
            have hs2 : decide ((opC (akS x (O i).t (O i).m.c)).sq = x.n + 1) = true := decide_eq_true rfl
            exact rd_nrm (f1_lq x (akS x (O i).t (O i).m.c) (rqM (akS x (O i).t (O i).m.c)) s b n O fi (opC (akS x (O i).t (O i).m.c)) x.q i h0 h1 k1 k2 hk hq hbo hv hf ho rfl hs2 q1 q2) (by repeat' first | exact trivial | assumption | exact nT hk | exact nnT hk | exact nT hq | exact nnT hq | exact nT hbo | exact nnT hbo | exact nT hv | exact nnT hv | exact nT hf | exact nnT hf | exact nF ho | exact nnF ho | exact nT hs2 | exact nnT hs2 | exact nF q1 | exact nF q2 | exact rfl | apply And.intro) ⟨akS x (O i).t (O i).m.c, (O i).t, i + 1⟩ ⟨hi', J, fun _ => rfl⟩ mu rfl (.refl _) (.refl _)
  · have e : i = n := by omega
    have h0 : decide (Int.ofNat i < Int.ofNat n) = false := decide_eq_false (by simp; omega)
    exact rd_out (oE_lq x s b n O fi i h0) (by repeat' first | exact trivial | assumption | exact rfl | apply And.intro) rfl rfl (.refl _) ⟨noneC_ov _, trivial⟩
theorem new_I {s b : Int} (h : nwB s b 3 = true) : OI s b (cl0 s b 3) := by
  unfold nwB wi at h
  simp only [Bool.and_eq_true, decide_eq_true_eq] at h
  exact ⟨h.1.1, h.1.2, rfl, rfl, rfl, Int.le_refl 0, (by show (0 : Int) ≤ 2; decide), Int.le_refl 0, (by show (0 : Int) ≤ 1099511627776; decide), Int.le_refl 0, (by show (0 : Int) ≤ 4503599627370496; decide), (by show (0 : Nat) ≤ 17592186044416; decide), (fun q => by cases q), (fun q => by cases q), (fun q => by cases q), (fun q => by cases q)⟩
theorem law5_con (s b : Int) (n : Nat) (hn : n ≤ 1152921504606846976) (O : Nat → Opx) (hO : okO O) : Con Try.prog 5 [.i .i64 s, .i .i64 b, .sv 27 n (oxF O)] [] (.b true) [] := by
  cases hb : nwB s b 3 with
  | false => exact con_d (o0_vq s b n O) (by repeat' first | exact trivial | exact awake_con | exact new0_con s b 3 hb | exact rfl | apply And.intro)
  | true => exact con_d (o1_vq (cl0 s b 3) s b n O) (by repeat' first | exact trivial | exact awake_con | exact new1_con s b 3 hb | exact once_lp s b O n hn hO (cl0 s b 3) (new_I hb) 0 (fun q => by cases q) | exact rfl | apply And.intro)
end Go.Proofs.Ck
