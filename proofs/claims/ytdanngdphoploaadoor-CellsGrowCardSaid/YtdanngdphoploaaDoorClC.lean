/- Runs over unknown values, told by the kernel: part ClC. -/
import Derived.Test.YtdanngdphoploaaDoorClB
set_option linter.unusedSimpArgs false
set_option linter.unusedVariables false
set_option maxRecDepth 20000
namespace Go.Proofs.Cl
open Go Go.Sim Go.Proofs Go.Proofs.Cd Go.Proofs.St Go.Proofs.YtdanngdphoploaaDoor

/-- A Put that is refused for its place or its text. -/
theorem put_bad {c : CS} (s : SS) {i : Int} {x : List Nat} (hd : c.dead = false) (h : ¬ (0 ≤ i ∧ i < Int.ofNat c.n) ∨ 51 < x.length) : c.putE s i x = 2 ∧ c.putC s i x = c ∧ c.putS s i x = s := by
  have hno : c.no i x = 2 := by
    unfold CS.no
    rw [hd]
    simp only
    cases h1 : decide (0 ≤ i ∧ i < Int.ofNat c.n) with
    | false => rfl
    | true =>
      have h2 : decide ((51 : Int) < Int.ofNat x.length) = true := by
        rcases h with h | h
        · exact absurd (of_decide_eq_true h1) h
        · simp; omega
      simp only [h2]
  have d : decide (c.no i x = 0) = false := by rw [hno]; rfl
  refine ⟨?_, ?_, ?_⟩
  · unfold CS.putE; rw [d]; exact hno
  · unfold CS.putC; rw [d]
  · unfold CS.putS; rw [d]
theorem wrE_on {s : SS} {q : Nat} (ho : s.off = false) (ha : s.armed = false) (hq : q < s.n) : s.wrE (Int.ofNat q) 64 = 0 := by
  have hd : decide (0 ≤ Int.ofNat q ∧ Int.ofNat q < Int.ofNat s.n ∧ 64 = 64) = true := by simp; omega
  unfold SS.wrE; rw [ho, hd]
  show (s.wrote (Int.ofNat q).toNat fun _ => 0).payE = 0
  unfold SS.payE
  rw [show (s.wrote (Int.ofNat q).toNat fun _ => 0).armed = s.armed from rfl, ha]
theorem wrS_on2 {s : SS} {q : Nat} (ho : s.off = false) (ha : s.armed = false) (hq : q < s.n) (bs : Nat → Int) : s.wrS (Int.ofNat q) 64 bs = s.wrote q bs := by
  rw [wrS_on ho hq]
  unfold SS.pay
  rw [show (s.wrote q bs).armed = s.armed from rfl, ha]
/-- A Put with the power on, and nothing armed. -/
theorem put_good {c : CS} {s : SS} {m : Nat} (h : Inv c s m) {i : Int} {x : List Nat} (hd : c.dead = false) (ho : s.off = false) (ha : s.armed = false) (hi : 0 ≤ i ∧ i < Int.ofNat c.n) (hl : x.length ≤ 51) (hq : c.q i.toNat < 1099511627776) :
    c.putE s i x = 0 ∧ c.putC s i x = c.upd i.toNat (c.q i.toNat + 1) x (1 - c.sp i.toNat) ∧ (c.putS s i x).off = false ∧ (c.putS s i x).armed = false := by
  obtain ⟨ea, hlt⟩ := h.at_ hi
  have hno : c.no i x = 0 := by
    unfold CS.no
    rw [hd, decide_eq_true hi, show decide ((51 : Int) < Int.ofNat x.length) = false by simp; omega, show decide ((1099511627776 : Int) ≤ Int.ofNat (c.q i.toNat)) = false by simp; omega]
  have d : decide (c.no i x = 0) = true := by rw [hno]; rfl
  have hE : s.wrE (c.at_ i) 64 = 0 := by rw [ea]; exact wrE_on ho ha hlt
  have eW : wrote s (c.at_ i) (c.nx i) x = s.wrote (i.toNat * 2 + c.sp i.toNat) (fun k => Int.ofNat (sectB (c.nx i).toNat x k)) := by unfold wrote; rw [ea]; exact wrS_on2 ho ha hlt _
  have hcE : cmE s (c.at_ i) (c.nx i) x = 0 := by
    unfold cmE; rw [decide_eq_true hE]
    simp only; rw [eW]
    unfold SS.faultE
    rw [show (s.wrote (i.toNat * 2 + c.sp i.toNat) (fun k => Int.ofNat (sectB (c.nx i).toNat x k))).off = s.off from rfl, ho]; rfl
  have eS : c.putS s i x = (s.wrote (i.toNat * 2 + c.sp i.toNat) (fun k => Int.ofNat (sectB (c.nx i).toNat x k))).bar := by
    unfold CS.putS; rw [d]
    show cmS s (c.at_ i) (c.nx i) x = _
    unfold cmS; rw [decide_eq_true hE]
    simp only; rw [eW]
  have eB : (s.wrote (i.toNat * 2 + c.sp i.toNat) (fun k => Int.ofNat (sectB (c.nx i).toNat x k))).bar = (s.wrote (i.toNat * 2 + c.sp i.toNat) (fun k => Int.ofNat (sectB (c.nx i).toNat x k))).flush (s.P.length + 1) := by
    unfold SS.bar
    rw [show (s.wrote (i.toNat * 2 + c.sp i.toNat) (fun k => Int.ofNat (sectB (c.nx i).toNat x k))).off = s.off from rfl, ho]
    rfl
  refine ⟨?_, ?_, ?_, ?_⟩
  · unfold CS.putE; rw [d]; simp only; rw [decide_eq_true hcE]
  · unfold CS.putC; rw [d]; simp only; rw [decide_eq_true hcE]
  · rw [eS, eB]; exact ho
  · rw [eS, eB]; exact ha

theorem getQ_in {c : CS} {j : Nat} (h : j < c.n) : c.getQ (Int.ofNat j) = c.q j := by
  have d : decide (0 ≤ Int.ofNat j ∧ Int.ofNat j < Int.ofNat c.n) = true := by simp; omega
  unfold CS.getQ; rw [d]; rfl
theorem getD_in {c : CS} {j : Nat} (h : j < c.n) : c.getD (Int.ofNat j) = c.d j := by
  have d : decide (0 ≤ Int.ofNat j ∧ Int.ofNat j < Int.ofNat c.n) = true := by simp; omega
  unfold CS.getD; rw [d]; rfl

theorem growR_vc (c : CS) (s : SS) (L k : Nat) (KK II : Nat → Int) (XX : Nat → List Nat) (TT : Nat → Bool) (K : Res → Orc → Prop) : runK Tryd.prog 1000000 (.code (loopAt Tryd.prog
  13 0) 125 (mkT [(5, .p 1 0), (32, .sv 4 L (opF KK II XX TT)), (33, .i .i64 (Int.ofNat L)), (34, .i .i64 (Int.ofNat k))]) (mkH [some s.o, some c.oa])) (Orc.s (Orc.s Orc.z (Orc.inl
  (Orc.c (Orc.cal [1, 0] (AV.agg [AV.i IntKind.i64 (Int.ofNat (CS.getQ c (0 : Int))), AV.s (CS.getD c (0 : Int))]) [Upd.keep, Upd.keep] (Orc.c (Orc.inl (Orc.c (Orc.cal [1, 0]
  (AV.agg [AV.i IntKind.i64 (Int.ofNat (CS.getQ c (1 : Int))), AV.s (CS.getD c (1 : Int))]) [Upd.keep, Upd.keep] (Orc.c (Orc.inl (Orc.c (Orc.cal [1, 0] (AV.agg [AV.i IntKind.i64
  (Int.ofNat (CS.getQ c (2 : Int))), AV.s (CS.getD c (2 : Int))]) [Upd.keep, Upd.keep] (Orc.c (Orc.inl (Orc.c (Orc.cal [1, 0] (AV.agg [AV.i IntKind.i64 (Int.ofNat (CS.getQ c (3 :
  Int))), AV.s (CS.getD c (3 : Int))]) [Upd.keep, Upd.keep] (Orc.c (Orc.inl (Orc.c (Orc.cal [1, 0] (AV.i IntKind.i64 (CS.putE c s (II k) (XX k))) [Upd.set (CS.o (CS.putC c s (II k)
  (XX k))), Upd.set (SS.o (CS.putS c s (II k) (XX k)))] (Orc.s (Orc.t (Orc.t (Orc.t (Orc.s (Orc.t (Orc.t (Orc.t (Orc.t (Orc.s (Orc.t (Orc.t (Orc.s (Orc.t (Orc.t (Orc.t (Orc.f (Orc.s
  Orc.z (Orc.lop [0, 1, 2, 3] [5, 8, 9, 12, 32, 33, 34, 82] 2 (XO.exit 4) [(5, AV.p 1 0), (32, AV.sv 4 L (opF KK II XX TT)), (33, AV.i IntKind.i64 (Int.ofNat L)), (34, AV.i
  IntKind.i64 (Int.ofNat k))] [some (SS.o (CS.putS c s (II k) (XX k))), some (CS.oa (CS.putC c s (II k) (XX k)))] Orc.z)))))) (Orc.f (Orc.t (Orc.f (Orc.f (Orc.c (Orc.lop [0, 1, 2,
  3] [5, 8, 9, 12, 32, 33, 34, 82] 2 (XO.exit 4) [(5, AV.p 1 0), (32, AV.sv 4 L (opF KK II XX TT)), (33, AV.i IntKind.i64 (Int.ofNat L)), (34, AV.i IntKind.i64 (Int.ofNat k))] [some
  (SS.o (CS.putS c s (II k) (XX k))), some (CS.oa (CS.putC c s (II k) (XX k)))] Orc.z))))))))) (Orc.f (Orc.f (Orc.f (Orc.t (Orc.c Orc.z)))))))))) (Orc.f (Orc.f (Orc.f (Orc.f (Orc.s
  (Orc.t (Orc.t (Orc.c (Orc.c (Orc.t (Orc.c (Orc.f (Orc.s Orc.z (Orc.lop [0, 1, 2, 3] [5, 8, 9, 12, 32, 33, 34, 82] 2 (XO.exit 4) [(5, AV.p 1 0), (32, AV.sv 4 L (opF KK II XX TT)),
  (33, AV.i IntKind.i64 (Int.ofNat L)), (34, AV.i IntKind.i64 (Int.ofNat k))] [some (SS.o (CS.putS c s (II k) (XX k))), some (CS.oa (CS.putC c s (II k) (XX k)))] Orc.z)))))))))
  (Orc.f (Orc.f (Orc.f (Orc.t (Orc.c Orc.z)))))))))))))) (Orc.f (Orc.f (Orc.f (Orc.c (Orc.c (Orc.c (Orc.c (Orc.c (Orc.s (Orc.t (Orc.t (Orc.c (Orc.c (Orc.t (Orc.c (Orc.f (Orc.s Orc.z
  (Orc.lop [0, 1, 2, 3] [5, 8, 9, 12, 32, 33, 34, 82] 2 (XO.exit 4) [(5, AV.p 1 0), (32, AV.sv 4 L (opF KK II XX TT)), (33, AV.i IntKind.i64 (Int.ofNat L)), (34, AV.i IntKind.i64
  (Int.ofNat k))] [some (SS.o (CS.putS c s (II k) (XX k))), some (CS.oa (CS.putC c s (II k) (XX k)))] Orc.z))))))))) (Orc.f (Orc.f (Orc.f (Orc.t (Orc.c
  Orc.z))))))))))))))))))))))))))))))))))) Orc.z) K = ((decide (Int.ofNat k < Int.ofNat L) = true → ((0 : Int) ≤ Int.ofNat k ∧ Int.ofNat k < ↑L) ∧ True ∧ (decide ((300 : Int) <
  Int.ofNat k) = true → K (Res.st (XO.exit 0) (T.n none (T.n none (T.n none (T.n (some (AV.i IntKind.i64 (Int.ofNat k))) T.e (T.n none (T.n (some (AV.i IntKind.i64 (Int.ofNat k)))
  T.e T.e) T.e)) (T.n none (T.n none (T.n (some (AV.b (decide (Int.ofNat k < Int.ofNat L)))) T.e T.e) T.e) T.e)) (T.n (some (AV.p 1 0)) (T.n none (T.n none (T.n (some (AV.i
  IntKind.i64 (Int.ofNat L))) T.e T.e) T.e) T.e) (T.n none (T.n none (T.n (some (AV.pv 4 (opF KK II XX TT k))) T.e T.e) T.e) T.e))) (T.n none (T.n none (T.n (some (AV.p 2 0)) (T.n
  none (T.n (some (AV.sv 4 L (opF KK II XX TT))) T.e T.e) T.e) (T.n none (T.n (some (AV.b (decide ((300 : Int) < Int.ofNat k)))) T.e T.e) T.e)) (T.n none (T.n none (T.n (some (AV.i
  IntKind.i64 (Int.ofNat k))) T.e T.e) T.e) T.e)) (T.n none (T.n none (T.n none (T.n (some (AV.i IntKind.i64 (Int.ofNat k))) T.e T.e) T.e) T.e) (T.n none (T.n none (T.n (some
  (AV.agg [AV.i IntKind.i64 (KK k), AV.i IntKind.i64 (II k), AV.s (XX k), AV.b (TT k)])) T.e T.e) T.e) T.e)))) { tree := T.n (some (SS.o s)) (T.n (some (CS.oa c)) T.e T.e) (T.n (some (AObj.cells 75 4 [AV.i IntKind.i64 (0 : Int), AV.i IntKind.i64 (0 : Int), AV.s [], AV.b false] (T.n (some (AV.i IntKind.i64 (KK k))) (T.n (some (AV.i IntKind.i64 (II k))) (T.n (some (AV.b (TT k))) T.e T.e) T.e) (T.n (some (AV.s (XX k))) T.e T.e)))) T.e T.e), next := 3, log := [2, 2] })
  Orc.z) ∧ (decide ((300 : Int) < Int.ofNat k) = false → Con Tryd.prog 49 [AV.p 0 0, AV.i IntKind.i64 (0 : Int)] [some (CS.o c), some (SS.o s)] (AV.agg [AV.i IntKind.i64 (Int.ofNat
  (CS.getQ c (0 : Int))), AV.s (CS.getD c (0 : Int))]) [Upd.keep, Upd.keep] ∧ ((-9223372036854775808 : Int) ≤ (1 : Int) ∧ (1 : Int) ≤ (9223372036854775807 : Int)) ∧ Con Tryd.prog 49
  [AV.p 0 0, AV.i IntKind.i64 (1 : Int)] [some (CS.o c), some (SS.o s)] (AV.agg [AV.i IntKind.i64 (Int.ofNat (CS.getQ c (1 : Int))), AV.s (CS.getD c (1 : Int))]) [Upd.keep,
  Upd.keep] ∧ ((-9223372036854775808 : Int) ≤ (2 : Int) ∧ (2 : Int) ≤ (9223372036854775807 : Int)) ∧ Con Tryd.prog 49 [AV.p 0 0, AV.i IntKind.i64 (2 : Int)] [some (CS.o c), some
  (SS.o s)] (AV.agg [AV.i IntKind.i64 (Int.ofNat (CS.getQ c (2 : Int))), AV.s (CS.getD c (2 : Int))]) [Upd.keep, Upd.keep] ∧ ((-9223372036854775808 : Int) ≤ (3 : Int) ∧ (3 : Int) ≤
  (9223372036854775807 : Int)) ∧ Con Tryd.prog 49 [AV.p 0 0, AV.i IntKind.i64 (3 : Int)] [some (CS.o c), some (SS.o s)] (AV.agg [AV.i IntKind.i64 (Int.ofNat (CS.getQ c (3 : Int))),
  AV.s (CS.getD c (3 : Int))]) [Upd.keep, Upd.keep] ∧ ((-9223372036854775808 : Int) ≤ (4 : Int) ∧ (4 : Int) ≤ (9223372036854775807 : Int)) ∧ True ∧ True ∧ Con Tryd.prog 47 [AV.p 0
  0, AV.i IntKind.i64 (II k), AV.s (XX k)] [some (CS.o c), some (SS.o s)] (AV.i IntKind.i64 (CS.putE c s (II k) (XX k))) [Upd.set (CS.o (CS.putC c s (II k) (XX k))), Upd.set (SS.o
  (CS.putS c s (II k) (XX k)))] ∧ True ∧ (decide ((0 : Int) ≤ II k) = true → True ∧ decide ((0 : Int) ≤ II k) = true ∧ decide ((0 : Int) ≤ II k) = true ∧ decide ((0 : Int) ≤ II k) =
  true ∧ (decide (II k < (4 : Int)) = true → True ∧ decide (II k < (4 : Int)) = true ∧ decide (II k < (4 : Int)) = true ∧ decide (II k < (4 : Int)) = true ∧ decide (II k < (4 :
  Int)) = true ∧ True ∧ ((!!decide (CS.putE c s (II k) (XX k) = (0 : Int)) == decide (Int.ofNat (List.length (XX k)) ≤ (51 : Int))) = true → (!!decide (CS.putE c s (II k) (XX k) =
  (0 : Int)) == decide (Int.ofNat (List.length (XX k)) ≤ (51 : Int))) = true ∧ True ∧ (!!decide (CS.putE c s (II k) (XX k) = (0 : Int)) == decide (Int.ofNat (List.length (XX k)) ≤
  (51 : Int))) = true ∧ ((!decide (Int.ofNat (List.length (XX k)) ≤ (51 : Int))) = true → (!decide (Int.ofNat (List.length (XX k)) ≤ (51 : Int))) = true ∧ (!!decide (CS.putE c s (II
  k) (XX k) = (0 : Int)) == decide (Int.ofNat (List.length (XX k)) ≤ (51 : Int))) = true ∧ (!decide (Int.ofNat (List.length (XX k)) ≤ (51 : Int))) = true ∧ (!decide (CS.putE c s (II
  k) (XX k) = (0 : Int)) == decide (Int.ofNat (List.length (XX k)) ≤ (51 : Int))) = false ∧ ((!decide (CS.putE c s (II k) (XX k) = (2 : Int))) = true → K (Res.st XO.ret (T.n none
  (T.n none (T.n none (T.n (some (AV.i IntKind.i64 (Int.ofNat k))) (T.n none (T.n none (T.n (some (AV.b (decide (II k < (4 : Int))))) T.e T.e) T.e) (T.n (some (AV.agg [AV.i
  IntKind.i64 (Int.ofNat (CS.getQ c (3 : Int))), AV.s (CS.getD c (3 : Int))])) (T.n (some (AV.b !decide (CS.putE c s (II k) (XX k) = (2 : Int)))) T.e T.e) T.e)) (T.n none (T.n (some
  (AV.i IntKind.i64 (Int.ofNat k))) (T.n (some (AV.b (decide (CS.putE c s (II k) (XX k) = (0 : Int))))) T.e T.e) T.e) (T.n (some (AV.i IntKind.i64 (CS.putE c s (II k) (XX k)))) T.e
  T.e))) (T.n (some (AV.i IntKind.i64 (CS.putE c s (II k) (XX k)))) (T.n none (T.n (some (AV.b (decide (Int.ofNat k < Int.ofNat L)))) (T.n (some (AV.i IntKind.i64 (Int.ofNat
  (List.length (XX k))))) T.e T.e) T.e) (T.n (some (AV.p 2 1)) T.e T.e)) (T.n none (T.n (some (AV.i IntKind.i64 (3 : Int))) (T.n (some (AV.b (decide (Int.ofNat (List.length (XX k))
  ≤ (51 : Int))))) T.e T.e) T.e) (T.n (some (AV.b (decide ((0 : Int) ≤ II k)))) T.e T.e)))) (T.n (some (AV.p 1 0)) (T.n (some (AV.p 3 0)) (T.n none (T.n (some (AV.i IntKind.i64
  (Int.ofNat L))) (T.n (some (AV.p 2 2)) T.e T.e) T.e) (T.n (some (AV.i IntKind.i64 (4 : Int))) (T.n (some (AV.b !decide (CS.putE c s (II k) (XX k) = (2 : Int)))) T.e T.e) T.e))
  (T.n none (T.n (some (AV.i IntKind.i64 (4 : Int))) (T.n (some (AV.b !decide (CS.putE c s (II k) (XX k) = (0 : Int)) == decide (Int.ofNat (List.length (XX k)) ≤ (51 : Int)))) T.e
  T.e) T.e) (T.n (some (AV.i IntKind.i64 (II k))) T.e T.e))) (T.n none (T.n none (T.n (some (AV.pv 4 (opF KK II XX TT k))) (T.n (some (AV.b (decide (Int.ofNat (List.length (XX k)) ≤
  (51 : Int))))) T.e T.e) T.e) (T.n (some (AV.p 2 2)) T.e T.e)) (T.n none (T.n (some (AV.p 1 0)) (T.n (some (AV.b !decide (Int.ofNat (List.length (XX k)) ≤ (51 : Int)))) T.e T.e)
  T.e) (T.n (some (AV.i IntKind.i64 (II k))) T.e T.e))))) (T.n (some (AV.b false)) (T.n none (T.n (some (AV.p 2 0)) (T.n none (T.n (some (AV.sv 4 L (opF KK II XX TT))) (T.n (some
  (AV.b (decide (II k < (4 : Int))))) T.e T.e) T.e) (T.n (some (AV.p 3 6)) (T.n (some (AV.b !decide (CS.putE c s (II k) (XX k) = (2 : Int)))) T.e T.e) T.e)) (T.n none (T.n (some
  (AV.b (decide ((300 : Int) < Int.ofNat k)))) (T.n (some (AV.b (decide (Int.ofNat (List.length (XX k)) ≤ (51 : Int))))) T.e T.e) T.e) (T.n (some (AV.p 2 1)) T.e T.e))) (T.n (some
  (AV.b (decide (Int.ofNat (List.length (XX k)) ≤ (51 : Int))))) (T.n none (T.n (some (AV.i IntKind.i64 (Int.ofNat k))) (T.n (some (AV.b (decide (Int.ofNat (List.length (XX k)) ≤
  (51 : Int))))) T.e T.e) T.e) (T.n (some (AV.i IntKind.i64 (II k))) T.e T.e)) (T.n none (T.n (some (AV.i IntKind.i64 (3 : Int))) (T.n (some (AV.b !decide (Int.ofNat (List.length
  (XX k)) ≤ (51 : Int)))) T.e T.e) T.e) (T.n (some (AV.p 2 1)) T.e T.e)))) (T.n none (T.n (some (AV.i IntKind.i64 (3 : Int))) (T.n none (T.n (some (AV.i IntKind.i64 (Int.ofNat k)))
  (T.n (some (AV.s (XX k))) T.e T.e) T.e) (T.n (some (AV.p 1 0)) T.e T.e)) (T.n none (T.n (some (AV.b false)) (T.n (some (AV.b !decide (CS.putE c s (II k) (XX k) = (0 : Int)) ==
  decide (Int.ofNat (List.length (XX k)) ≤ (51 : Int)))) T.e T.e) T.e) (T.n (some (AV.b (decide ((0 : Int) ≤ II k)))) T.e T.e))) (T.n none (T.n none (T.n (some (AV.agg [AV.i
  IntKind.i64 (KK k), AV.i IntKind.i64 (II k), AV.s (XX k), AV.b (TT k)])) (T.n (some (AV.i IntKind.i64 (CS.putE c s (II k) (XX k)))) T.e T.e) T.e) (T.n (some (AV.s (XX k))) T.e
  T.e)) (T.n none (T.n (some (AV.i IntKind.i64 (3 : Int))) (T.n (some (AV.i IntKind.i64 (CS.putE c s (II k) (XX k)))) T.e T.e) T.e) (T.n (some (AV.b (decide (II k < (4 : Int)))))
  T.e T.e)))))) { tree := T.n (some (SS.o (CS.putS c s (II k) (XX k)))) (T.n (some (CS.oa (CS.putC c s (II k) (XX k)))) (T.n (some (AObj.cells 85 8 [AV.i IntKind.i64 (0 : Int), AV.s [], AV.i IntKind.i64 (0 : Int), AV.s [], AV.i IntKind.i64 (0 : Int), AV.s [], AV.i IntKind.i64 (0 : Int), AV.s []] (T.n (some (AV.i IntKind.i64 (Int.ofNat (CS.getQ c (0 : Int))))) (T.n (some (AV.s (CS.getD c (0 : Int)))) (T.n (some (AV.s (CS.getD c (1 : Int)))) (T.n (some (AV.s (CS.getD c (3 : Int)))) T.e T.e) T.e) (T.n (some (AV.s (CS.getD c (2 : Int)))) T.e T.e)) (T.n (some (AV.i IntKind.i64 (Int.ofNat (CS.getQ c (1 : Int))))) (T.n (some (AV.i IntKind.i64 (Int.ofNat (CS.getQ c (2 : Int))))) T.e T.e) (T.n (some (AV.i IntKind.i64 (Int.ofNat (CS.getQ c (3 : Int))))) T.e T.e))))) T.e T.e) T.e) (T.n (some (AObj.cells 75 4 [AV.i IntKind.i64 (0 : Int), AV.i IntKind.i64 (0 : Int), AV.s [], AV.b false] (T.n (some (AV.i IntKind.i64 (KK k))) (T.n (some (AV.i IntKind.i64 (II k))) (T.n (some (AV.b (TT k))) T.e T.e) T.e) (T.n (some (AV.s (XX k))) T.e T.e)))) T.e T.e), next := 4, log := [0, 1, 3, 3, 3, 3, 3, 2, 2] })
  Orc.z) ∧ ((!decide (CS.putE c s (II k) (XX k) = (2 : Int))) = false → LDoes Tryd.prog (loopAt Tryd.prog 13 2) 125 2 (mkT [(5, AV.p 1 0), (8, AV.p 2 0), (9, AV.p 3 0), (12, AV.b
  (decide (Int.ofNat (List.length (XX k)) ≤ (51 : Int)))), (32, AV.sv 4 L (opF KK II XX TT)), (33, AV.i IntKind.i64 (Int.ofNat L)), (34, AV.i IntKind.i64 (Int.ofNat k)), (82, AV.i
  IntKind.i64 (0 : Int))]) [some (SS.o (CS.putS c s (II k) (XX k))), some (CS.oa (CS.putC c s (II k) (XX k))), some (opO (KK k) (II k) (XX k) (TT k)), some (AObj.cells 85 8 [AV.i
  IntKind.i64 (0 : Int), AV.s [], AV.i IntKind.i64 (0 : Int), AV.s [], AV.i IntKind.i64 (0 : Int), AV.s [], AV.i IntKind.i64 (0 : Int), AV.s []] (T.n (some (AV.i IntKind.i64
  (Int.ofNat (CS.getQ c (0 : Int))))) (T.n (some (AV.s (CS.getD c (0 : Int)))) (T.n (some (AV.s (CS.getD c (1 : Int)))) (T.n (some (AV.s (CS.getD c (3 : Int)))) T.e T.e) T.e) (T.n
  (some (AV.s (CS.getD c (2 : Int)))) T.e T.e)) (T.n (some (AV.i IntKind.i64 (Int.ofNat (CS.getQ c (1 : Int))))) (T.n (some (AV.i IntKind.i64 (Int.ofNat (CS.getQ c (2 : Int))))) T.e
  T.e) (T.n (some (AV.i IntKind.i64 (Int.ofNat (CS.getQ c (3 : Int))))) T.e T.e))))] (XO.exit 4) (mkT [(5, AV.p 1 0), (32, AV.sv 4 L (opF KK II XX TT)), (33, AV.i IntKind.i64
  (Int.ofNat L)), (34, AV.i IntKind.i64 (Int.ofNat k))]) [some (SS.o (CS.putS c s (II k) (XX k))), some (CS.oa (CS.putC c s (II k) (XX k)))] ∧ ((-9223372036854775808 : Int) ≤
  Int.ofNat k + (1 : Int) ∧ Int.ofNat k + (1 : Int) ≤ (9223372036854775807 : Int)) ∧ K (Res.st XO.nrm (T.n none (T.n none T.e (T.n (some (AV.p 1 0)) (T.n none (T.n none (T.n (some
  (AV.i IntKind.i64 (Int.ofNat L))) T.e T.e) T.e) T.e) T.e)) (T.n none (T.n none (T.n none (T.n none (T.n (some (AV.sv 4 L (opF KK II XX TT))) T.e T.e) T.e) T.e) T.e) (T.n none (T.n
  none (T.n none (T.n (some (AV.i IntKind.i64 (Int.ofNat k + (1 : Int)))) T.e T.e) T.e) T.e) (T.n none T.e (T.n none (T.n none T.e (T.n (some (AV.i IntKind.i64 (Int.ofNat k + (1 :
  Int)))) T.e T.e)) T.e))))) { tree := T.n (some (SS.o (CS.putS c s (II k) (XX k)))) (T.n (some (CS.oa (CS.putC c s (II k) (XX k)))) (T.n none T.e T.e) T.e) (T.n none T.e T.e), next := 4, log := [3, 2, 1, 0, 0, 1, 3, 3, 3, 3, 3, 2, 2] })
  Orc.z)) ∧ ((!decide (Int.ofNat (List.length (XX k)) ≤ (51 : Int))) = false → (!decide (Int.ofNat (List.length (XX k)) ≤ (51 : Int))) = false ∧ (!!decide (CS.putE c s (II k) (XX k)
  = (0 : Int)) == decide (Int.ofNat (List.length (XX k)) ≤ (51 : Int))) = true ∧ (!decide (Int.ofNat (List.length (XX k)) ≤ (51 : Int))) = false ∧ (!decide (CS.putE c s (II k) (XX
  k) = (0 : Int)) == decide (Int.ofNat (List.length (XX k)) ≤ (51 : Int))) = false ∧ LDoes Tryd.prog (loopAt Tryd.prog 13 2) 125 2 (mkT [(5, AV.p 1 0), (8, AV.p 2 0), (9, AV.p 3 0),
  (12, AV.b (decide (Int.ofNat (List.length (XX k)) ≤ (51 : Int)))), (32, AV.sv 4 L (opF KK II XX TT)), (33, AV.i IntKind.i64 (Int.ofNat L)), (34, AV.i IntKind.i64 (Int.ofNat k)),
  (82, AV.i IntKind.i64 (0 : Int))]) [some (SS.o (CS.putS c s (II k) (XX k))), some (CS.oa (CS.putC c s (II k) (XX k))), some (opO (KK k) (II k) (XX k) (TT k)), some (AObj.cells 85
  8 [AV.i IntKind.i64 (0 : Int), AV.s [], AV.i IntKind.i64 (0 : Int), AV.s [], AV.i IntKind.i64 (0 : Int), AV.s [], AV.i IntKind.i64 (0 : Int), AV.s []] (T.n (some (AV.i IntKind.i64
  (Int.ofNat (CS.getQ c (0 : Int))))) (T.n (some (AV.s (CS.getD c (0 : Int)))) (T.n (some (AV.s (CS.getD c (1 : Int)))) (T.n (some (AV.s (CS.getD c (3 : Int)))) T.e T.e) T.e) (T.n
  (some (AV.s (CS.getD c (2 : Int)))) T.e T.e)) (T.n (some (AV.i IntKind.i64 (Int.ofNat (CS.getQ c (1 : Int))))) (T.n (some (AV.i IntKind.i64 (Int.ofNat (CS.getQ c (2 : Int))))) T.e
  T.e) (T.n (some (AV.i IntKind.i64 (Int.ofNat (CS.getQ c (3 : Int))))) T.e T.e))))] (XO.exit 4) (mkT [(5, AV.p 1 0), (32, AV.sv 4 L (opF KK II XX TT)), (33, AV.i IntKind.i64
  (Int.ofNat L)), (34, AV.i IntKind.i64 (Int.ofNat k))]) [some (SS.o (CS.putS c s (II k) (XX k))), some (CS.oa (CS.putC c s (II k) (XX k)))] ∧ ((-9223372036854775808 : Int) ≤
  Int.ofNat k + (1 : Int) ∧ Int.ofNat k + (1 : Int) ≤ (9223372036854775807 : Int)) ∧ K (Res.st XO.nrm (T.n none (T.n none T.e (T.n (some (AV.p 1 0)) (T.n none (T.n none (T.n (some
  (AV.i IntKind.i64 (Int.ofNat L))) T.e T.e) T.e) T.e) T.e)) (T.n none (T.n none (T.n none (T.n none (T.n (some (AV.sv 4 L (opF KK II XX TT))) T.e T.e) T.e) T.e) T.e) (T.n none (T.n
  none (T.n none (T.n (some (AV.i IntKind.i64 (Int.ofNat k + (1 : Int)))) T.e T.e) T.e) T.e) (T.n none T.e (T.n none (T.n none T.e (T.n (some (AV.i IntKind.i64 (Int.ofNat k + (1 :
  Int)))) T.e T.e)) T.e))))) { tree := T.n (some (SS.o (CS.putS c s (II k) (XX k)))) (T.n (some (CS.oa (CS.putC c s (II k) (XX k)))) (T.n none T.e T.e) T.e) (T.n none T.e T.e), next := 4, log := [3, 2, 1, 0, 0, 1, 3, 3, 3, 3, 3, 2, 2] })
  Orc.z)) ∧ ((!!decide (CS.putE c s (II k) (XX k) = (0 : Int)) == decide (Int.ofNat (List.length (XX k)) ≤ (51 : Int))) = false → (!!decide (CS.putE c s (II k) (XX k) = (0 : Int))
  == decide (Int.ofNat (List.length (XX k)) ≤ (51 : Int))) = false ∧ (!!decide (CS.putE c s (II k) (XX k) = (0 : Int)) == decide (Int.ofNat (List.length (XX k)) ≤ (51 : Int))) =
  false ∧ (!!decide (CS.putE c s (II k) (XX k) = (0 : Int)) == decide (Int.ofNat (List.length (XX k)) ≤ (51 : Int))) = false ∧ (!decide (CS.putE c s (II k) (XX k) = (0 : Int)) ==
  decide (Int.ofNat (List.length (XX k)) ≤ (51 : Int))) = true ∧ K (Res.st XO.ret (T.n none (T.n none (T.n none (T.n (some (AV.i IntKind.i64 (Int.ofNat k))) (T.n none (T.n none (T.n
  (some (AV.b (decide (II k < (4 : Int))))) T.e T.e) T.e) (T.n (some (AV.agg [AV.i IntKind.i64 (Int.ofNat (CS.getQ c (3 : Int))), AV.s (CS.getD c (3 : Int))])) (T.n (some (AV.tup
  [])) T.e T.e) T.e)) (T.n none (T.n (some (AV.i IntKind.i64 (Int.ofNat k))) (T.n (some (AV.b (decide (CS.putE c s (II k) (XX k) = (0 : Int))))) T.e T.e) T.e) (T.n (some (AV.i
  IntKind.i64 (CS.putE c s (II k) (XX k)))) T.e T.e))) (T.n (some (AV.i IntKind.i64 (CS.putE c s (II k) (XX k)))) (T.n none (T.n (some (AV.b (decide (Int.ofNat k < Int.ofNat L))))
  (T.n (some (AV.i IntKind.i64 (Int.ofNat (List.length (XX k))))) T.e T.e) T.e) (T.n (some (AV.p 2 1)) T.e T.e)) (T.n none (T.n (some (AV.i IntKind.i64 (3 : Int))) (T.n (some
  (AV.tup [])) T.e T.e) T.e) (T.n (some (AV.b (decide ((0 : Int) ≤ II k)))) T.e T.e)))) (T.n (some (AV.p 1 0)) (T.n (some (AV.p 3 0)) (T.n none (T.n (some (AV.i IntKind.i64
  (Int.ofNat L))) (T.n (some (AV.p 2 2)) T.e T.e) T.e) (T.n (some (AV.i IntKind.i64 (4 : Int))) (T.n (some (AV.b true)) T.e T.e) T.e)) (T.n none (T.n (some (AV.i IntKind.i64 (4 :
  Int))) (T.n (some (AV.b !decide (CS.putE c s (II k) (XX k) = (0 : Int)) == decide (Int.ofNat (List.length (XX k)) ≤ (51 : Int)))) T.e T.e) T.e) (T.n (some (AV.i IntKind.i64 (II
  k))) T.e T.e))) (T.n none (T.n none (T.n (some (AV.pv 4 (opF KK II XX TT k))) (T.n (some (AV.b (decide (Int.ofNat (List.length (XX k)) ≤ (51 : Int))))) T.e T.e) T.e) (T.n (some
  (AV.p 2 2)) T.e T.e)) (T.n none (T.n (some (AV.p 1 0)) (T.n (some (AV.tup [])) T.e T.e) T.e) (T.n (some (AV.i IntKind.i64 (II k))) T.e T.e))))) (T.n (some (AV.b false)) (T.n none
  (T.n (some (AV.p 2 0)) (T.n none (T.n (some (AV.sv 4 L (opF KK II XX TT))) (T.n (some (AV.b (decide (II k < (4 : Int))))) T.e T.e) T.e) (T.n (some (AV.p 3 6)) (T.n (some (AV.tup
  [])) T.e T.e) T.e)) (T.n none (T.n (some (AV.b (decide ((300 : Int) < Int.ofNat k)))) (T.n (some (AV.b (decide (Int.ofNat (List.length (XX k)) ≤ (51 : Int))))) T.e T.e) T.e) (T.n
  (some (AV.p 2 1)) T.e T.e))) (T.n (some (AV.b (decide (Int.ofNat (List.length (XX k)) ≤ (51 : Int))))) (T.n none (T.n (some (AV.i IntKind.i64 (Int.ofNat k))) (T.n (some (AV.b
  (decide (Int.ofNat (List.length (XX k)) ≤ (51 : Int))))) T.e T.e) T.e) (T.n (some (AV.i IntKind.i64 (II k))) T.e T.e)) (T.n none (T.n (some (AV.i IntKind.i64 (3 : Int))) (T.n
  (some (AV.tup [])) T.e T.e) T.e) (T.n (some (AV.p 2 1)) T.e T.e)))) (T.n none (T.n (some (AV.i IntKind.i64 (3 : Int))) (T.n none (T.n (some (AV.i IntKind.i64 (Int.ofNat k))) (T.n
  (some (AV.s (XX k))) T.e T.e) T.e) (T.n (some (AV.p 1 0)) T.e T.e)) (T.n none (T.n (some (AV.b false)) (T.n (some (AV.b !decide (CS.putE c s (II k) (XX k) = (0 : Int)) == decide
  (Int.ofNat (List.length (XX k)) ≤ (51 : Int)))) T.e T.e) T.e) (T.n (some (AV.b (decide ((0 : Int) ≤ II k)))) T.e T.e))) (T.n none (T.n none (T.n (some (AV.agg [AV.i IntKind.i64
  (KK k), AV.i IntKind.i64 (II k), AV.s (XX k), AV.b (TT k)])) (T.n (some (AV.i IntKind.i64 (CS.putE c s (II k) (XX k)))) T.e T.e) T.e) (T.n (some (AV.s (XX k))) T.e T.e)) (T.n none
  (T.n (some (AV.i IntKind.i64 (3 : Int))) (T.n (some (AV.tup [])) T.e T.e) T.e) (T.n (some (AV.b (decide (II k < (4 : Int))))) T.e T.e)))))) { tree := T.n (some (SS.o (CS.putS c s (II k) (XX k)))) (T.n (some (CS.oa (CS.putC c s (II k) (XX k)))) (T.n (some (AObj.cells 85 8 [AV.i IntKind.i64 (0 : Int), AV.s [], AV.i IntKind.i64 (0 : Int), AV.s [], AV.i IntKind.i64 (0 : Int), AV.s [], AV.i IntKind.i64 (0 : Int), AV.s []] (T.n (some (AV.i IntKind.i64 (Int.ofNat (CS.getQ c (0 : Int))))) (T.n (some (AV.s (CS.getD c (0 : Int)))) (T.n (some (AV.s (CS.getD c (1 : Int)))) (T.n (some (AV.s (CS.getD c (3 : Int)))) T.e T.e) T.e) (T.n (some (AV.s (CS.getD c (2 : Int)))) T.e T.e)) (T.n (some (AV.i IntKind.i64 (Int.ofNat (CS.getQ c (1 : Int))))) (T.n (some (AV.i IntKind.i64 (Int.ofNat (CS.getQ c (2 : Int))))) T.e T.e) (T.n (some (AV.i IntKind.i64 (Int.ofNat (CS.getQ c (3 : Int))))) T.e T.e))))) T.e T.e) T.e) (T.n (some (AObj.cells 75 4 [AV.i IntKind.i64 (0 : Int), AV.i IntKind.i64 (0 : Int), AV.s [], AV.b false] (T.n (some (AV.i IntKind.i64 (KK k))) (T.n (some (AV.i IntKind.i64 (II k))) (T.n (some (AV.b (TT k))) T.e T.e) T.e) (T.n (some (AV.s (XX k))) T.e T.e)))) T.e T.e), next := 4, log := [0, 1, 3, 3, 3, 3, 3, 2, 2] })
  Orc.z)) ∧ (decide (II k < (4 : Int)) = false → decide (II k < (4 : Int)) = false ∧ decide (II k < (4 : Int)) = false ∧ decide (II k < (4 : Int)) = false ∧ decide (II k < (4 :
  Int)) = false ∧ True ∧ ((!!decide (CS.putE c s (II k) (XX k) = (0 : Int)) == false) = true → (!!decide (CS.putE c s (II k) (XX k) = (0 : Int)) == false) = true ∧ True ∧ (!!decide
  (CS.putE c s (II k) (XX k) = (0 : Int)) == false) = true ∧ (!!decide (CS.putE c s (II k) (XX k) = (0 : Int)) == false) = true ∧ (!decide (CS.putE c s (II k) (XX k) = (0 : Int)) ==
  false) = false ∧ ((!decide (CS.putE c s (II k) (XX k) = (2 : Int))) = true → K (Res.st XO.ret (T.n none (T.n none (T.n none (T.n (some (AV.i IntKind.i64 (Int.ofNat k))) (T.n none
  (T.n none (T.n (some (AV.b (decide (II k < (4 : Int))))) T.e T.e) T.e) (T.n (some (AV.agg [AV.i IntKind.i64 (Int.ofNat (CS.getQ c (3 : Int))), AV.s (CS.getD c (3 : Int))])) (T.n
  (some (AV.b !decide (CS.putE c s (II k) (XX k) = (2 : Int)))) T.e T.e) T.e)) (T.n none (T.n (some (AV.i IntKind.i64 (Int.ofNat k))) (T.n (some (AV.b (decide (CS.putE c s (II k)
  (XX k) = (0 : Int))))) T.e T.e) T.e) (T.n (some (AV.i IntKind.i64 (CS.putE c s (II k) (XX k)))) T.e T.e))) (T.n (some (AV.i IntKind.i64 (CS.putE c s (II k) (XX k)))) (T.n none
  (T.n (some (AV.b (decide (Int.ofNat k < Int.ofNat L)))) (T.n (some (AV.tup [])) T.e T.e) T.e) (T.n (some (AV.p 2 1)) T.e T.e)) (T.n none (T.n (some (AV.i IntKind.i64 (3 : Int)))
  (T.n (some (AV.b false)) T.e T.e) T.e) (T.n (some (AV.b (decide ((0 : Int) ≤ II k)))) T.e T.e)))) (T.n (some (AV.p 1 0)) (T.n (some (AV.p 3 0)) (T.n none (T.n (some (AV.i
  IntKind.i64 (Int.ofNat L))) (T.n (some (AV.tup [])) T.e T.e) T.e) (T.n (some (AV.i IntKind.i64 (4 : Int))) (T.n (some (AV.b !decide (CS.putE c s (II k) (XX k) = (2 : Int)))) T.e
  T.e) T.e)) (T.n none (T.n (some (AV.i IntKind.i64 (4 : Int))) (T.n (some (AV.b !decide (CS.putE c s (II k) (XX k) = (0 : Int)) == false)) T.e T.e) T.e) (T.n (some (AV.i
  IntKind.i64 (II k))) T.e T.e))) (T.n none (T.n none (T.n (some (AV.pv 4 (opF KK II XX TT k))) (T.n (some (AV.b false)) T.e T.e) T.e) (T.n (some (AV.p 2 2)) T.e T.e)) (T.n none
  (T.n (some (AV.p 1 0)) (T.n (some (AV.b true)) T.e T.e) T.e) (T.n (some (AV.i IntKind.i64 (II k))) T.e T.e))))) (T.n (some (AV.b false)) (T.n none (T.n (some (AV.p 2 0)) (T.n none
  (T.n (some (AV.sv 4 L (opF KK II XX TT))) (T.n (some (AV.b (decide (II k < (4 : Int))))) T.e T.e) T.e) (T.n (some (AV.p 3 6)) (T.n (some (AV.b !decide (CS.putE c s (II k) (XX k) =
  (2 : Int)))) T.e T.e) T.e)) (T.n none (T.n (some (AV.b (decide ((300 : Int) < Int.ofNat k)))) (T.n (some (AV.b false)) T.e T.e) T.e) (T.n (some (AV.p 2 1)) T.e T.e))) (T.n (some
  (AV.b false)) (T.n none (T.n (some (AV.i IntKind.i64 (Int.ofNat k))) (T.n (some (AV.tup [])) T.e T.e) T.e) (T.n (some (AV.i IntKind.i64 (II k))) T.e T.e)) (T.n none (T.n (some
  (AV.i IntKind.i64 (3 : Int))) (T.n (some (AV.b true)) T.e T.e) T.e) (T.n (some (AV.p 2 1)) T.e T.e)))) (T.n none (T.n (some (AV.i IntKind.i64 (3 : Int))) (T.n none (T.n (some
  (AV.i IntKind.i64 (Int.ofNat k))) (T.n (some (AV.tup [])) T.e T.e) T.e) (T.n (some (AV.p 1 0)) T.e T.e)) (T.n none (T.n (some (AV.b false)) (T.n (some (AV.b !decide (CS.putE c s
  (II k) (XX k) = (0 : Int)) == false)) T.e T.e) T.e) (T.n (some (AV.b (decide ((0 : Int) ≤ II k)))) T.e T.e))) (T.n none (T.n none (T.n (some (AV.agg [AV.i IntKind.i64 (KK k), AV.i
  IntKind.i64 (II k), AV.s (XX k), AV.b (TT k)])) (T.n (some (AV.i IntKind.i64 (CS.putE c s (II k) (XX k)))) T.e T.e) T.e) (T.n (some (AV.s (XX k))) T.e T.e)) (T.n none (T.n (some
  (AV.i IntKind.i64 (3 : Int))) (T.n (some (AV.i IntKind.i64 (CS.putE c s (II k) (XX k)))) T.e T.e) T.e) (T.n (some (AV.b (decide (II k < (4 : Int))))) T.e T.e)))))) { tree := T.n (some (SS.o (CS.putS c s (II k) (XX k)))) (T.n (some (CS.oa (CS.putC c s (II k) (XX k)))) (T.n (some (AObj.cells 85 8 [AV.i IntKind.i64 (0 : Int), AV.s [], AV.i IntKind.i64 (0 : Int), AV.s [], AV.i IntKind.i64 (0 : Int), AV.s [], AV.i IntKind.i64 (0 : Int), AV.s []] (T.n (some (AV.i IntKind.i64 (Int.ofNat (CS.getQ c (0 : Int))))) (T.n (some (AV.s (CS.getD c (0 : Int)))) (T.n (some (AV.s (CS.getD c (1 : Int)))) (T.n (some (AV.s (CS.getD c (3 : Int)))) T.e T.e) T.e) (T.n (some (AV.s (CS.getD c (2 : Int)))) T.e T.e)) (T.n (some (AV.i IntKind.i64 (Int.ofNat (CS.getQ c (1 : Int))))) (T.n (some (AV.i IntKind.i64 (Int.ofNat (CS.getQ c (2 : Int))))) T.e T.e) (T.n (some (AV.i IntKind.i64 (Int.ofNat (CS.getQ c (3 : Int))))) T.e T.e))))) T.e T.e) T.e) (T.n (some (AObj.cells 75 4 [AV.i IntKind.i64 (0 : Int), AV.i IntKind.i64 (0 : Int), AV.s [], AV.b false] (T.n (some (AV.i IntKind.i64 (KK k))) (T.n (some (AV.i IntKind.i64 (II k))) (T.n (some (AV.b (TT k))) T.e T.e) T.e) (T.n (some (AV.s (XX k))) T.e T.e)))) T.e T.e), next := 4, log := [0, 1, 3, 3, 3, 3, 3, 2, 2] })
  Orc.z) ∧ ((!decide (CS.putE c s (II k) (XX k) = (2 : Int))) = false → LDoes Tryd.prog (loopAt Tryd.prog 13 2) 125 2 (mkT [(5, AV.p 1 0), (8, AV.p 2 0), (9, AV.p 3 0), (12, AV.b
  false), (32, AV.sv 4 L (opF KK II XX TT)), (33, AV.i IntKind.i64 (Int.ofNat L)), (34, AV.i IntKind.i64 (Int.ofNat k)), (82, AV.i IntKind.i64 (0 : Int))]) [some (SS.o (CS.putS c s
  (II k) (XX k))), some (CS.oa (CS.putC c s (II k) (XX k))), some (opO (KK k) (II k) (XX k) (TT k)), some (AObj.cells 85 8 [AV.i IntKind.i64 (0 : Int), AV.s [], AV.i IntKind.i64 (0
  : Int), AV.s [], AV.i IntKind.i64 (0 : Int), AV.s [], AV.i IntKind.i64 (0 : Int), AV.s []] (T.n (some (AV.i IntKind.i64 (Int.ofNat (CS.getQ c (0 : Int))))) (T.n (some (AV.s
  (CS.getD c (0 : Int)))) (T.n (some (AV.s (CS.getD c (1 : Int)))) (T.n (some (AV.s (CS.getD c (3 : Int)))) T.e T.e) T.e) (T.n (some (AV.s (CS.getD c (2 : Int)))) T.e T.e)) (T.n
  (some (AV.i IntKind.i64 (Int.ofNat (CS.getQ c (1 : Int))))) (T.n (some (AV.i IntKind.i64 (Int.ofNat (CS.getQ c (2 : Int))))) T.e T.e) (T.n (some (AV.i IntKind.i64 (Int.ofNat
  (CS.getQ c (3 : Int))))) T.e T.e))))] (XO.exit 4) (mkT [(5, AV.p 1 0), (32, AV.sv 4 L (opF KK II XX TT)), (33, AV.i IntKind.i64 (Int.ofNat L)), (34, AV.i IntKind.i64 (Int.ofNat
  k))]) [some (SS.o (CS.putS c s (II k) (XX k))), some (CS.oa (CS.putC c s (II k) (XX k)))] ∧ ((-9223372036854775808 : Int) ≤ Int.ofNat k + (1 : Int) ∧ Int.ofNat k + (1 : Int) ≤
  (9223372036854775807 : Int)) ∧ K (Res.st XO.nrm (T.n none (T.n none T.e (T.n (some (AV.p 1 0)) (T.n none (T.n none (T.n (some (AV.i IntKind.i64 (Int.ofNat L))) T.e T.e) T.e) T.e)
  T.e)) (T.n none (T.n none (T.n none (T.n none (T.n (some (AV.sv 4 L (opF KK II XX TT))) T.e T.e) T.e) T.e) T.e) (T.n none (T.n none (T.n none (T.n (some (AV.i IntKind.i64
  (Int.ofNat k + (1 : Int)))) T.e T.e) T.e) T.e) (T.n none T.e (T.n none (T.n none T.e (T.n (some (AV.i IntKind.i64 (Int.ofNat k + (1 : Int)))) T.e T.e)) T.e))))) { tree := T.n (some (SS.o (CS.putS c s (II k) (XX k)))) (T.n (some (CS.oa (CS.putC c s (II k) (XX k)))) (T.n none T.e T.e) T.e) (T.n none T.e T.e), next := 4, log := [3, 2, 1, 0, 0, 1, 3, 3, 3, 3, 3, 2, 2] })
  Orc.z)) ∧ ((!!decide (CS.putE c s (II k) (XX k) = (0 : Int)) == false) = false → (!!decide (CS.putE c s (II k) (XX k) = (0 : Int)) == false) = false ∧ (!!decide (CS.putE c s (II
  k) (XX k) = (0 : Int)) == false) = false ∧ (!!decide (CS.putE c s (II k) (XX k) = (0 : Int)) == false) = false ∧ (!decide (CS.putE c s (II k) (XX k) = (0 : Int)) == false) = true
  ∧ K (Res.st XO.ret (T.n none (T.n none (T.n none (T.n (some (AV.i IntKind.i64 (Int.ofNat k))) (T.n none (T.n none (T.n (some (AV.b (decide (II k < (4 : Int))))) T.e T.e) T.e) (T.n
  (some (AV.agg [AV.i IntKind.i64 (Int.ofNat (CS.getQ c (3 : Int))), AV.s (CS.getD c (3 : Int))])) (T.n (some (AV.tup [])) T.e T.e) T.e)) (T.n none (T.n (some (AV.i IntKind.i64
  (Int.ofNat k))) (T.n (some (AV.b (decide (CS.putE c s (II k) (XX k) = (0 : Int))))) T.e T.e) T.e) (T.n (some (AV.i IntKind.i64 (CS.putE c s (II k) (XX k)))) T.e T.e))) (T.n (some
  (AV.i IntKind.i64 (CS.putE c s (II k) (XX k)))) (T.n none (T.n (some (AV.b (decide (Int.ofNat k < Int.ofNat L)))) (T.n (some (AV.tup [])) T.e T.e) T.e) (T.n (some (AV.p 2 1)) T.e
  T.e)) (T.n none (T.n (some (AV.i IntKind.i64 (3 : Int))) (T.n (some (AV.tup [])) T.e T.e) T.e) (T.n (some (AV.b (decide ((0 : Int) ≤ II k)))) T.e T.e)))) (T.n (some (AV.p 1 0))
  (T.n (some (AV.p 3 0)) (T.n none (T.n (some (AV.i IntKind.i64 (Int.ofNat L))) (T.n (some (AV.tup [])) T.e T.e) T.e) (T.n (some (AV.i IntKind.i64 (4 : Int))) (T.n (some (AV.b
  true)) T.e T.e) T.e)) (T.n none (T.n (some (AV.i IntKind.i64 (4 : Int))) (T.n (some (AV.b !decide (CS.putE c s (II k) (XX k) = (0 : Int)) == false)) T.e T.e) T.e) (T.n (some (AV.i
  IntKind.i64 (II k))) T.e T.e))) (T.n none (T.n none (T.n (some (AV.pv 4 (opF KK II XX TT k))) (T.n (some (AV.b false)) T.e T.e) T.e) (T.n (some (AV.p 2 2)) T.e T.e)) (T.n none
  (T.n (some (AV.p 1 0)) (T.n (some (AV.tup [])) T.e T.e) T.e) (T.n (some (AV.i IntKind.i64 (II k))) T.e T.e))))) (T.n (some (AV.b false)) (T.n none (T.n (some (AV.p 2 0)) (T.n none
  (T.n (some (AV.sv 4 L (opF KK II XX TT))) (T.n (some (AV.b (decide (II k < (4 : Int))))) T.e T.e) T.e) (T.n (some (AV.p 3 6)) (T.n (some (AV.tup [])) T.e T.e) T.e)) (T.n none (T.n
  (some (AV.b (decide ((300 : Int) < Int.ofNat k)))) (T.n (some (AV.b false)) T.e T.e) T.e) (T.n (some (AV.p 2 1)) T.e T.e))) (T.n (some (AV.b false)) (T.n none (T.n (some (AV.i
  IntKind.i64 (Int.ofNat k))) (T.n (some (AV.tup [])) T.e T.e) T.e) (T.n (some (AV.i IntKind.i64 (II k))) T.e T.e)) (T.n none (T.n (some (AV.i IntKind.i64 (3 : Int))) (T.n (some
  (AV.tup [])) T.e T.e) T.e) (T.n (some (AV.p 2 1)) T.e T.e)))) (T.n none (T.n (some (AV.i IntKind.i64 (3 : Int))) (T.n none (T.n (some (AV.i IntKind.i64 (Int.ofNat k))) (T.n (some
  (AV.tup [])) T.e T.e) T.e) (T.n (some (AV.p 1 0)) T.e T.e)) (T.n none (T.n (some (AV.b false)) (T.n (some (AV.b !decide (CS.putE c s (II k) (XX k) = (0 : Int)) == false)) T.e T.e)
  T.e) (T.n (some (AV.b (decide ((0 : Int) ≤ II k)))) T.e T.e))) (T.n none (T.n none (T.n (some (AV.agg [AV.i IntKind.i64 (KK k), AV.i IntKind.i64 (II k), AV.s (XX k), AV.b (TT
  k)])) (T.n (some (AV.i IntKind.i64 (CS.putE c s (II k) (XX k)))) T.e T.e) T.e) (T.n (some (AV.s (XX k))) T.e T.e)) (T.n none (T.n (some (AV.i IntKind.i64 (3 : Int))) (T.n (some
  (AV.tup [])) T.e T.e) T.e) (T.n (some (AV.b (decide (II k < (4 : Int))))) T.e T.e)))))) { tree := T.n (some (SS.o (CS.putS c s (II k) (XX k)))) (T.n (some (CS.oa (CS.putC c s (II k) (XX k)))) (T.n (some (AObj.cells 85 8 [AV.i IntKind.i64 (0 : Int), AV.s [], AV.i IntKind.i64 (0 : Int), AV.s [], AV.i IntKind.i64 (0 : Int), AV.s [], AV.i IntKind.i64 (0 : Int), AV.s []] (T.n (some (AV.i IntKind.i64 (Int.ofNat (CS.getQ c (0 : Int))))) (T.n (some (AV.s (CS.getD c (0 : Int)))) (T.n (some (AV.s (CS.getD c (1 : Int)))) (T.n (some (AV.s (CS.getD c (3 : Int)))) T.e T.e) T.e) (T.n (some (AV.s (CS.getD c (2 : Int)))) T.e T.e)) (T.n (some (AV.i IntKind.i64 (Int.ofNat (CS.getQ c (1 : Int))))) (T.n (some (AV.i IntKind.i64 (Int.ofNat (CS.getQ c (2 : Int))))) T.e T.e) (T.n (some (AV.i IntKind.i64 (Int.ofNat (CS.getQ c (3 : Int))))) T.e T.e))))) T.e T.e) T.e) (T.n (some (AObj.cells 75 4 [AV.i IntKind.i64 (0 : Int), AV.i IntKind.i64 (0 : Int), AV.s [], AV.b false] (T.n (some (AV.i IntKind.i64 (KK k))) (T.n (some (AV.i IntKind.i64 (II k))) (T.n (some (AV.b (TT k))) T.e T.e) T.e) (T.n (some (AV.s (XX k))) T.e T.e)))) T.e T.e), next := 4, log := [0, 1, 3, 3, 3, 3, 3, 2, 2] })
  Orc.z))) ∧ (decide ((0 : Int) ≤ II k) = false → decide ((0 : Int) ≤ II k) = false ∧ decide ((0 : Int) ≤ II k) = false ∧ decide ((0 : Int) ≤ II k) = false ∧ True ∧ ((!!decide
  (CS.putE c s (II k) (XX k) = (0 : Int)) == false) = true → (!!decide (CS.putE c s (II k) (XX k) = (0 : Int)) == false) = true ∧ True ∧ (!!decide (CS.putE c s (II k) (XX k) = (0 :
  Int)) == false) = true ∧ (!!decide (CS.putE c s (II k) (XX k) = (0 : Int)) == false) = true ∧ (!decide (CS.putE c s (II k) (XX k) = (0 : Int)) == false) = false ∧ ((!decide
  (CS.putE c s (II k) (XX k) = (2 : Int))) = true → K (Res.st XO.ret (T.n none (T.n none (T.n none (T.n (some (AV.i IntKind.i64 (Int.ofNat k))) (T.n none (T.n none (T.n (some (AV.b
  false)) T.e T.e) T.e) (T.n (some (AV.agg [AV.i IntKind.i64 (Int.ofNat (CS.getQ c (3 : Int))), AV.s (CS.getD c (3 : Int))])) (T.n (some (AV.b !decide (CS.putE c s (II k) (XX k) =
  (2 : Int)))) T.e T.e) T.e)) (T.n none (T.n (some (AV.i IntKind.i64 (Int.ofNat k))) (T.n (some (AV.b (decide (CS.putE c s (II k) (XX k) = (0 : Int))))) T.e T.e) T.e) (T.n (some
  (AV.i IntKind.i64 (CS.putE c s (II k) (XX k)))) T.e T.e))) (T.n (some (AV.i IntKind.i64 (CS.putE c s (II k) (XX k)))) (T.n none (T.n (some (AV.b (decide (Int.ofNat k < Int.ofNat
  L)))) (T.n (some (AV.tup [])) T.e T.e) T.e) (T.n (some (AV.p 2 1)) T.e T.e)) (T.n none (T.n (some (AV.i IntKind.i64 (3 : Int))) (T.n (some (AV.b false)) T.e T.e) T.e) (T.n (some
  (AV.b (decide ((0 : Int) ≤ II k)))) T.e T.e)))) (T.n (some (AV.p 1 0)) (T.n (some (AV.p 3 0)) (T.n none (T.n (some (AV.i IntKind.i64 (Int.ofNat L))) (T.n (some (AV.tup [])) T.e
  T.e) T.e) (T.n (some (AV.i IntKind.i64 (4 : Int))) (T.n (some (AV.b !decide (CS.putE c s (II k) (XX k) = (2 : Int)))) T.e T.e) T.e)) (T.n none (T.n (some (AV.i IntKind.i64 (4 :
  Int))) (T.n (some (AV.b !decide (CS.putE c s (II k) (XX k) = (0 : Int)) == false)) T.e T.e) T.e) (T.n (some (AV.i IntKind.i64 (II k))) T.e T.e))) (T.n none (T.n none (T.n (some
  (AV.pv 4 (opF KK II XX TT k))) (T.n (some (AV.b false)) T.e T.e) T.e) (T.n (some (AV.p 2 2)) T.e T.e)) (T.n none (T.n (some (AV.p 1 0)) (T.n (some (AV.b true)) T.e T.e) T.e) (T.n
  (some (AV.tup [])) T.e T.e))))) (T.n (some (AV.b false)) (T.n none (T.n (some (AV.p 2 0)) (T.n none (T.n (some (AV.sv 4 L (opF KK II XX TT))) (T.n (some (AV.b false)) T.e T.e)
  T.e) (T.n (some (AV.p 3 6)) (T.n (some (AV.b !decide (CS.putE c s (II k) (XX k) = (2 : Int)))) T.e T.e) T.e)) (T.n none (T.n (some (AV.b (decide ((300 : Int) < Int.ofNat k))))
  (T.n (some (AV.b false)) T.e T.e) T.e) (T.n (some (AV.p 2 1)) T.e T.e))) (T.n (some (AV.b false)) (T.n none (T.n (some (AV.i IntKind.i64 (Int.ofNat k))) (T.n (some (AV.tup []))
  T.e T.e) T.e) (T.n (some (AV.i IntKind.i64 (II k))) T.e T.e)) (T.n none (T.n (some (AV.i IntKind.i64 (3 : Int))) (T.n (some (AV.b true)) T.e T.e) T.e) (T.n (some (AV.tup [])) T.e
  T.e)))) (T.n none (T.n (some (AV.i IntKind.i64 (3 : Int))) (T.n none (T.n (some (AV.i IntKind.i64 (Int.ofNat k))) (T.n (some (AV.tup [])) T.e T.e) T.e) (T.n (some (AV.p 1 0)) T.e
  T.e)) (T.n none (T.n (some (AV.b false)) (T.n (some (AV.b !decide (CS.putE c s (II k) (XX k) = (0 : Int)) == false)) T.e T.e) T.e) (T.n (some (AV.b (decide ((0 : Int) ≤ II k))))
  T.e T.e))) (T.n none (T.n none (T.n (some (AV.agg [AV.i IntKind.i64 (KK k), AV.i IntKind.i64 (II k), AV.s (XX k), AV.b (TT k)])) (T.n (some (AV.i IntKind.i64 (CS.putE c s (II k)
  (XX k)))) T.e T.e) T.e) (T.n (some (AV.s (XX k))) T.e T.e)) (T.n none (T.n (some (AV.i IntKind.i64 (3 : Int))) (T.n (some (AV.i IntKind.i64 (CS.putE c s (II k) (XX k)))) T.e T.e)
  T.e) (T.n (some (AV.tup [])) T.e T.e)))))) { tree := T.n (some (SS.o (CS.putS c s (II k) (XX k)))) (T.n (some (CS.oa (CS.putC c s (II k) (XX k)))) (T.n (some (AObj.cells 85 8 [AV.i IntKind.i64 (0 : Int), AV.s [], AV.i IntKind.i64 (0 : Int), AV.s [], AV.i IntKind.i64 (0 : Int), AV.s [], AV.i IntKind.i64 (0 : Int), AV.s []] (T.n (some (AV.i IntKind.i64 (Int.ofNat (CS.getQ c (0 : Int))))) (T.n (some (AV.s (CS.getD c (0 : Int)))) (T.n (some (AV.s (CS.getD c (1 : Int)))) (T.n (some (AV.s (CS.getD c (3 : Int)))) T.e T.e) T.e) (T.n (some (AV.s (CS.getD c (2 : Int)))) T.e T.e)) (T.n (some (AV.i IntKind.i64 (Int.ofNat (CS.getQ c (1 : Int))))) (T.n (some (AV.i IntKind.i64 (Int.ofNat (CS.getQ c (2 : Int))))) T.e T.e) (T.n (some (AV.i IntKind.i64 (Int.ofNat (CS.getQ c (3 : Int))))) T.e T.e))))) T.e T.e) T.e) (T.n (some (AObj.cells 75 4 [AV.i IntKind.i64 (0 : Int), AV.i IntKind.i64 (0 : Int), AV.s [], AV.b false] (T.n (some (AV.i IntKind.i64 (KK k))) (T.n (some (AV.i IntKind.i64 (II k))) (T.n (some (AV.b (TT k))) T.e T.e) T.e) (T.n (some (AV.s (XX k))) T.e T.e)))) T.e T.e), next := 4, log := [0, 1, 3, 3, 3, 3, 3, 2, 2] })
  Orc.z) ∧ ((!decide (CS.putE c s (II k) (XX k) = (2 : Int))) = false → LDoes Tryd.prog (loopAt Tryd.prog 13 2) 125 2 (mkT [(5, AV.p 1 0), (8, AV.p 2 0), (9, AV.p 3 0), (12, AV.b
  false), (32, AV.sv 4 L (opF KK II XX TT)), (33, AV.i IntKind.i64 (Int.ofNat L)), (34, AV.i IntKind.i64 (Int.ofNat k)), (82, AV.i IntKind.i64 (0 : Int))]) [some (SS.o (CS.putS c s
  (II k) (XX k))), some (CS.oa (CS.putC c s (II k) (XX k))), some (opO (KK k) (II k) (XX k) (TT k)), some (AObj.cells 85 8 [AV.i IntKind.i64 (0 : Int), AV.s [], AV.i IntKind.i64 (0
  : Int), AV.s [], AV.i IntKind.i64 (0 : Int), AV.s [], AV.i IntKind.i64 (0 : Int), AV.s []] (T.n (some (AV.i IntKind.i64 (Int.ofNat (CS.getQ c (0 : Int))))) (T.n (some (AV.s
  (CS.getD c (0 : Int)))) (T.n (some (AV.s (CS.getD c (1 : Int)))) (T.n (some (AV.s (CS.getD c (3 : Int)))) T.e T.e) T.e) (T.n (some (AV.s (CS.getD c (2 : Int)))) T.e T.e)) (T.n
  (some (AV.i IntKind.i64 (Int.ofNat (CS.getQ c (1 : Int))))) (T.n (some (AV.i IntKind.i64 (Int.ofNat (CS.getQ c (2 : Int))))) T.e T.e) (T.n (some (AV.i IntKind.i64 (Int.ofNat
  (CS.getQ c (3 : Int))))) T.e T.e))))] (XO.exit 4) (mkT [(5, AV.p 1 0), (32, AV.sv 4 L (opF KK II XX TT)), (33, AV.i IntKind.i64 (Int.ofNat L)), (34, AV.i IntKind.i64 (Int.ofNat
  k))]) [some (SS.o (CS.putS c s (II k) (XX k))), some (CS.oa (CS.putC c s (II k) (XX k)))] ∧ ((-9223372036854775808 : Int) ≤ Int.ofNat k + (1 : Int) ∧ Int.ofNat k + (1 : Int) ≤
  (9223372036854775807 : Int)) ∧ K (Res.st XO.nrm (T.n none (T.n none T.e (T.n (some (AV.p 1 0)) (T.n none (T.n none (T.n (some (AV.i IntKind.i64 (Int.ofNat L))) T.e T.e) T.e) T.e)
  T.e)) (T.n none (T.n none (T.n none (T.n none (T.n (some (AV.sv 4 L (opF KK II XX TT))) T.e T.e) T.e) T.e) T.e) (T.n none (T.n none (T.n none (T.n (some (AV.i IntKind.i64
  (Int.ofNat k + (1 : Int)))) T.e T.e) T.e) T.e) (T.n none T.e (T.n none (T.n none T.e (T.n (some (AV.i IntKind.i64 (Int.ofNat k + (1 : Int)))) T.e T.e)) T.e))))) { tree := T.n (some (SS.o (CS.putS c s (II k) (XX k)))) (T.n (some (CS.oa (CS.putC c s (II k) (XX k)))) (T.n none T.e T.e) T.e) (T.n none T.e T.e), next := 4, log := [3, 2, 1, 0, 0, 1, 3, 3, 3, 3, 3, 2, 2] })
  Orc.z)) ∧ ((!!decide (CS.putE c s (II k) (XX k) = (0 : Int)) == false) = false → (!!decide (CS.putE c s (II k) (XX k) = (0 : Int)) == false) = false ∧ (!!decide (CS.putE c s (II
  k) (XX k) = (0 : Int)) == false) = false ∧ (!!decide (CS.putE c s (II k) (XX k) = (0 : Int)) == false) = false ∧ (!decide (CS.putE c s (II k) (XX k) = (0 : Int)) == false) = true
  ∧ K (Res.st XO.ret (T.n none (T.n none (T.n none (T.n (some (AV.i IntKind.i64 (Int.ofNat k))) (T.n none (T.n none (T.n (some (AV.b false)) T.e T.e) T.e) (T.n (some (AV.agg [AV.i
  IntKind.i64 (Int.ofNat (CS.getQ c (3 : Int))), AV.s (CS.getD c (3 : Int))])) (T.n (some (AV.tup [])) T.e T.e) T.e)) (T.n none (T.n (some (AV.i IntKind.i64 (Int.ofNat k))) (T.n
  (some (AV.b (decide (CS.putE c s (II k) (XX k) = (0 : Int))))) T.e T.e) T.e) (T.n (some (AV.i IntKind.i64 (CS.putE c s (II k) (XX k)))) T.e T.e))) (T.n (some (AV.i IntKind.i64
  (CS.putE c s (II k) (XX k)))) (T.n none (T.n (some (AV.b (decide (Int.ofNat k < Int.ofNat L)))) (T.n (some (AV.tup [])) T.e T.e) T.e) (T.n (some (AV.p 2 1)) T.e T.e)) (T.n none
  (T.n (some (AV.i IntKind.i64 (3 : Int))) (T.n (some (AV.tup [])) T.e T.e) T.e) (T.n (some (AV.b (decide ((0 : Int) ≤ II k)))) T.e T.e)))) (T.n (some (AV.p 1 0)) (T.n (some (AV.p 3
  0)) (T.n none (T.n (some (AV.i IntKind.i64 (Int.ofNat L))) (T.n (some (AV.tup [])) T.e T.e) T.e) (T.n (some (AV.i IntKind.i64 (4 : Int))) (T.n (some (AV.b true)) T.e T.e) T.e))
  (T.n none (T.n (some (AV.i IntKind.i64 (4 : Int))) (T.n (some (AV.b !decide (CS.putE c s (II k) (XX k) = (0 : Int)) == false)) T.e T.e) T.e) (T.n (some (AV.i IntKind.i64 (II k)))
  T.e T.e))) (T.n none (T.n none (T.n (some (AV.pv 4 (opF KK II XX TT k))) (T.n (some (AV.b false)) T.e T.e) T.e) (T.n (some (AV.p 2 2)) T.e T.e)) (T.n none (T.n (some (AV.p 1 0))
  (T.n (some (AV.tup [])) T.e T.e) T.e) (T.n (some (AV.tup [])) T.e T.e))))) (T.n (some (AV.b false)) (T.n none (T.n (some (AV.p 2 0)) (T.n none (T.n (some (AV.sv 4 L (opF KK II XX
  TT))) (T.n (some (AV.b false)) T.e T.e) T.e) (T.n (some (AV.p 3 6)) (T.n (some (AV.tup [])) T.e T.e) T.e)) (T.n none (T.n (some (AV.b (decide ((300 : Int) < Int.ofNat k)))) (T.n
  (some (AV.b false)) T.e T.e) T.e) (T.n (some (AV.p 2 1)) T.e T.e))) (T.n (some (AV.b false)) (T.n none (T.n (some (AV.i IntKind.i64 (Int.ofNat k))) (T.n (some (AV.tup [])) T.e
  T.e) T.e) (T.n (some (AV.i IntKind.i64 (II k))) T.e T.e)) (T.n none (T.n (some (AV.i IntKind.i64 (3 : Int))) (T.n (some (AV.tup [])) T.e T.e) T.e) (T.n (some (AV.tup [])) T.e
  T.e)))) (T.n none (T.n (some (AV.i IntKind.i64 (3 : Int))) (T.n none (T.n (some (AV.i IntKind.i64 (Int.ofNat k))) (T.n (some (AV.tup [])) T.e T.e) T.e) (T.n (some (AV.p 1 0)) T.e
  T.e)) (T.n none (T.n (some (AV.b false)) (T.n (some (AV.b !decide (CS.putE c s (II k) (XX k) = (0 : Int)) == false)) T.e T.e) T.e) (T.n (some (AV.b (decide ((0 : Int) ≤ II k))))
  T.e T.e))) (T.n none (T.n none (T.n (some (AV.agg [AV.i IntKind.i64 (KK k), AV.i IntKind.i64 (II k), AV.s (XX k), AV.b (TT k)])) (T.n (some (AV.i IntKind.i64 (CS.putE c s (II k)
  (XX k)))) T.e T.e) T.e) (T.n (some (AV.s (XX k))) T.e T.e)) (T.n none (T.n (some (AV.i IntKind.i64 (3 : Int))) (T.n (some (AV.tup [])) T.e T.e) T.e) (T.n (some (AV.tup [])) T.e
  T.e)))))) { tree := T.n (some (SS.o (CS.putS c s (II k) (XX k)))) (T.n (some (CS.oa (CS.putC c s (II k) (XX k)))) (T.n (some (AObj.cells 85 8 [AV.i IntKind.i64 (0 : Int), AV.s [], AV.i IntKind.i64 (0 : Int), AV.s [], AV.i IntKind.i64 (0 : Int), AV.s [], AV.i IntKind.i64 (0 : Int), AV.s []] (T.n (some (AV.i IntKind.i64 (Int.ofNat (CS.getQ c (0 : Int))))) (T.n (some (AV.s (CS.getD c (0 : Int)))) (T.n (some (AV.s (CS.getD c (1 : Int)))) (T.n (some (AV.s (CS.getD c (3 : Int)))) T.e T.e) T.e) (T.n (some (AV.s (CS.getD c (2 : Int)))) T.e T.e)) (T.n (some (AV.i IntKind.i64 (Int.ofNat (CS.getQ c (1 : Int))))) (T.n (some (AV.i IntKind.i64 (Int.ofNat (CS.getQ c (2 : Int))))) T.e T.e) (T.n (some (AV.i IntKind.i64 (Int.ofNat (CS.getQ c (3 : Int))))) T.e T.e))))) T.e T.e) T.e) (T.n (some (AObj.cells 75 4 [AV.i IntKind.i64 (0 : Int), AV.i IntKind.i64 (0 : Int), AV.s [], AV.b false] (T.n (some (AV.i IntKind.i64 (KK k))) (T.n (some (AV.i IntKind.i64 (II k))) (T.n (some (AV.b (TT k))) T.e T.e) T.e) (T.n (some (AV.s (XX k))) T.e T.e)))) T.e T.e), next := 4, log := [0, 1, 3, 3, 3, 3, 3, 2, 2] })
  Orc.z)))) ∧ (decide (Int.ofNat k < Int.ofNat L) = false → K (Res.st (XO.exit 0) (T.n none (T.n none (T.n none T.e (T.n none (T.n none (T.n (some (AV.b (decide (Int.ofNat k <
  Int.ofNat L)))) T.e T.e) T.e) T.e)) (T.n (some (AV.p 1 0)) (T.n none (T.n none (T.n (some (AV.i IntKind.i64 (Int.ofNat L))) T.e T.e) T.e) T.e) T.e)) (T.n none (T.n none (T.n none
  (T.n none (T.n (some (AV.sv 4 L (opF KK II XX TT))) T.e T.e) T.e) T.e) T.e) (T.n none (T.n none (T.n none (T.n (some (AV.i IntKind.i64 (Int.ofNat k))) T.e T.e) T.e) T.e) T.e))) { tree := T.n (some (SS.o s)) (T.n (some (CS.oa c)) T.e T.e) T.e, next := 2, log := [] })
  Orc.z)) := by kernel_rfl

noncomputable def gw0 : SS := SS.new 8
noncomputable def gk0 : CS := opened gw0 4

/-- What holds ahead of each round. -/
structure GrI (k : Nat) (c : CS) (s : SS) : Prop where
  hk : k ≤ 301
  inv : Inv c s k
  n : c.n = 4
  dead : c.dead = false
  off : s.off = false
  armed : s.armed = false
  q : ∀ j, c.q j ≤ k

theorem growL_lp (L : Nat) (KK II : Nat → Int) (XX : Nat → List Nat) (TT : Nat → Bool) (hX : ∀ i, ∀ b ∈ XX i, b < 256) (h0 : GrI 0 gk0 gw0) :
    LDoes Tryd.prog (loopAt Tryd.prog 13 0) 125 0 (mkT [(5, .p 1 0), (32, .sv 4 L (opF KK II XX TT)), (33, .i .i64 (Int.ofNat L)), (34, .i .i64 0)]) [some gw0.o, some gk0.oa] (.exit 0) (mkT []) [] := by
  refine loop_ind (D := Nat × CS × SS) (l' := []) (fun e => ([(5, .p 1 0), (32, .sv 4 L (opF KK II XX TT)), (33, .i .i64 (Int.ofNat L)), (34, .i .i64 (Int.ofNat e.1))], [some e.2.2.o, some e.2.1.oa])) (fun e => 400 - e.1)
    (fun e => GrI e.1 e.2.1 e.2.2) ?_ (0, gk0, gw0) h0
  rintro ⟨k, c, s⟩ hI
  simp only at hI
  obtain ⟨hk, inv, hn, hdd, hoff, harm, hq⟩ := hI
  have hc : c.n ≤ 256 := inv.hc
  have gc := fun (c : CS) (s : SS) (j : Int) (h : c.n ≤ 256) => get_con c s j h
  have pc := inv.put_con (by omega) (II k) (XX k) (hX k)
  have inv' := inv.put (II k) (XX k) (hX k)
  have gq : ∀ j : Nat, j < 4 → c.getQ (Int.ofNat j) = c.q j := fun j hj => getQ_in (by omega)
  have gd : ∀ j : Nat, j < 4 → c.getD (Int.ofNat j) = c.d j := fun j hj => getD_in (by omega)
  refine ⟨Nat.zero_le _, 1000000, ?_⟩
  -- how a round ends
  have fin : ∀ (c' : CS) (s' : SS) tm1 H1, GrI (k + 1) c' s' → StIs 0 [0, 1] [] tm1 H1 [(5, .p 1 0), (32, .sv 4 L (opF KK II XX TT)), (33, .i .i64 (Int.ofNat L)), (34, .i .i64 (Int.ofNat (k + 1)))] [some s'.o, some c'.oa] →
      k < 301 → RoundIs 0 (fun e : Nat × CS × SS => ([(5, .p 1 0), (32, .sv 4 L (opF KK II XX TT)), (33, .i .i64 (Int.ofNat L)), (34, .i .i64 (Int.ofNat e.1))], [some e.2.2.o, some e.2.1.oa])) (fun e => 400 - e.1) (fun e => GrI e.1 e.2.1 e.2.2) (.exit 0) [] [] (k, c, s) (.st .nrm tm1 H1) :=
    fun c' s' tm1 H1 hg hst hlt => .inl ⟨(k + 1, c', s'), [0, 1], [], _, _, hg, by simp only; omega, rfl, hst⟩
  have ext : ∀ tm1 H1, StIs 0 [] [] tm1 H1 [] [] → RoundIs 0 (fun e : Nat × CS × SS => ([(5, .p 1 0), (32, .sv 4 L (opF KK II XX TT)), (33, .i .i64 (Int.ofNat L)), (34, .i .i64 (Int.ofNat e.1))], [some e.2.2.o, some e.2.1.oa])) (fun e => 400 - e.1) (fun e => GrI e.1 e.2.1 e.2.2) (.exit 0) [] [] (k, c, s) (.st (.exit 0) tm1 H1) :=
    fun tm1 H1 hst => .inr ⟨[], [], _, _, rfl, by simp, hst⟩
  have bq : ∀ j : Nat, c.getQ (Int.ofNat j) < 1099511627776 := fun j => by
    unfold CS.getQ
    split
    · have := hq (Int.ofNat j).toNat; omega
    · decide
  have leaf : ∀ (gdv : Bool), (∀ j : Nat, j < 4 → (c.putC s (II k) (XX k)).getQ (Int.ofNat j) = exQ gdv (II k) (fun j => c.getQ (Int.ofNat j)) j) → (∀ j : Nat, j < 4 → (c.putC s (II k) (XX k)).getD (Int.ofNat j) = exD gdv (II k) (XX k) (fun j => c.getD (Int.ofNat j)) j) →
      LDoes Tryd.prog (loopAt Tryd.prog 13 2) 125 2 (mkT [(5, .p 1 0), (8, .p 2 0), (9, .p 3 0), (12, .b gdv), (32, .sv 4 L (opF KK II XX TT)), (33, .i .i64 (Int.ofNat L)), (34, .i .i64 (Int.ofNat k)), (82, .i .i64 0)]) [some (c.putS s (II k) (XX k)).o, some (c.putC s (II k) (XX k)).oa, some (opO (KK k) (II k) (XX k) (TT k)), some (wasO (fun j => c.getQ (Int.ofNat j)) (fun j => c.getD (Int.ofNat j)))] (.exit 4) (mkT [(5, .p 1 0), (32, .sv 4 L (opF KK II XX TT)), (33, .i .i64 (Int.ofNat L)), (34, .i .i64 (Int.ofNat k))]) [some (c.putS s (II k) (XX k)).o, some (c.putC s (II k) (XX k)).oa] :=
    fun gdv h1 h2 => growI_lp (c.putC s (II k) (XX k)) (c.putS s (II k) (XX k)) L k KK II XX TT _ _ (KK k) (II k) (XX k) gdv (TT k) inv'.hc h1 h2 bq
  refine ⟨_, (growR_vc c s L k KK II XX TT _).mpr ⟨fun hlt => ?_, fun hge => ext _ _ (st_is [] (by kernel_rfl) rfl rfl rfl trivial rfl)⟩⟩
  have hlt : k < L := by have := of_decide_eq_true hlt; simp at this; omega
  refine ⟨⟨by simp, by simp; omega⟩, trivial, fun h => ext _ _ (st_is [] (by kernel_rfl) rfl rfl rfl trivial rfl), fun h300 => ?_⟩
  have hk3 : k < 301 := by have := of_decide_eq_false h300; simp at this; omega
  refine ⟨gc c s 0 hc, by decide, gc c s 1 hc, by decide, gc c s 2 hc, by decide, gc c s 3 hc, by decide, trivial, trivial, pc, trivial, ?_⟩
  by_cases good : (0 ≤ II k ∧ II k < 4) ∧ (XX k).length ≤ 51
  · obtain ⟨hi, hl⟩ := good
    have hi' : 0 ≤ II k ∧ II k < Int.ofNat c.n := by rw [hn]; exact hi
    obtain ⟨pe, pC, po, pa⟩ := put_good inv hdd hoff harm hi' hl (by have := hq (II k).toNat; omega)
    have d0 : decide (0 ≤ II k) = true := decide_eq_true hi.1
    have d4 : decide (II k < 4) = true := decide_eq_true hi.2
    have dl : decide (Int.ofNat (XX k).length ≤ 51) = true := by simp; omega
    have hE0 : decide (c.putE s (II k) (XX k) = 0) = true := decide_eq_true pe
    have nC : (c.putC s (II k) (XX k)).n = 4 := by rw [pC]; exact hn
    have lf := leaf true (fun j hj => by
      rw [getQ_in (by rw [nC]; exact hj), pC]
      unfold exQ
      simp only [gq j hj, Bool.true_and]
      show (bif Nat.beq j (II k).toNat then c.q (II k).toNat + 1 else c.q j) = _
      by_cases e : j = (II k).toNat
      · have b : Nat.beq j (II k).toNat = true := by rw [e]; exact Nat.beq_refl _
        have b2 : decide (Int.ofNat j = II k) = true := by rw [decide_eq_true_iff, e]; simp; omega
        rw [b, b2, cond_true, cond_true, ← e]
      · have b : Nat.beq j (II k).toNat = false := by rw [Bool.eq_false_iff, ne_eq, Nat.beq_eq]; exact e
        have b2 : decide (Int.ofNat j = II k) = false := by rw [decide_eq_false_iff_not]; intro h; apply e; rw [← h]; rfl
        rw [b, b2, cond_false, cond_false]) (fun j hj => by
      rw [getD_in (by rw [nC]; exact hj), pC]
      unfold exD
      simp only [gd j hj, Bool.true_and]
      show (bif Nat.beq j (II k).toNat then XX k else c.d j) = _
      by_cases e : j = (II k).toNat
      · have b : Nat.beq j (II k).toNat = true := by rw [e]; exact Nat.beq_refl _
        have b2 : decide (Int.ofNat j = II k) = true := by rw [decide_eq_true_iff, e]; simp; omega
        simp only [b, b2, cond_true]
      · have b : Nat.beq j (II k).toNat = false := by rw [Bool.eq_false_iff, ne_eq, Nat.beq_eq]; exact e
        have b2 : decide (Int.ofNat j = II k) = false := by rw [decide_eq_false_iff_not]; intro h; apply e; rw [← h]; rfl
        simp only [b, b2, cond_false])
    have gI : GrI (k + 1) (c.putC s (II k) (XX k)) (c.putS s (II k) (XX k)) := ⟨by omega, inv', nC, by rw [pC]; exact hdd, po, pa, fun j => by
      rw [pC]
      show (bif Nat.beq j (II k).toNat then c.q (II k).toNat + 1 else c.q j) ≤ k + 1
      cases Nat.beq j (II k).toNat with
      | true => rw [cond_true]; have := hq (II k).toNat; omega
      | false => rw [cond_false]; have := hq j; omega⟩
    refine ⟨fun _ => ⟨trivial, d0, d0, d0, fun _ => ⟨trivial, d4, d4, d4, d4, trivial, fun h => ?_, fun h => ?_⟩, fun h => (by rw [d4] at h; cases h)⟩, fun h => (by rw [d0] at h; cases h)⟩
    · simp only [hE0, dl, Bool.not_true, Bool.not_false, beq_self_eq_true, true_implies, false_implies, reduceCtorEq, and_true, true_and]
      exact ⟨Eq.mp (by kernel_rfl) lf, by simp <;> omega, fin _ _ _ _ gI (st_is [0, 1] (by kernel_rfl) rfl rfl rfl ⟨by kernel_rfl, by kernel_rfl, by kernel_rfl, by kernel_rfl, trivial⟩ rfl) hk3⟩
    · exfalso; rw [hE0, dl] at h; cases h
  · have hb : ¬ (0 ≤ II k ∧ II k < Int.ofNat c.n) ∨ 51 < (XX k).length := by
      rw [hn]
      by_cases h1 : 0 ≤ II k ∧ II k < 4
      · exact .inr (by have : ¬ (XX k).length ≤ 51 := fun h => good ⟨h1, h⟩; omega)
      · exact .inl h1
    obtain ⟨pe, pC, pS⟩ := put_bad s hdd hb
    have hE0 : decide (c.putE s (II k) (XX k) = 0) = false := by rw [pe]; rfl
    have hE2 : decide (c.putE s (II k) (XX k) = 2) = true := by rw [pe]; rfl
    have lf := leaf false (fun j hj => by rw [pC]; unfold exQ; rw [Bool.false_and, cond_false]) (fun j hj => by rw [pC]; unfold exD; rw [Bool.false_and, cond_false])
    have gI : GrI (k + 1) (c.putC s (II k) (XX k)) (c.putS s (II k) (XX k)) := ⟨by omega, inv', by rw [pC]; exact hn, by rw [pC]; exact hdd, by rw [pS]; exact hoff, by rw [pS]; exact harm, fun j => by rw [pC]; have := hq j; omega⟩
    by_cases h0 : 0 ≤ II k
    · have d0 : decide (0 ≤ II k) = true := decide_eq_true h0
      by_cases h4 : II k < 4
      · have d4 : decide (II k < 4) = true := decide_eq_true h4
        have dl : decide (Int.ofNat (XX k).length ≤ 51) = false := by
          have : ¬ (XX k).length ≤ 51 := fun h => good ⟨⟨h0, h4⟩, h⟩
          simp; omega
        refine ⟨fun _ => ⟨trivial, d0, d0, d0, fun _ => ⟨trivial, d4, d4, d4, d4, trivial, fun h => ?_, fun h => ?_⟩, fun h => (by rw [d4] at h; cases h)⟩, fun h => (by rw [d0] at h; cases h)⟩
        · simp only [hE0, hE2, dl, Bool.not_true, Bool.not_false, beq_self_eq_true, true_implies, false_implies, reduceCtorEq, and_true, true_and]
          exact ⟨Eq.mp (by kernel_rfl) lf, by simp <;> omega, fin _ _ _ _ gI (st_is [0, 1] (by kernel_rfl) rfl rfl rfl ⟨by kernel_rfl, by kernel_rfl, by kernel_rfl, by kernel_rfl, trivial⟩ rfl) hk3⟩
        · exfalso; rw [hE0, dl] at h; cases h
      · have d4 : decide (II k < 4) = false := decide_eq_false h4
        refine ⟨fun _ => ⟨trivial, d0, d0, d0, fun h => (by rw [d4] at h; cases h), fun _ => ⟨d4, d4, d4, d4, trivial, fun h => ?_, fun h => ?_⟩⟩, fun h => (by rw [d0] at h; cases h)⟩
        · simp only [hE0, hE2, Bool.not_true, Bool.not_false, beq_self_eq_true, true_implies, false_implies, reduceCtorEq, and_true, true_and]
          exact ⟨Eq.mp (by kernel_rfl) lf, by simp <;> omega, fin _ _ _ _ gI (st_is [0, 1] (by kernel_rfl) rfl rfl rfl ⟨by kernel_rfl, by kernel_rfl, by kernel_rfl, by kernel_rfl, trivial⟩ rfl) hk3⟩
        · exfalso; rw [hE0] at h; cases h
    · have d0 : decide (0 ≤ II k) = false := decide_eq_false h0
      refine ⟨fun h => (by rw [d0] at h; cases h), fun _ => ⟨d0, d0, d0, trivial, fun h => ?_, fun h => ?_⟩⟩
      · simp only [hE0, hE2, Bool.not_true, Bool.not_false, beq_self_eq_true, true_implies, false_implies, reduceCtorEq, and_true, true_and]
        exact ⟨Eq.mp (by kernel_rfl) lf, by simp <;> omega, fin _ _ _ _ gI (st_is [0, 1] (by kernel_rfl) rfl rfl rfl ⟨by kernel_rfl, by kernel_rfl, by kernel_rfl, by kernel_rfl, trivial⟩ rfl) hk3⟩
      · exfalso; rw [hE0] at h; cases h

theorem grow_vc (L : Nat) (KK II : Nat → Int) (XX : Nat → List Nat) (TT : Nat → Bool) (K : Res → Orc → Prop) : runK Tryd.prog 1000000 (.call 13 [.sv 4 L (opF KK II XX TT)] (mkH
  [])) (Orc.cal [] (AV.b true) [] (Orc.c (Orc.cal [] (AV.tup [AV.p 0 0, AV.i IntKind.i64 (0 : Int)]) [Upd.set (SS.o gw0)] (Orc.cal [0] (AV.tup [AV.p 1 0, AV.i IntKind.i64 (0 :
  Int)]) [Upd.keep, Upd.set (CS.oa gk0)] (Orc.c (Orc.c (Orc.c (Orc.c (Orc.lop [0, 1] [5, 32, 33, 34] 0 (XO.exit 0) [] [] (Orc.cal [] (AV.i IntKind.i64 (1 : Int)) [] (Orc.c (Orc.c
  (Orc.cal [] (AV.agg [AV.i IntKind.i64 (0 : Int), AV.s []]) [] (Orc.c (Orc.c (Orc.c (Orc.c (Orc.c (Orc.cal [] (AV.i IntKind.i64 (0 : Int)) [] (Orc.c (Orc.c
  Orc.z))))))))))))))))))))) K = (Con Tryd.prog 44 [] [] (AV.b true) [] ∧ True ∧ Con Tryd.prog 14 [AV.i IntKind.i64 (8 : Int)] [] (AV.tup [AV.p 0 0, AV.i IntKind.i64 (0 : Int)])
  [Upd.set (SS.o gw0)] ∧ Con Tryd.prog 43 [AV.p 0 0, AV.i IntKind.i64 (4 : Int)] [some (SS.o gw0)] (AV.tup [AV.p 1 0, AV.i IntKind.i64 (0 : Int)]) [Upd.keep, Upd.set (CS.oa gk0)] ∧
  True ∧ LDoes Tryd.prog (loopAt Tryd.prog 13 0) 125 0 (mkT [(5, AV.p 1 0), (32, AV.sv 4 L (opF KK II XX TT)), (33, AV.i IntKind.i64 (Int.ofNat L)), (34, AV.i IntKind.i64 (0 :
  Int))]) [some (SS.o gw0), some (CS.oa gk0)] (XO.exit 0) (mkT []) [] ∧ Con Tryd.prog 47 [AV.p0, AV.i IntKind.i64 (0 : Int), AV.s []] [] (AV.i IntKind.i64 (1 : Int)) [] ∧ Con
  Tryd.prog 49 [AV.p0, AV.i IntKind.i64 (0 : Int)] [] (AV.agg [AV.i IntKind.i64 (0 : Int), AV.s []]) [] ∧ True ∧ Con Tryd.prog 45 [AV.p0] [] (AV.i IntKind.i64 (0 : Int)) [] ∧ K
  (Res.rv (AV.b true) { tree := T.n none (T.n none T.e T.e) T.e, next := 2, log := [1, 0, 1, 0] }) Orc.z) := by kernel_rfl

theorem grow0 : GrI 0 gk0 gw0 :=
  ⟨by decide, .opened (by decide) (by decide) (OkM.new (by decide)) (Byt.new 8), rfl, rfl, rfl, rfl, fun j => by
    show (bif Nat.blt j 4 then opQ (SS.new 8) j else 0) ≤ 0
    have e0 : opQ (SS.new 8) 0 = 0 := by kernel_rfl
    have e1 : opQ (SS.new 8) 1 = 0 := by kernel_rfl
    have e2 : opQ (SS.new 8) 2 = 0 := by kernel_rfl
    have e3 : opQ (SS.new 8) 3 = 0 := by kernel_rfl
    by_cases h : j < 4
    · have : j = 0 ∨ j = 1 ∨ j = 2 ∨ j = 3 := by omega
      rcases this with rfl | rfl | rfl | rfl
      · rw [e0]; exact Nat.le_refl 0
      · rw [e1]; exact Nat.le_refl 0
      · rw [e2]; exact Nat.le_refl 0
      · rw [e3]; exact Nat.le_refl 0
    · rw [show Nat.blt j 4 = false by rw [Bool.eq_false_iff, ne_eq, Nat.blt_eq]; exact h, cond_false]; exact Nat.le_refl 0⟩
theorem grow_con (L : Nat) (KK II : Nat → Int) (XX : Nat → List Nat) (TT : Nat → Bool) (hX : ∀ i, ∀ b ∈ XX i, b < 256) : Con Tryd.prog 13 [.sv 4 L (opF KK II XX TT)] [] (.b true) [] :=
  con_plain rfl ((grow_vc L KK II XX TT _).mpr ⟨awake_con, trivial, new_con 8 (by decide) (by decide), open_con gw0 4 (by decide) (by decide) (by decide) (by decide) rfl (Byt.new 8), trivial, growL_lp L KK II XX TT hX grow0, put0_con 0 [], get0_con 0, trivial, Go.Proofs.Cl.len0_con, _, _, rfl, rfl⟩)

end Go.Proofs.Cl
