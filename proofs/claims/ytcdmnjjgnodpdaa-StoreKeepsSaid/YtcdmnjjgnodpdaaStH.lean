/- Runs over unknown values, told by the kernel: part StH. -/
import Derived.Test.YtcdmnjjgnodpdaaStA
set_option linter.unusedSimpArgs false
set_option linter.unusedVariables false
set_option maxRecDepth 20000
namespace Go.Proofs.St
open Go Go.Sim Go.Proofs

/-- The cells of a call: kind, place, filling, length, torn. -/
noncomputable def opF (K I F N : Nat → Int) (T : Nat → Bool) : Nat → Nat → CV := fun i j => match j with
  | 0 => .i .i64 (K i)
  | 1 => .i .i64 (I i)
  | 2 => .i .u8 (F i)
  | 3 => .i .i64 (N i)
  | _ => .b (T i)
theorem newF_con : Con Try.prog 9 [.i .i64 4] [] (.tup [.p 0 0, .i .i64 0]) [.set (SS.new 4).o] := new_con 4 (by decide) (by decide)

end Go.Proofs.St

set_option maxRecDepth 20000
namespace Go.Proofs.St
open Go Go.Sim Go.Proofs

theorem kpA_vc (s : SS) (L1 L2 i : Nat) (K1 I1 F1 N1 K2 I2 F2 N2 : Nat → Int) (T1 T2 : Nat → Bool) (kk : Int) (tt : Bool) (K : Res → Orc → Prop) : runK Try.prog 1000000 (.code
  (loopAt Try.prog 6 0) 230 (mkT [(1, .sv 5 L2 (opF K2 I2 F2 N2 T2)), (7, .i .i64 kk), (8, .b tt), (9, .p 0 0), (59, .sv 5 L1 (opF K1 I1 F1 N1 T1)), (60, .i .i64 (Int.ofNat L1)),
  (61, .i .i64 (Int.ofNat i))]) (mkH [some s.o])) (Orc.s (Orc.cal [] (AV.lr 0 1 0 64 false) [Upd.set (AObj.rows 5 1 64 (fF (F1 i)))] (Orc.cal [0, 2] (AV.i IntKind.i64 (SS.wrE s (I1
  i) 64)) [Upd.set (SS.o (SS.wrS s (I1 i) 64 (fB (F1 i)))), Upd.keep] Orc.z)) Orc.z) K = ((decide (Int.ofNat i < Int.ofNat L1) = true → ((0 : Int) ≤ Int.ofNat i ∧ Int.ofNat i < ↑L1)
  ∧ True ∧ True ∧ True ∧ Con Try.prog 25 [AV.i IntKind.u8 (F1 i), AV.i IntKind.i64 (64 : Int)] [] (AV.lr 0 1 0 64 false) [Upd.set (AObj.rows 5 1 64 (fF (F1 i)))] ∧ Con Try.prog 24
  [AV.p 0 0, AV.i IntKind.i64 (I1 i), AV.lr 1 1 0 64 false] [some (SS.o s), some (AObj.rows 5 1 64 fun k x => CV.i IntKind.u8 (fB (F1 i) k))] (AV.i IntKind.i64 (SS.wrE s (I1 i) 64))
  [Upd.set (SS.o (SS.wrS s (I1 i) 64 (fB (F1 i)))), Upd.keep] ∧ ((-9223372036854775808 : Int) ≤ Int.ofNat i + (1 : Int) ∧ Int.ofNat i + (1 : Int) ≤ (9223372036854775807 : Int)) ∧ K
  (Res.st XO.nrm (T.n none (T.n (some (AV.sv 5 L2 (opF K2 I2 F2 N2 T2))) (T.n none (T.n (some (AV.i IntKind.i64 kk)) (T.n none (T.n none (T.n (some (AV.pv 5 (opF K1 I1 F1 N1 T1 i)))
  T.e T.e) T.e) T.e) (T.n none (T.n none (T.n (some (AV.i IntKind.i64 (SS.wrE s (I1 i) 64))) T.e T.e) T.e) T.e)) (T.n none (T.n none (T.n none (T.n (some (AV.i IntKind.i64 (I1 i)))
  T.e T.e) T.e) T.e) (T.n none T.e (T.n (some (AV.sv 5 L1 (opF K1 I1 F1 N1 T1))) T.e T.e)))) (T.n none (T.n (some (AV.p 0 0)) (T.n none (T.n none (T.n (some (AV.p 0 0)) T.e T.e)
  T.e) T.e) T.e) (T.n none (T.n none (T.n none (T.n (some (AV.i IntKind.u8 (F1 i))) T.e T.e) T.e) T.e) (T.n none T.e (T.n (some (AV.i IntKind.i64 (Int.ofNat i + (1 : Int)))) T.e
  T.e))))) (T.n none (T.n none (T.n (some (AV.b tt)) (T.n none (T.n none (T.n (some (AV.agg [AV.i IntKind.i64 (K1 i), AV.i IntKind.i64 (I1 i), AV.i IntKind.u8 (F1 i), AV.i
  IntKind.i64 (N1 i), AV.b (T1 i)])) T.e T.e) T.e) T.e) (T.n none (T.n none (T.n (some (AV.i IntKind.i64 (Int.ofNat i + (1 : Int)))) T.e T.e) T.e) T.e)) (T.n (some (AV.p 1 0)) (T.n
  none (T.n none (T.n (some (AV.p 1 2)) T.e T.e) T.e) T.e) (T.n none T.e (T.n (some (AV.i IntKind.i64 (Int.ofNat L1))) T.e T.e)))) (T.n none (T.n none (T.n none (T.n none (T.n (some
  (AV.p 1 1)) T.e T.e) T.e) T.e) T.e) (T.n none (T.n none (T.n none (T.n (some (AV.lr 2 1 0 64 false)) T.e T.e) T.e) T.e) (T.n none T.e (T.n (some (AV.b (decide (Int.ofNat i <
  Int.ofNat L1)))) T.e T.e)))))) { tree := T.n (some (AObj.segs 73 33799 [{ st := 0, sz := 1, n := 1, f := oneF (CV.i IntKind.i64 (Int.ofNat (SS.n (SS.wrS s (I1 i) 64 (fB (F1 i)))))) }, { st := 1, sz := 65, n := 512, f := durF (SS.dur (SS.wrS s (I1 i) 64 (fB (F1 i)))) (SS.torn (SS.wrS s (I1 i) 64 (fB (F1 i)))) }, { st := 33281, sz := 1, n := 1, f := oneF (CV.opv (pB (SS.P (SS.wrS s (I1 i) 64 (fB (F1 i))))) 66 (pW (SS.P (SS.wrS s (I1 i) 64 (fB (F1 i)))))) }, { st := 33282, sz := 1, n := 512, f := latF (lB (SS.P (SS.wrS s (I1 i) 64 (fB (F1 i))))) (lW (SS.P (SS.wrS s (I1 i) 64 (fB (F1 i))))) }, { st := 33794, sz := 5, n := 1, f := tailF (Int.ofNat (List.length (SS.P (SS.wrS s (I1 i) 64 (fB (F1 i)))))) (Int.ofNat (SS.wr (SS.wrS s (I1 i) 64 (fB (F1 i))))) (SS.off (SS.wrS s (I1 i) 64 (fB (F1 i)))) (SS.armed (SS.wrS s (I1 i) 64 (fB (F1 i)))) (Int.ofNat (SS.left (SS.wrS s (I1 i) 64 (fB (F1 i))))) }])) (T.n (some (AObj.cells 34 5 [AV.i IntKind.i64 (0 : Int), AV.i IntKind.i64 (0 : Int), AV.i IntKind.u8 (0 : Int), AV.i IntKind.i64 (0 : Int), AV.b false] (T.n (some (AV.i IntKind.i64 (K1 i))) (T.n (some (AV.i IntKind.i64 (I1 i))) (T.n (some (AV.i IntKind.i64 (N1 i))) T.e T.e) T.e) (T.n (some (AV.i IntKind.u8 (F1 i))) (T.n (some (AV.b (T1 i))) T.e T.e) T.e)))) T.e T.e) (T.n (some (AObj.rows 5 1 64 (fF (F1 i)))) T.e T.e), next := 3, log := [0, 2, 1, 1] })
  Orc.z) ∧ (decide (Int.ofNat i < Int.ofNat L1) = false → K (Res.st (XO.exit 0) (T.n none (T.n (some (AV.sv 5 L2 (opF K2 I2 F2 N2 T2))) (T.n none (T.n (some (AV.i IntKind.i64 kk))
  T.e T.e) (T.n none T.e (T.n none T.e (T.n (some (AV.sv 5 L1 (opF K1 I1 F1 N1 T1))) T.e T.e)))) (T.n none (T.n (some (AV.p 0 0)) T.e T.e) (T.n none T.e (T.n none T.e (T.n (some
  (AV.i IntKind.i64 (Int.ofNat i))) T.e T.e))))) (T.n none (T.n none (T.n (some (AV.b tt)) T.e T.e) (T.n none T.e (T.n none T.e (T.n (some (AV.i IntKind.i64 (Int.ofNat L1))) T.e
  T.e)))) (T.n none T.e (T.n none T.e (T.n none T.e (T.n (some (AV.b (decide (Int.ofNat i < Int.ofNat L1)))) T.e T.e)))))) { tree := T.n (some (AObj.segs 73 33799 [{ st := 0, sz := 1, n := 1, f := oneF (CV.i IntKind.i64 (Int.ofNat (SS.n s))) }, { st := 1, sz := 65, n := 512, f := durF (SS.dur s) (SS.torn s) }, { st := 33281, sz := 1, n := 1, f := oneF (CV.opv (pB (SS.P s)) 66 (pW (SS.P s))) }, { st := 33282, sz := 1, n := 512, f := latF (lB (SS.P s)) (lW (SS.P s)) }, { st := 33794, sz := 5, n := 1, f := tailF (Int.ofNat (List.length (SS.P s))) (Int.ofNat (SS.wr s)) (SS.off s) (SS.armed s) (Int.ofNat (SS.left s)) }])) T.e T.e, next := 1, log := [] })
  Orc.z)) := by kernel_rfl

/-- At most m writes. -/
structure SS.OkB (s : SS) (m : Nat) : Prop where
  n : s.n ≤ 512
  P : s.P.length ≤ m
  wr : s.wr ≤ m
  left : s.left < 9223372036854775808
  at_ : ∀ w ∈ s.P, w.1 < s.n
theorem SS.OkB.ok {s : SS} {m : Nat} (h : s.OkB m) (hm : m < 1000000) : s.Ok := ⟨h.n, by have := h.P; omega, by have := h.wr; omega, h.left, h.at_⟩
theorem SS.OkB.pay {s : SS} {m : Nat} (h : s.OkB m) : s.pay.OkB m := by
  obtain ⟨n, dur, torn, P, wr, off, armed, left⟩ := s
  obtain ⟨h1, h2, h3, h4, h5⟩ := h
  cases armed with
  | false => exact ⟨h1, h2, h3, h4, h5⟩
  | true =>
    cases left with
    | zero => exact ⟨h1, h2, h3, h4, h5⟩
    | succ l => exact ⟨h1, h2, h3, by simp only at h4; show l < _; omega, h5⟩
theorem SS.OkB.wrS {s : SS} {m : Nat} (h : s.OkB m) (i : Int) (L : Nat) (bs : Nat → Int) : (s.wrS i L bs).OkB (m + 1) := by
  have h0 : s.OkB (m + 1) := ⟨h.n, by have := h.P; omega, by have := h.wr; omega, h.left, h.at_⟩
  unfold SS.wrS
  split
  · exact h0
  · split
    · rename_i hd
      have hd := of_decide_eq_true hd
      refine SS.OkB.pay ⟨h.n, ?_, ?_, h.left, ?_⟩
      · show s.P.length + 1 ≤ m + 1
        have := h.P; omega
      · show s.wr + 1 ≤ m + 1
        have := h.wr; omega
      · intro w hw
        rcases List.mem_cons.1 hw with rfl | hw
        · show i.toNat < s.n
          have := hd.2.1; simp at this; omega
        · exact h.at_ w hw
    · exact h0

/-- The store behind the first i of these writes. -/
noncomputable def kpS (s : SS) (I F : Nat → Int) : Nat → SS
  | 0 => s
  | i + 1 => (kpS s I F i).wrS (I i) 64 (fB (F i))
theorem kpS_ok {s : SS} {m : Nat} (h : s.OkB m) (I F : Nat → Int) : ∀ i, (kpS s I F i).OkB (m + i)
  | 0 => h
  | i + 1 => (kpS_ok h I F i).wrS _ _ _

theorem kpA_lp (s : SS) (L1 L2 : Nat) (K1 I1 F1 N1 K2 I2 F2 N2 : Nat → Int) (T1 T2 : Nat → Bool) (kk : Int) (tt : Bool) (hs : s.OkB 0) (hL : L1 ≤ 1000) :
    LDoes Try.prog (loopAt Try.prog 6 0) 230 1 (mkT [(1, .sv 5 L2 (opF K2 I2 F2 N2 T2)), (7, .i .i64 kk), (8, .b tt), (9, .p 0 0), (59, .sv 5 L1 (opF K1 I1 F1 N1 T1)), (60, .i .i64 (Int.ofNat L1)), (61, .i .i64 0)]) [some s.o]
      (.exit 0) (mkT [(1, .sv 5 L2 (opF K2 I2 F2 N2 T2)), (7, .i .i64 kk), (8, .b tt), (9, .p 0 0)]) [some (kpS s I1 F1 L1).o] := by
  refine loop_indV (D := Nat) (l' := [(1, .sv 5 L2 (opF K2 I2 F2 N2 T2)), (7, .i .i64 kk), (8, .b tt), (9, .p 0 0)]) (fun i => ([(1, .sv 5 L2 (opF K2 I2 F2 N2 T2)), (7, .i .i64 kk), (8, .b tt), (9, .p 0 0), (59, .sv 5 L1 (opF K1 I1 F1 N1 T1)), (60, .i .i64 (Int.ofNat L1)), (61, .i .i64 (Int.ofNat i))], [some (kpS s I1 F1 i).o])) (fun i => L1 - i) (fun i => i ≤ L1) ?_ 0 (Nat.zero_le _)
  intro i hi
  refine ⟨Nat.le_refl 1, _, _, (kpA_vc (kpS s I1 F1 i) L1 L2 i K1 I1 F1 N1 K2 I2 F2 N2 T1 T2 kk tt _).mpr ⟨fun hlt => ?_, fun hge => ?_⟩⟩
  · have hlt : i < L1 := by simpa using hlt
    exact ⟨⟨by simp, by simp; omega⟩, trivial, trivial, trivial, fill64_con _, writeU_con _ _ _ _ _ _ ((kpS_ok hs I1 F1 i).ok (by omega)) (Nat.le_refl _), ⟨by simp; omega, by simp; omega⟩, .inl ⟨i + 1, [0], [], _, _,
      [(1, .sv 5 L2 (opF K2 I2 F2 N2 T2)), (7, .i .i64 kk), (8, .b tt), (9, .p 0 0), (59, .sv 5 L1 (opF K1 I1 F1 N1 T1)), (60, .i .i64 (Int.ofNat L1)), (61, .i .i64 (Int.ofNat (i + 1)))], [some (kpS s I1 F1 (i + 1)).o], by omega, by simp only; omega, rfl,
      st_is [0] (by kernel_rfl) rfl rfl rfl ⟨by kernel_rfl, by kernel_rfl, trivial⟩ rfl, .refl _, OVL.refl _⟩⟩
  · have : i = L1 := by simp at hge; omega
    subst this
    exact .inr ⟨[0], [], _, _, [(1, .sv 5 L2 (opF K2 I2 F2 N2 T2)), (7, .i .i64 kk), (8, .b tt), (9, .p 0 0)], [some (kpS s I1 F1 i).o], rfl, by simp, st_is [0] (by kernel_rfl) rfl rfl rfl ⟨by kernel_rfl, by kernel_rfl, trivial⟩ rfl, .refl _, OVL.refl _⟩

end Go.Proofs.St

set_option maxRecDepth 20000
namespace Go.Proofs.St
open Go Go.Sim Go.Proofs

theorem kpB_vc (s : SS) (L2 i nw : Nat) (wf : Nat → Nat → CV) (K2 I2 F2 N2 : Nat → Int) (T2 : Nat → Bool) (kk : Int) (tt : Bool) (K : Res → Orc → Prop) : runK Try.prog 1000000
  (.code (loopAt Try.prog 6 1) 230 (mkT [(1, .sv 5 L2 (opF K2 I2 F2 N2 T2)), (7, .i .i64 kk), (8, .b tt), (9, .p 0 0), (13, .sv 1 nw wf), (78, .sv 5 L2 (opF K2 I2 F2 N2 T2)), (79,
  .i .i64 (Int.ofNat L2)), (80, .i .i64 (Int.ofNat i))]) (mkH [some s.o])) (Orc.s (Orc.cal [] (AV.lr 0 1 0 64 false) [Upd.set (AObj.rows 5 1 64 (fF (F2 i)))] (Orc.cal [0, 2] (AV.i
  IntKind.i64 (SS.wrE s (I2 i) 64)) [Upd.set (SS.o (SS.wrS s (I2 i) 64 (fB (F2 i)))), Upd.keep] Orc.z)) Orc.z) K = ((decide (Int.ofNat i < Int.ofNat L2) = true → ((0 : Int) ≤
  Int.ofNat i ∧ Int.ofNat i < ↑L2) ∧ True ∧ True ∧ True ∧ Con Try.prog 25 [AV.i IntKind.u8 (F2 i), AV.i IntKind.i64 (64 : Int)] [] (AV.lr 0 1 0 64 false) [Upd.set (AObj.rows 5 1 64
  (fF (F2 i)))] ∧ Con Try.prog 24 [AV.p 0 0, AV.i IntKind.i64 (I2 i), AV.lr 1 1 0 64 false] [some (SS.o s), some (AObj.rows 5 1 64 fun k x => CV.i IntKind.u8 (fB (F2 i) k))] (AV.i
  IntKind.i64 (SS.wrE s (I2 i) 64)) [Upd.set (SS.o (SS.wrS s (I2 i) 64 (fB (F2 i)))), Upd.keep] ∧ ((-9223372036854775808 : Int) ≤ Int.ofNat i + (1 : Int) ∧ Int.ofNat i + (1 : Int) ≤
  (9223372036854775807 : Int)) ∧ K (Res.st XO.nrm (T.n none (T.n (some (AV.sv 5 L2 (opF K2 I2 F2 N2 T2))) (T.n none (T.n (some (AV.i IntKind.i64 kk)) (T.n (some (AV.p 1 0)) T.e (T.n
  none (T.n (some (AV.i IntKind.i64 (Int.ofNat L2))) T.e T.e) T.e)) (T.n none T.e (T.n none (T.n (some (AV.p 1 2)) T.e T.e) T.e))) (T.n none (T.n none T.e (T.n none (T.n (some
  (AV.agg [AV.i IntKind.i64 (K2 i), AV.i IntKind.i64 (I2 i), AV.i IntKind.u8 (F2 i), AV.i IntKind.i64 (N2 i), AV.b (T2 i)])) T.e T.e) T.e)) (T.n none T.e (T.n none (T.n (some (AV.i
  IntKind.i64 (Int.ofNat i + (1 : Int)))) T.e T.e) T.e)))) (T.n none (T.n (some (AV.p 0 0)) (T.n none T.e (T.n none (T.n (some (AV.b (decide (Int.ofNat i < Int.ofNat L2)))) T.e T.e)
  T.e)) (T.n none T.e (T.n none (T.n (some (AV.lr 2 1 0 64 false)) T.e T.e) T.e))) (T.n (some (AV.sv 1 nw wf)) (T.n none T.e (T.n none (T.n (some (AV.p 1 1)) T.e T.e) T.e)) T.e)))
  (T.n none (T.n none (T.n (some (AV.b tt)) (T.n none T.e (T.n none (T.n (some (AV.i IntKind.i64 (Int.ofNat i + (1 : Int)))) T.e T.e) T.e)) (T.n none T.e (T.n none (T.n (some (AV.i
  IntKind.u8 (F2 i))) T.e T.e) T.e))) (T.n none (T.n none T.e (T.n none (T.n (some (AV.p 0 0)) T.e T.e) T.e)) T.e)) (T.n none (T.n none (T.n none T.e (T.n none (T.n (some (AV.pv 5
  (opF K2 I2 F2 N2 T2 i))) T.e T.e) T.e)) (T.n none T.e (T.n none (T.n (some (AV.i IntKind.i64 (SS.wrE s (I2 i) 64))) T.e T.e) T.e))) (T.n none (T.n none T.e (T.n none (T.n (some
  (AV.i IntKind.i64 (I2 i))) T.e T.e) T.e)) (T.n none (T.n none (T.n (some (AV.sv 5 L2 (opF K2 I2 F2 N2 T2))) T.e T.e) T.e) T.e))))) { tree := T.n (some (AObj.segs 73 33799 [{ st := 0, sz := 1, n := 1, f := oneF (CV.i IntKind.i64 (Int.ofNat (SS.n (SS.wrS s (I2 i) 64 (fB (F2 i)))))) }, { st := 1, sz := 65, n := 512, f := durF (SS.dur (SS.wrS s (I2 i) 64 (fB (F2 i)))) (SS.torn (SS.wrS s (I2 i) 64 (fB (F2 i)))) }, { st := 33281, sz := 1, n := 1, f := oneF (CV.opv (pB (SS.P (SS.wrS s (I2 i) 64 (fB (F2 i))))) 66 (pW (SS.P (SS.wrS s (I2 i) 64 (fB (F2 i)))))) }, { st := 33282, sz := 1, n := 512, f := latF (lB (SS.P (SS.wrS s (I2 i) 64 (fB (F2 i))))) (lW (SS.P (SS.wrS s (I2 i) 64 (fB (F2 i))))) }, { st := 33794, sz := 5, n := 1, f := tailF (Int.ofNat (List.length (SS.P (SS.wrS s (I2 i) 64 (fB (F2 i)))))) (Int.ofNat (SS.wr (SS.wrS s (I2 i) 64 (fB (F2 i))))) (SS.off (SS.wrS s (I2 i) 64 (fB (F2 i)))) (SS.armed (SS.wrS s (I2 i) 64 (fB (F2 i)))) (Int.ofNat (SS.left (SS.wrS s (I2 i) 64 (fB (F2 i))))) }])) (T.n (some (AObj.cells 34 5 [AV.i IntKind.i64 (0 : Int), AV.i IntKind.i64 (0 : Int), AV.i IntKind.u8 (0 : Int), AV.i IntKind.i64 (0 : Int), AV.b false] (T.n (some (AV.i IntKind.i64 (K2 i))) (T.n (some (AV.i IntKind.i64 (I2 i))) (T.n (some (AV.i IntKind.i64 (N2 i))) T.e T.e) T.e) (T.n (some (AV.i IntKind.u8 (F2 i))) (T.n (some (AV.b (T2 i))) T.e T.e) T.e)))) T.e T.e) (T.n (some (AObj.rows 5 1 64 (fF (F2 i)))) T.e T.e), next := 3, log := [0, 2, 1, 1] })
  Orc.z) ∧ (decide (Int.ofNat i < Int.ofNat L2) = false → K (Res.st (XO.exit 2) (T.n none (T.n (some (AV.sv 5 L2 (opF K2 I2 F2 N2 T2))) (T.n none (T.n (some (AV.i IntKind.i64 kk))
  (T.n none T.e (T.n none (T.n (some (AV.i IntKind.i64 (Int.ofNat L2))) T.e T.e) T.e)) T.e) T.e) (T.n none (T.n (some (AV.p 0 0)) (T.n none T.e (T.n none (T.n (some (AV.b (decide
  (Int.ofNat i < Int.ofNat L2)))) T.e T.e) T.e)) T.e) (T.n (some (AV.sv 1 nw wf)) T.e T.e))) (T.n none (T.n none (T.n (some (AV.b tt)) (T.n none T.e (T.n none (T.n (some (AV.i
  IntKind.i64 (Int.ofNat i))) T.e T.e) T.e)) T.e) T.e) (T.n none T.e (T.n none T.e (T.n none (T.n none (T.n (some (AV.sv 5 L2 (opF K2 I2 F2 N2 T2))) T.e T.e) T.e) T.e))))) { tree := T.n (some (AObj.segs 73 33799 [{ st := 0, sz := 1, n := 1, f := oneF (CV.i IntKind.i64 (Int.ofNat (SS.n s))) }, { st := 1, sz := 65, n := 512, f := durF (SS.dur s) (SS.torn s) }, { st := 33281, sz := 1, n := 1, f := oneF (CV.opv (pB (SS.P s)) 66 (pW (SS.P s))) }, { st := 33282, sz := 1, n := 512, f := latF (lB (SS.P s)) (lW (SS.P s)) }, { st := 33794, sz := 5, n := 1, f := tailF (Int.ofNat (List.length (SS.P s))) (Int.ofNat (SS.wr s)) (SS.off s) (SS.armed s) (Int.ofNat (SS.left s)) }])) T.e T.e, next := 1, log := [] })
  Orc.z)) := by kernel_rfl

theorem kpB_lp (s : SS) (L2 nw m : Nat) (wf : Nat → Nat → CV) (K2 I2 F2 N2 : Nat → Int) (T2 : Nat → Bool) (kk : Int) (tt : Bool) (hs : s.OkB m) (hL : m + L2 ≤ 10000) :
    LDoes Try.prog (loopAt Try.prog 6 1) 230 1 (mkT [(1, .sv 5 L2 (opF K2 I2 F2 N2 T2)), (7, .i .i64 kk), (8, .b tt), (9, .p 0 0), (13, .sv 1 nw wf), (78, .sv 5 L2 (opF K2 I2 F2 N2 T2)), (79, .i .i64 (Int.ofNat L2)), (80, .i .i64 0)]) [some s.o]
      (.exit 2) (mkT [(1, .sv 5 L2 (opF K2 I2 F2 N2 T2)), (7, .i .i64 kk), (8, .b tt), (9, .p 0 0), (13, .sv 1 nw wf)]) [some (kpS s I2 F2 L2).o] := by
  refine loop_indV (D := Nat) (l' := [(1, .sv 5 L2 (opF K2 I2 F2 N2 T2)), (7, .i .i64 kk), (8, .b tt), (9, .p 0 0), (13, .sv 1 nw wf)]) (fun i => ([(1, .sv 5 L2 (opF K2 I2 F2 N2 T2)), (7, .i .i64 kk), (8, .b tt), (9, .p 0 0), (13, .sv 1 nw wf), (78, .sv 5 L2 (opF K2 I2 F2 N2 T2)), (79, .i .i64 (Int.ofNat L2)), (80, .i .i64 (Int.ofNat i))], [some (kpS s I2 F2 i).o])) (fun i => L2 - i) (fun i => i ≤ L2) ?_ 0 (Nat.zero_le _)
  intro i hi
  refine ⟨Nat.le_refl 1, _, _, (kpB_vc (kpS s I2 F2 i) L2 i nw wf K2 I2 F2 N2 T2 kk tt _).mpr ⟨fun hlt => ?_, fun hge => ?_⟩⟩
  · have hlt : i < L2 := by simpa using hlt
    exact ⟨⟨by simp, by simp; omega⟩, trivial, trivial, trivial, fill64_con _, writeU_con _ _ _ _ _ _ ((kpS_ok hs I2 F2 i).ok (by omega)) (Nat.le_refl _), ⟨by simp; omega, by simp; omega⟩, .inl ⟨i + 1, [0], [], _, _,
      [(1, .sv 5 L2 (opF K2 I2 F2 N2 T2)), (7, .i .i64 kk), (8, .b tt), (9, .p 0 0), (13, .sv 1 nw wf), (78, .sv 5 L2 (opF K2 I2 F2 N2 T2)), (79, .i .i64 (Int.ofNat L2)), (80, .i .i64 (Int.ofNat (i + 1)))], [some (kpS s I2 F2 (i + 1)).o], by omega, by simp only; omega, rfl,
      st_is [0] (by kernel_rfl) rfl rfl rfl ⟨by kernel_rfl, by kernel_rfl, trivial⟩ rfl, .refl _, OVL.refl _⟩⟩
  · have : L2 = i := by simp at hge; omega
    subst this
    exact .inr ⟨[0], [], _, _, [(1, .sv 5 L2 (opF K2 I2 F2 N2 T2)), (7, .i .i64 kk), (8, .b tt), (9, .p 0 0), (13, .sv 1 nw wf)], [some (kpS s I2 F2 L2).o], rfl, by simp, st_is [0] (by kernel_rfl) rfl rfl rfl ⟨by kernel_rfl, by kernel_rfl, trivial⟩ rfl, .refl _, OVL.refl _⟩

end Go.Proofs.St

set_option maxRecDepth 20000
namespace Go.Proofs.St
open Go Go.Sim Go.Proofs

theorem fillZ_con (c : Int) : Con Try.prog 25 [.i .u8 c, .i .i64 64] [] (.sv 1 64 (fF c)) [.gone] :=
  ((fill64_con c).freeze (us' := [.gone]) (v' := .sv 1 64 (shiftF 0 (fF c))) 0 rfl ⟨rfl, trivial⟩ (.inr ⟨by kernel_rfl, rfl, by omega⟩)).post (.svW fun i j _ _ => .of rfl) (OVL.refl _)

/-- Lists of bytes. -/
noncomputable def lsF (ln : Nat → Nat) (bb : Nat → Nat → Int) : Nat → Nat → CV := fun k _ => .sv 1 (ln k) fun i _ => .i .u8 (bb k i)

end Go.Proofs.St

set_option maxRecDepth 20000
namespace Go.Proofs.St
open Go Go.Sim Go.Proofs

theorem bsA_vc (s : SS) (L k i ix : Nat) (n0 : Nat) (w0 : Nat → Int) (lw : Nat → Nat) (wb : Nat → Nat → Int) (ll : Nat → Nat) (nb : Nat → Nat → Int) (K2 I2 F2 N2 : Nat → Int) (T2 :
  Nat → Bool) (kk br : Int) (tt gg : Bool) (K : Res → Orc → Prop) : runK Try.prog 1000000 (.code (loopAt Try.prog 6 3) 230 (mkT [(1, .sv 5 L (opF K2 I2 F2 N2 T2)), (7, .i .i64 kk),
  (8, .b tt), (9, .p 0 0), (13, .sv 1 4 (lsF lw wb)), (16, .sv 1 4 (lsF ll nb)), (17, .i .i64 br), (18, .i .i64 (Int.ofNat i)), (19, .b gg), (20, .l 1 0 1 1 1 true), (115, .i .i64
  4), (116, .i .i64 (Int.ofNat ix)), (135, .sv 5 L (opF K2 I2 F2 N2 T2)), (136, .i .i64 (Int.ofNat L)), (137, .i .i64 (Int.ofNat k))]) (mkH [some s.o, some (cellsO 35 [.sv 1 n0 fun
  i _ => .i .u8 (w0 i)])])) (Orc.s (Orc.s (Orc.cal [] (AV.sv 1 64 (fF (F2 k))) [Upd.gone] Orc.z) Orc.z) Orc.z) K = ((decide (Int.ofNat k < Int.ofNat L) = true → ((0 : Int) ≤
  Int.ofNat k ∧ Int.ofNat k < ↑L) ∧ True ∧ True ∧ (decide (I2 k = Int.ofNat i) = true → True ∧ Con Try.prog 25 [AV.i IntKind.u8 (F2 k), AV.i IntKind.i64 (64 : Int)] [] (AV.sv 1 64
  (fF (F2 k))) [Upd.gone] ∧ ((-9223372036854775808 : Int) ≤ Int.ofNat k + (1 : Int) ∧ Int.ofNat k + (1 : Int) ≤ (9223372036854775807 : Int)) ∧ K (Res.st XO.nrm (T.n none (T.n (some
  (AV.sv 5 L (opF K2 I2 F2 N2 T2))) (T.n none (T.n (some (AV.i IntKind.i64 kk)) (T.n none T.e (T.n none (T.n none (T.n (some (AV.i IntKind.i64 (Int.ofNat i))) T.e T.e) T.e) T.e))
  (T.n none (T.n none (T.n none (T.n (some (AV.sv 5 L (opF K2 I2 F2 N2 T2))) T.e T.e) T.e) T.e) (T.n none (T.n none (T.n (some (AV.i IntKind.i64 (Int.ofNat k + (1 : Int)))) T.e T.e)
  T.e) T.e))) (T.n none (T.n (some (AV.b gg)) T.e (T.n none (T.n none (T.n (some (AV.i IntKind.u8 (F2 k))) T.e T.e) T.e) (T.n (some (AV.i IntKind.i64 (4 : Int))) T.e T.e))) (T.n
  none (T.n none (T.n none (T.n (some (AV.pv 5 (opF K2 I2 F2 N2 T2 k))) T.e T.e) T.e) T.e) T.e))) (T.n none (T.n (some (AV.p 0 0)) (T.n (some (AV.i IntKind.i64 br)) T.e (T.n none
  (T.n none (T.n (some (AV.l 1 0 1 1 1 true)) T.e T.e) T.e) T.e)) (T.n none (T.n none (T.n none (T.n (some (AV.i IntKind.i64 (Int.ofNat k + (1 : Int)))) T.e T.e) T.e) T.e) T.e))
  (T.n (some (AV.sv 1 4 (lsF lw wb))) (T.n none T.e (T.n none (T.n none (T.n (some (AV.l 4 0 1 1 1 true)) T.e T.e) T.e) T.e)) (T.n none (T.n none (T.n none (T.n (some (AV.p 2 1))
  T.e T.e) T.e) T.e) T.e)))) (T.n none (T.n none (T.n (some (AV.b tt)) (T.n (some (AV.sv 1 4 (lsF ll nb))) T.e (T.n none (T.n none (T.n (some (AV.b (decide (I2 k = Int.ofNat i))))
  T.e T.e) T.e) T.e)) (T.n none (T.n none (T.n none (T.n (some (AV.i IntKind.i64 (Int.ofNat L))) T.e T.e) T.e) T.e) T.e)) (T.n none (T.n (some (AV.l 5 0 2 2 1 false)) T.e (T.n none
  (T.n none (T.n (some (AV.sv 1 64 (fF (F2 k)))) T.e T.e) T.e) (T.n (some (AV.i IntKind.i64 (Int.ofNat ix))) T.e T.e))) (T.n none (T.n none (T.n none (T.n (some (AV.agg [AV.i
  IntKind.i64 (K2 k), AV.i IntKind.i64 (I2 k), AV.i IntKind.u8 (F2 k), AV.i IntKind.i64 (N2 k), AV.b (T2 k)])) T.e T.e) T.e) T.e) T.e))) (T.n none (T.n none (T.n (some (AV.i
  IntKind.i64 (Int.ofNat i))) T.e (T.n none (T.n none (T.n (some (AV.p 2 2)) T.e T.e) T.e) T.e)) (T.n none (T.n none (T.n none (T.n (some (AV.b (decide (Int.ofNat k < Int.ofNat
  L)))) T.e T.e) T.e) T.e) T.e)) (T.n none (T.n (some (AV.p 2 0)) T.e (T.n none (T.n none (T.n (some (AV.l 5 0 2 2 1 false)) T.e T.e) T.e) T.e)) (T.n none (T.n none (T.n none (T.n
  (some (AV.i IntKind.i64 (I2 k))) T.e T.e) T.e) T.e) T.e))))) { tree := T.n (some (AObj.segs 73 33799 [{ st := 0, sz := 1, n := 1, f := oneF (CV.i IntKind.i64 (Int.ofNat (SS.n s))) }, { st := 1, sz := 65, n := 512, f := durF (SS.dur s) (SS.torn s) }, { st := 33281, sz := 1, n := 1, f := oneF (CV.opv (pB (SS.P s)) 66 (pW (SS.P s))) }, { st := 33282, sz := 1, n := 512, f := latF (lB (SS.P s)) (lW (SS.P s)) }, { st := 33794, sz := 5, n := 1, f := tailF (Int.ofNat (List.length (SS.P s))) (Int.ofNat (SS.wr s)) (SS.off s) (SS.armed s) (Int.ofNat (SS.left s)) }])) (T.n (some (AObj.cells 35 1 [] (T.n (some (AV.sv 1 n0 fun i x => CV.i IntKind.u8 (w0 i))) T.e T.e))) (T.n none T.e T.e) (T.n (some (AObj.cells 35 2 [] (T.n (some (AV.sv 1 n0 fun i x => CV.i IntKind.u8 (w0 i))) (T.n (some (AV.sv 1 64 (fF (F2 k)))) T.e T.e) T.e))) T.e T.e)) (T.n (some (AObj.cells 34 5 [AV.i IntKind.i64 (0 : Int), AV.i IntKind.i64 (0 : Int), AV.i IntKind.u8 (0 : Int), AV.i IntKind.i64 (0 : Int), AV.b false] (T.n (some (AV.i IntKind.i64 (K2 k))) (T.n (some (AV.i IntKind.i64 (I2 k))) (T.n (some (AV.i IntKind.i64 (N2 k))) T.e T.e) T.e) (T.n (some (AV.i IntKind.u8 (F2 k))) (T.n (some (AV.b (T2 k))) T.e T.e) T.e)))) (T.n (some (AObj.cells 35 1 [] (T.n (some (AV.sv 1 64 (fF (F2 k)))) T.e T.e))) T.e T.e) T.e), next := 6, log := [5, 4, 3, 2, 2] })
  Orc.z) ∧ (decide (I2 k = Int.ofNat i) = false → ((-9223372036854775808 : Int) ≤ Int.ofNat k + (1 : Int) ∧ Int.ofNat k + (1 : Int) ≤ (9223372036854775807 : Int)) ∧ K (Res.st XO.nrm
  (T.n none (T.n (some (AV.sv 5 L (opF K2 I2 F2 N2 T2))) (T.n none (T.n (some (AV.i IntKind.i64 kk)) (T.n none T.e (T.n none (T.n none (T.n (some (AV.i IntKind.i64 (Int.ofNat i)))
  T.e T.e) T.e) T.e)) (T.n none (T.n none (T.n none (T.n (some (AV.sv 5 L (opF K2 I2 F2 N2 T2))) T.e T.e) T.e) T.e) (T.n none (T.n none (T.n (some (AV.i IntKind.i64 (Int.ofNat k +
  (1 : Int)))) T.e T.e) T.e) T.e))) (T.n none (T.n (some (AV.b gg)) T.e (T.n none T.e (T.n (some (AV.i IntKind.i64 (4 : Int))) T.e T.e))) (T.n none (T.n none (T.n none (T.n (some
  (AV.pv 5 (opF K2 I2 F2 N2 T2 k))) T.e T.e) T.e) T.e) T.e))) (T.n none (T.n (some (AV.p 0 0)) (T.n (some (AV.i IntKind.i64 br)) T.e T.e) (T.n none (T.n none (T.n none (T.n (some
  (AV.i IntKind.i64 (Int.ofNat k + (1 : Int)))) T.e T.e) T.e) T.e) T.e)) (T.n (some (AV.sv 1 4 (lsF lw wb))) T.e (T.n none (T.n none (T.n none (T.n (some (AV.p 2 1)) T.e T.e) T.e)
  T.e) T.e)))) (T.n none (T.n none (T.n (some (AV.b tt)) (T.n (some (AV.sv 1 4 (lsF ll nb))) T.e (T.n none (T.n none (T.n (some (AV.b (decide (I2 k = Int.ofNat i)))) T.e T.e) T.e)
  T.e)) (T.n none (T.n none (T.n none (T.n (some (AV.i IntKind.i64 (Int.ofNat L))) T.e T.e) T.e) T.e) T.e)) (T.n none (T.n (some (AV.l 1 0 1 1 1 true)) T.e (T.n none T.e (T.n (some
  (AV.i IntKind.i64 (Int.ofNat ix))) T.e T.e))) (T.n none (T.n none (T.n none (T.n (some (AV.agg [AV.i IntKind.i64 (K2 k), AV.i IntKind.i64 (I2 k), AV.i IntKind.u8 (F2 k), AV.i
  IntKind.i64 (N2 k), AV.b (T2 k)])) T.e T.e) T.e) T.e) T.e))) (T.n none (T.n none (T.n (some (AV.i IntKind.i64 (Int.ofNat i))) T.e T.e) (T.n none (T.n none (T.n none (T.n (some
  (AV.b (decide (Int.ofNat k < Int.ofNat L)))) T.e T.e) T.e) T.e) T.e)) (T.n none (T.n (some (AV.p 2 0)) T.e T.e) (T.n none (T.n none (T.n none (T.n (some (AV.i IntKind.i64 (I2 k)))
  T.e T.e) T.e) T.e) T.e))))) { tree := T.n (some (AObj.segs 73 33799 [{ st := 0, sz := 1, n := 1, f := oneF (CV.i IntKind.i64 (Int.ofNat (SS.n s))) }, { st := 1, sz := 65, n := 512, f := durF (SS.dur s) (SS.torn s) }, { st := 33281, sz := 1, n := 1, f := oneF (CV.opv (pB (SS.P s)) 66 (pW (SS.P s))) }, { st := 33282, sz := 1, n := 512, f := latF (lB (SS.P s)) (lW (SS.P s)) }, { st := 33794, sz := 5, n := 1, f := tailF (Int.ofNat (List.length (SS.P s))) (Int.ofNat (SS.wr s)) (SS.off s) (SS.armed s) (Int.ofNat (SS.left s)) }])) (T.n (some (AObj.cells 35 1 [] (T.n (some (AV.sv 1 n0 fun i x => CV.i IntKind.u8 (w0 i))) T.e T.e))) T.e T.e) (T.n (some (AObj.cells 34 5 [AV.i IntKind.i64 (0 : Int), AV.i IntKind.i64 (0 : Int), AV.i IntKind.u8 (0 : Int), AV.i IntKind.i64 (0 : Int), AV.b false] (T.n (some (AV.i IntKind.i64 (K2 k))) (T.n (some (AV.i IntKind.i64 (I2 k))) (T.n (some (AV.i IntKind.i64 (N2 k))) T.e T.e) T.e) (T.n (some (AV.i IntKind.u8 (F2 k))) (T.n (some (AV.b (T2 k))) T.e T.e) T.e)))) T.e T.e), next := 3, log := [2, 2] })
  Orc.z)) ∧ (decide (Int.ofNat k < Int.ofNat L) = false → K (Res.st (XO.exit 6) (T.n none (T.n (some (AV.sv 5 L (opF K2 I2 F2 N2 T2))) (T.n none (T.n (some (AV.i IntKind.i64 kk))
  T.e (T.n none (T.n none (T.n none (T.n (some (AV.sv 5 L (opF K2 I2 F2 N2 T2))) T.e T.e) T.e) T.e) T.e)) (T.n none (T.n (some (AV.b gg)) T.e (T.n none T.e (T.n (some (AV.i
  IntKind.i64 (4 : Int))) T.e T.e))) T.e)) (T.n none (T.n (some (AV.p 0 0)) (T.n (some (AV.i IntKind.i64 br)) T.e T.e) (T.n none (T.n none (T.n none (T.n (some (AV.i IntKind.i64
  (Int.ofNat k))) T.e T.e) T.e) T.e) T.e)) (T.n (some (AV.sv 1 4 (lsF lw wb))) T.e T.e))) (T.n none (T.n none (T.n (some (AV.b tt)) (T.n (some (AV.sv 1 4 (lsF ll nb))) T.e T.e) (T.n
  none (T.n none (T.n none (T.n (some (AV.i IntKind.i64 (Int.ofNat L))) T.e T.e) T.e) T.e) T.e)) (T.n none (T.n (some (AV.l 1 0 1 1 1 true)) T.e (T.n none T.e (T.n (some (AV.i
  IntKind.i64 (Int.ofNat ix))) T.e T.e))) T.e)) (T.n none (T.n none (T.n (some (AV.i IntKind.i64 (Int.ofNat i))) T.e T.e) (T.n none (T.n none (T.n none (T.n (some (AV.b (decide
  (Int.ofNat k < Int.ofNat L)))) T.e T.e) T.e) T.e) T.e)) T.e))) { tree := T.n (some (AObj.segs 73 33799 [{ st := 0, sz := 1, n := 1, f := oneF (CV.i IntKind.i64 (Int.ofNat (SS.n s))) }, { st := 1, sz := 65, n := 512, f := durF (SS.dur s) (SS.torn s) }, { st := 33281, sz := 1, n := 1, f := oneF (CV.opv (pB (SS.P s)) 66 (pW (SS.P s))) }, { st := 33282, sz := 1, n := 512, f := latF (lB (SS.P s)) (lW (SS.P s)) }, { st := 33794, sz := 5, n := 1, f := tailF (Int.ofNat (List.length (SS.P s))) (Int.ofNat (SS.wr s)) (SS.off s) (SS.armed s) (Int.ofNat (SS.left s)) }])) (T.n (some (AObj.cells 35 1 [] (T.n (some (AV.sv 1 n0 fun i x => CV.i IntKind.u8 (w0 i))) T.e T.e))) T.e T.e) T.e, next := 2, log := [] })
  Orc.z)) := by kernel_rfl

theorem bsB_vc (s : SS) (L k i ix n : Nat) (ln : Nat → Nat) (bb : Nat → Nat → Int) (lw : Nat → Nat) (wb : Nat → Nat → Int) (ll : Nat → Nat) (nb : Nat → Nat → Int) (K2 I2 F2 N2 :
  Nat → Int) (T2 : Nat → Bool) (kk br : Int) (tt gg : Bool) (K : Res → Orc → Prop) : runK Try.prog 1000000 (.code (loopAt Try.prog 6 3) 230 (mkT [(1, .sv 5 L (opF K2 I2 F2 N2 T2)),
  (7, .i .i64 kk), (8, .b tt), (9, .p 0 0), (13, .sv 1 4 (lsF lw wb)), (16, .sv 1 4 (lsF ll nb)), (17, .i .i64 br), (18, .i .i64 (Int.ofNat i)), (19, .b gg), (20, .lr 1 1 0 n
  false), (115, .i .i64 4), (116, .i .i64 (Int.ofNat ix)), (135, .sv 5 L (opF K2 I2 F2 N2 T2)), (136, .i .i64 (Int.ofNat L)), (137, .i .i64 (Int.ofNat k))]) (mkH [some s.o, some
  (.rows 35 1 n (lsF ln bb))])) (Orc.s (Orc.s (Orc.cal [] (AV.sv 1 64 (fF (F2 k))) [Upd.gone] Orc.z) Orc.z) Orc.z) K = ((decide (Int.ofNat k < Int.ofNat L) = true → ((0 : Int) ≤
  Int.ofNat k ∧ Int.ofNat k < ↑L) ∧ True ∧ True ∧ (decide (I2 k = Int.ofNat i) = true → True ∧ Con Try.prog 25 [AV.i IntKind.u8 (F2 k), AV.i IntKind.i64 (64 : Int)] [] (AV.sv 1 64
  (fF (F2 k))) [Upd.gone] ∧ (0 + n ≤ n ∧ True ∧ n + 1 ≤ 140737488355328 ∧ (2 * (n + 1) + 768) * 24 ≤ 281474976710656) ∧ ((-9223372036854775808 : Int) ≤ Int.ofNat k + (1 : Int) ∧
  Int.ofNat k + (1 : Int) ≤ (9223372036854775807 : Int)) ∧ K (Res.st XO.nrm (T.n none (T.n (some (AV.sv 5 L (opF K2 I2 F2 N2 T2))) (T.n none (T.n (some (AV.i IntKind.i64 kk)) (T.n
  none T.e (T.n none (T.n none (T.n (some (AV.i IntKind.i64 (Int.ofNat i))) T.e T.e) T.e) T.e)) (T.n none (T.n none (T.n none (T.n (some (AV.sv 5 L (opF K2 I2 F2 N2 T2))) T.e T.e)
  T.e) T.e) (T.n none (T.n none (T.n (some (AV.i IntKind.i64 (Int.ofNat k + (1 : Int)))) T.e T.e) T.e) T.e))) (T.n none (T.n (some (AV.b gg)) T.e (T.n none (T.n none (T.n (some
  (AV.i IntKind.u8 (F2 k))) T.e T.e) T.e) (T.n (some (AV.i IntKind.i64 (4 : Int))) T.e T.e))) (T.n none (T.n none (T.n none (T.n (some (AV.pv 5 (opF K2 I2 F2 N2 T2 k))) T.e T.e)
  T.e) T.e) T.e))) (T.n none (T.n (some (AV.p 0 0)) (T.n (some (AV.i IntKind.i64 br)) T.e (T.n none (T.n none (T.n (some (AV.lr 1 1 0 n false)) T.e T.e) T.e) T.e)) (T.n none (T.n
  none (T.n none (T.n (some (AV.i IntKind.i64 (Int.ofNat k + (1 : Int)))) T.e T.e) T.e) T.e) T.e)) (T.n (some (AV.sv 1 4 (lsF lw wb))) (T.n none T.e (T.n none (T.n none (T.n (some
  (AV.l 4 0 1 1 1 true)) T.e T.e) T.e) T.e)) (T.n none (T.n none (T.n none (T.n (some (AV.p 2 1)) T.e T.e) T.e) T.e) T.e)))) (T.n none (T.n none (T.n (some (AV.b tt)) (T.n (some
  (AV.sv 1 4 (lsF ll nb))) T.e (T.n none (T.n none (T.n (some (AV.b (decide (I2 k = Int.ofNat i)))) T.e T.e) T.e) T.e)) (T.n none (T.n none (T.n none (T.n (some (AV.i IntKind.i64
  (Int.ofNat L))) T.e T.e) T.e) T.e) T.e)) (T.n none (T.n (some (AV.lr 5 1 0 (addN n 1) false)) T.e (T.n none (T.n none (T.n (some (AV.sv 1 64 (fF (F2 k)))) T.e T.e) T.e) (T.n (some
  (AV.i IntKind.i64 (Int.ofNat ix))) T.e T.e))) (T.n none (T.n none (T.n none (T.n (some (AV.agg [AV.i IntKind.i64 (K2 k), AV.i IntKind.i64 (I2 k), AV.i IntKind.u8 (F2 k), AV.i
  IntKind.i64 (N2 k), AV.b (T2 k)])) T.e T.e) T.e) T.e) T.e))) (T.n none (T.n none (T.n (some (AV.i IntKind.i64 (Int.ofNat i))) T.e (T.n none (T.n none (T.n (some (AV.p 2 2)) T.e
  T.e) T.e) T.e)) (T.n none (T.n none (T.n none (T.n (some (AV.b (decide (Int.ofNat k < Int.ofNat L)))) T.e T.e) T.e) T.e) T.e)) (T.n none (T.n (some (AV.p 2 0)) T.e (T.n none (T.n
  none (T.n (some (AV.lr 5 1 0 (addN n 1) false)) T.e T.e) T.e) T.e)) (T.n none (T.n none (T.n none (T.n (some (AV.i IntKind.i64 (I2 k))) T.e T.e) T.e) T.e) T.e))))) { tree := T.n (some (AObj.segs 73 33799 [{ st := 0, sz := 1, n := 1, f := oneF (CV.i IntKind.i64 (Int.ofNat (SS.n s))) }, { st := 1, sz := 65, n := 512, f := durF (SS.dur s) (SS.torn s) }, { st := 33281, sz := 1, n := 1, f := oneF (CV.opv (pB (SS.P s)) 66 (pW (SS.P s))) }, { st := 33282, sz := 1, n := 512, f := latF (lB (SS.P s)) (lW (SS.P s)) }, { st := 33794, sz := 5, n := 1, f := tailF (Int.ofNat (List.length (SS.P s))) (Int.ofNat (SS.wr s)) (SS.off s) (SS.armed s) (Int.ofNat (SS.left s)) }])) (T.n none (T.n none T.e T.e) (T.n (some (AObj.rows 35 1 (addN n 1) (appZ n (fun k x => CV.sv 1 (ln k) fun i x => CV.i IntKind.u8 (bb k i)) fun x j => List.getD [CV.sv 1 64 (fF (F2 k))] j CV.p0))) T.e T.e)) (T.n (some (AObj.cells 34 5 [AV.i IntKind.i64 (0 : Int), AV.i IntKind.i64 (0 : Int), AV.i IntKind.u8 (0 : Int), AV.i IntKind.i64 (0 : Int), AV.b false] (T.n (some (AV.i IntKind.i64 (K2 k))) (T.n (some (AV.i IntKind.i64 (I2 k))) (T.n (some (AV.i IntKind.i64 (N2 k))) T.e T.e) T.e) (T.n (some (AV.i IntKind.u8 (F2 k))) (T.n (some (AV.b (T2 k))) T.e T.e) T.e)))) (T.n (some (AObj.cells 35 1 [] (T.n (some (AV.sv 1 64 (fF (F2 k)))) T.e T.e))) T.e T.e) T.e), next := 6, log := [5, 1, 4, 3, 2, 2] })
  Orc.z) ∧ (decide (I2 k = Int.ofNat i) = false → ((-9223372036854775808 : Int) ≤ Int.ofNat k + (1 : Int) ∧ Int.ofNat k + (1 : Int) ≤ (9223372036854775807 : Int)) ∧ K (Res.st XO.nrm
  (T.n none (T.n (some (AV.sv 5 L (opF K2 I2 F2 N2 T2))) (T.n none (T.n (some (AV.i IntKind.i64 kk)) (T.n none T.e (T.n none (T.n none (T.n (some (AV.i IntKind.i64 (Int.ofNat i)))
  T.e T.e) T.e) T.e)) (T.n none (T.n none (T.n none (T.n (some (AV.sv 5 L (opF K2 I2 F2 N2 T2))) T.e T.e) T.e) T.e) (T.n none (T.n none (T.n (some (AV.i IntKind.i64 (Int.ofNat k +
  (1 : Int)))) T.e T.e) T.e) T.e))) (T.n none (T.n (some (AV.b gg)) T.e (T.n none T.e (T.n (some (AV.i IntKind.i64 (4 : Int))) T.e T.e))) (T.n none (T.n none (T.n none (T.n (some
  (AV.pv 5 (opF K2 I2 F2 N2 T2 k))) T.e T.e) T.e) T.e) T.e))) (T.n none (T.n (some (AV.p 0 0)) (T.n (some (AV.i IntKind.i64 br)) T.e T.e) (T.n none (T.n none (T.n none (T.n (some
  (AV.i IntKind.i64 (Int.ofNat k + (1 : Int)))) T.e T.e) T.e) T.e) T.e)) (T.n (some (AV.sv 1 4 (lsF lw wb))) T.e (T.n none (T.n none (T.n none (T.n (some (AV.p 2 1)) T.e T.e) T.e)
  T.e) T.e)))) (T.n none (T.n none (T.n (some (AV.b tt)) (T.n (some (AV.sv 1 4 (lsF ll nb))) T.e (T.n none (T.n none (T.n (some (AV.b (decide (I2 k = Int.ofNat i)))) T.e T.e) T.e)
  T.e)) (T.n none (T.n none (T.n none (T.n (some (AV.i IntKind.i64 (Int.ofNat L))) T.e T.e) T.e) T.e) T.e)) (T.n none (T.n (some (AV.lr 1 1 0 n false)) T.e (T.n none T.e (T.n (some
  (AV.i IntKind.i64 (Int.ofNat ix))) T.e T.e))) (T.n none (T.n none (T.n none (T.n (some (AV.agg [AV.i IntKind.i64 (K2 k), AV.i IntKind.i64 (I2 k), AV.i IntKind.u8 (F2 k), AV.i
  IntKind.i64 (N2 k), AV.b (T2 k)])) T.e T.e) T.e) T.e) T.e))) (T.n none (T.n none (T.n (some (AV.i IntKind.i64 (Int.ofNat i))) T.e T.e) (T.n none (T.n none (T.n none (T.n (some
  (AV.b (decide (Int.ofNat k < Int.ofNat L)))) T.e T.e) T.e) T.e) T.e)) (T.n none (T.n (some (AV.p 2 0)) T.e T.e) (T.n none (T.n none (T.n none (T.n (some (AV.i IntKind.i64 (I2 k)))
  T.e T.e) T.e) T.e) T.e))))) { tree := T.n (some (AObj.segs 73 33799 [{ st := 0, sz := 1, n := 1, f := oneF (CV.i IntKind.i64 (Int.ofNat (SS.n s))) }, { st := 1, sz := 65, n := 512, f := durF (SS.dur s) (SS.torn s) }, { st := 33281, sz := 1, n := 1, f := oneF (CV.opv (pB (SS.P s)) 66 (pW (SS.P s))) }, { st := 33282, sz := 1, n := 512, f := latF (lB (SS.P s)) (lW (SS.P s)) }, { st := 33794, sz := 5, n := 1, f := tailF (Int.ofNat (List.length (SS.P s))) (Int.ofNat (SS.wr s)) (SS.off s) (SS.armed s) (Int.ofNat (SS.left s)) }])) (T.n (some (AObj.rows 35 1 n (lsF ln bb))) T.e T.e) (T.n (some (AObj.cells 34 5 [AV.i IntKind.i64 (0 : Int), AV.i IntKind.i64 (0 : Int), AV.i IntKind.u8 (0 : Int), AV.i IntKind.i64 (0 : Int), AV.b false] (T.n (some (AV.i IntKind.i64 (K2 k))) (T.n (some (AV.i IntKind.i64 (I2 k))) (T.n (some (AV.i IntKind.i64 (N2 k))) T.e T.e) T.e) (T.n (some (AV.i IntKind.u8 (F2 k))) (T.n (some (AV.b (T2 k))) T.e T.e) T.e)))) T.e T.e), next := 3, log := [2, 2] })
  Orc.z)) ∧ (decide (Int.ofNat k < Int.ofNat L) = false → K (Res.st (XO.exit 6) (T.n none (T.n (some (AV.sv 5 L (opF K2 I2 F2 N2 T2))) (T.n none (T.n (some (AV.i IntKind.i64 kk))
  T.e (T.n none (T.n none (T.n none (T.n (some (AV.sv 5 L (opF K2 I2 F2 N2 T2))) T.e T.e) T.e) T.e) T.e)) (T.n none (T.n (some (AV.b gg)) T.e (T.n none T.e (T.n (some (AV.i
  IntKind.i64 (4 : Int))) T.e T.e))) T.e)) (T.n none (T.n (some (AV.p 0 0)) (T.n (some (AV.i IntKind.i64 br)) T.e T.e) (T.n none (T.n none (T.n none (T.n (some (AV.i IntKind.i64
  (Int.ofNat k))) T.e T.e) T.e) T.e) T.e)) (T.n (some (AV.sv 1 4 (lsF lw wb))) T.e T.e))) (T.n none (T.n none (T.n (some (AV.b tt)) (T.n (some (AV.sv 1 4 (lsF ll nb))) T.e T.e) (T.n
  none (T.n none (T.n none (T.n (some (AV.i IntKind.i64 (Int.ofNat L))) T.e T.e) T.e) T.e) T.e)) (T.n none (T.n (some (AV.lr 1 1 0 n false)) T.e (T.n none T.e (T.n (some (AV.i
  IntKind.i64 (Int.ofNat ix))) T.e T.e))) T.e)) (T.n none (T.n none (T.n (some (AV.i IntKind.i64 (Int.ofNat i))) T.e T.e) (T.n none (T.n none (T.n none (T.n (some (AV.b (decide
  (Int.ofNat k < Int.ofNat L)))) T.e T.e) T.e) T.e) T.e)) T.e))) { tree := T.n (some (AObj.segs 73 33799 [{ st := 0, sz := 1, n := 1, f := oneF (CV.i IntKind.i64 (Int.ofNat (SS.n s))) }, { st := 1, sz := 65, n := 512, f := durF (SS.dur s) (SS.torn s) }, { st := 33281, sz := 1, n := 1, f := oneF (CV.opv (pB (SS.P s)) 66 (pW (SS.P s))) }, { st := 33282, sz := 1, n := 512, f := latF (lB (SS.P s)) (lW (SS.P s)) }, { st := 33794, sz := 5, n := 1, f := tailF (Int.ofNat (List.length (SS.P s))) (Int.ofNat (SS.wr s)) (SS.off s) (SS.armed s) (Int.ofNat (SS.left s)) }])) (T.n (some (AObj.rows 35 1 n (lsF ln bb))) T.e T.e) T.e, next := 2, log := [] })
  Orc.z)) := by kernel_rfl

/-- How many bases there are behind k of the writes, how long they are, and their bytes. -/
def bcN (I : Nat → Int) (i : Nat) : Nat → Nat
  | 0 => 1
  | k + 1 => bif decide (I k = Int.ofNat i) then bcN I i k + 1 else bcN I i k
def lnF (n0 : Nat) : Nat → Nat
  | 0 => n0
  | _ + 1 => 64
noncomputable def bbF (w0 : Nat → Int) (I F : Nat → Int) (i : Nat) : Nat → Nat → Nat → Int
  | 0 => fun _ => w0
  | k + 1 => bif decide (I k = Int.ofNat i) then fun j => bif Nat.blt j (bcN I i k) then bbF w0 I F i k j else fB (F k) else bbF w0 I F i k
theorem bcN_pos (I : Nat → Int) (i : Nat) : ∀ k, 1 ≤ bcN I i k ∧ bcN I i k ≤ k + 1
  | 0 => ⟨Nat.le_refl _, Nat.le_refl _⟩
  | k + 1 => by
    have := bcN_pos I i k
    show 1 ≤ (bif decide (I k = Int.ofNat i) then bcN I i k + 1 else bcN I i k) ∧ (bif decide (I k = Int.ofNat i) then bcN I i k + 1 else bcN I i k) ≤ k + 1 + 1
    cases decide (I k = Int.ofNat i) <;> simp <;> omega

noncomputable def bsT (L ix i : Nat) (lw : Nat → Nat) (wb : Nat → Nat → Int) (ll : Nat → Nat) (nb : Nat → Nat → Int) (K2 I2 F2 N2 : Nat → Int) (T2 : Nat → Bool) (kk br : Int) (tt gg : Bool) (bs : AV) (k : Nat) : List (Nat × AV) :=
  [(1, .sv 5 L (opF K2 I2 F2 N2 T2)), (7, .i .i64 kk), (8, .b tt), (9, .p 0 0), (13, .sv 1 4 (lsF lw wb)), (16, .sv 1 4 (lsF ll nb)), (17, .i .i64 br), (18, .i .i64 (Int.ofNat i)), (19, .b gg), (20, bs), (115, .i .i64 4), (116, .i .i64 (Int.ofNat ix)), (135, .sv 5 L (opF K2 I2 F2 N2 T2)), (136, .i .i64 (Int.ofNat L)), (137, .i .i64 (Int.ofNat k))]
noncomputable def bsE (L ix i : Nat) (lw : Nat → Nat) (wb : Nat → Nat → Int) (ll : Nat → Nat) (nb : Nat → Nat → Int) (K2 I2 F2 N2 : Nat → Int) (T2 : Nat → Bool) (kk br : Int) (tt gg : Bool) (bs : AV) : List (Nat × AV) :=
  [(1, .sv 5 L (opF K2 I2 F2 N2 T2)), (7, .i .i64 kk), (8, .b tt), (9, .p 0 0), (13, .sv 1 4 (lsF lw wb)), (16, .sv 1 4 (lsF ll nb)), (17, .i .i64 br), (18, .i .i64 (Int.ofNat i)), (19, .b gg), (20, bs), (115, .i .i64 4), (116, .i .i64 (Int.ofNat ix))]

theorem bs_one (n0 : Nat) (w0 : Nat → Int) : OX (some (cellsO 35 [.sv 1 n0 fun i _ => .i .u8 (w0 i)])) (some (.rows 35 1 1 (lsF (lnF n0) fun _ => w0))) := by
  have h : OX (some (cellsO 35 [.sv 1 n0 fun i _ => .i .u8 (w0 i)])) (some (.rows 35 1 1 fun i _ => lsF (lnF n0) (fun _ => w0) i 0)) := .cellsRows rfl fun i hi => by
    obtain rfl : i = 0 := by omega
    exact ⟨_, rfl, fun ρ x hx => toAV_CR (c := .sv 1 n0 fun i _ => .i .u8 (w0 i)) hx⟩
  exact h
theorem bs_two (n0 : Nat) (w0 : Nat → Int) (c : Int) : OX (some (cellsO 35 [.sv 1 n0 fun i _ => .i .u8 (w0 i), .sv 1 64 (fF c)])) (some (.rows 35 1 2 (lsF (lnF n0) fun j => bif Nat.blt j 1 then w0 else fB c))) := by
  have h : OX (some (cellsO 35 [.sv 1 n0 fun i _ => .i .u8 (w0 i), .sv 1 64 (fF c)])) (some (.rows 35 1 2 fun i _ => lsF (lnF n0) (fun j => bif Nat.blt j 1 then w0 else fB c) i 0)) := .cellsRows rfl fun i hi => by
    have : i = 0 ∨ i = 1 := by omega
    rcases this with rfl | rfl
    · exact ⟨_, rfl, fun ρ x hx => toAV_CR (c := .sv 1 n0 fun i _ => .i .u8 (w0 i)) hx⟩
    · exact ⟨_, rfl, fun ρ x hx => toAV_CR (c := .sv 1 64 (fF c)) hx⟩
  exact h
theorem bs_more (n n0 : Nat) (bb : Nat → Nat → Int) (c : Int) (hn : 1 ≤ n) (j : Nat) : CW (appZ n (lsF (lnF n0) bb) (fun _ j => [CV.sv 1 64 (fF c)].getD j .p0) j 0) (lsF (lnF n0) (fun j => bif Nat.blt j n then bb j else fB c) j 0) := by
  obtain ⟨m, rfl⟩ : ∃ m, n = m + 1 := ⟨n - 1, by omega⟩
  show CW (zipCV (Nat.blt j (m + 1)) (lsF (lnF n0) bb j 0) (.sv 1 64 (fF c))) _
  refine (zipCV_CW _ _ _).trans ?_
  cases hb : Nat.blt j (m + 1) with
  | true =>
    refine .of ?_
    show CV.sv 1 (lnF n0 j) (fun i _ => .i .u8 (bb j i)) = CV.sv 1 (lnF n0 j) (fun i _ => .i .u8 ((bif Nat.blt j (m + 1) then bb j else fB c) i))
    rw [hb]; rfl
  | false =>
    have hj : m + 1 ≤ j := by
      rcases Nat.lt_or_ge j (m + 1) with q | q
      · rw [← Nat.blt_eq, hb] at q; simp at q
      · exact q
    obtain ⟨r, rfl⟩ : ∃ r, j = r + 1 := ⟨j - 1, by omega⟩
    refine .of ?_
    show CV.sv 1 64 (fF c) = CV.sv 1 64 (fun i _ => .i .u8 ((bif Nat.blt (r + 1) (m + 1) then bb (r + 1) else fB c) i))
    rw [hb]; rfl

/-- The bases of a sector: what it was, and what was written to it. -/
theorem bs_lp (s : SS) (L i ix : Nat) (n0 : Nat) (w0 : Nat → Int) (lw : Nat → Nat) (wb : Nat → Nat → Int) (ll : Nat → Nat) (nb : Nat → Nat → Int) (K2 I2 F2 N2 : Nat → Int) (T2 : Nat → Bool) (kk br : Int) (tt gg : Bool) (hL : L ≤ 1000) :
    LDoes Try.prog (loopAt Try.prog 6 3) 230 1 (mkT (bsT L ix i lw wb ll nb K2 I2 F2 N2 T2 kk br tt gg (.l 1 0 1 1 1 true) 0)) [some s.o, some (cellsO 35 [.sv 1 n0 fun i _ => .i .u8 (w0 i)])]
      (.exit 6) (mkT (bsE L ix i lw wb ll nb K2 I2 F2 N2 T2 kk br tt gg (.lr 1 1 0 (bcN I2 i L) false))) [some s.o, some (.rows 35 1 (bcN I2 i L) (lsF (lnF n0) (bbF w0 I2 F2 i L)))] := by
  refine loop_indV (D := Nat × Bool) (l' := bsE L ix i lw wb ll nb K2 I2 F2 N2 T2 kk br tt gg (.lr 1 1 0 (bcN I2 i L) false))
    (fun d => match d.2 with
      | false => (bsT L ix i lw wb ll nb K2 I2 F2 N2 T2 kk br tt gg (.l 1 0 1 1 1 true) d.1, [some s.o, some (cellsO 35 [.sv 1 n0 fun i _ => .i .u8 (w0 i)])])
      | true => (bsT L ix i lw wb ll nb K2 I2 F2 N2 T2 kk br tt gg (.lr 1 1 0 (bcN I2 i d.1) false) d.1, [some s.o, some (.rows 35 1 (bcN I2 i d.1) (lsF (lnF n0) (bbF w0 I2 F2 i d.1)))])) (fun d => L - d.1)
    (fun d => d.1 ≤ L ∧ (d.2 = false → bcN I2 i d.1 = 1 ∧ bbF w0 I2 F2 i d.1 = fun _ => w0)) ?_ (0, false) ⟨Nat.zero_le _, fun _ => ⟨rfl, rfl⟩⟩
  have up : ∀ k, I2 k = Int.ofNat i → bcN I2 i (k + 1) = bcN I2 i k + 1 ∧ bbF w0 I2 F2 i (k + 1) = fun j => bif Nat.blt j (bcN I2 i k) then bbF w0 I2 F2 i k j else fB (F2 k) := by
    intro k hk
    have hd : decide (I2 k = Int.ofNat i) = true := decide_eq_true hk
    exact ⟨by show (bif _ then _ else _) = _; rw [hd]; rfl, by show (bif _ then _ else _) = _; rw [hd]; rfl⟩
  have st : ∀ k, ¬ I2 k = Int.ofNat i → bcN I2 i (k + 1) = bcN I2 i k ∧ bbF w0 I2 F2 i (k + 1) = bbF w0 I2 F2 i k := by
    intro k hk
    have hd : decide (I2 k = Int.ofNat i) = false := decide_eq_false hk
    exact ⟨by show (bif _ then _ else _) = _; rw [hd]; rfl, by show (bif _ then _ else _) = _; rw [hd]; rfl⟩
  have vt : ∀ (a b : AV) (k : Nat), (∀ (ρ : Rho) (x : Value), VR ρ a x → VR ρ b x) → TVL (bsT L ix i lw wb ll nb K2 I2 F2 N2 T2 kk br tt gg a k) (bsT L ix i lw wb ll nb K2 I2 F2 N2 T2 kk br tt gg b k) := by
    intro a b k h
    refine ⟨rfl, fun _ _ h => h, rfl, fun _ _ h => h, rfl, fun _ _ h => h, rfl, fun _ _ h => h, rfl, fun _ _ h => h, rfl, fun _ _ h => h, rfl, fun _ _ h => h, rfl, fun _ _ h => h, rfl, fun _ _ h => h, rfl, h, .refl _⟩
  have ve : ∀ (a b : AV), (∀ (ρ : Rho) (x : Value), VR ρ a x → VR ρ b x) → TVL (bsE L ix i lw wb ll nb K2 I2 F2 N2 T2 kk br tt gg a) (bsE L ix i lw wb ll nb K2 I2 F2 N2 T2 kk br tt gg b) := by
    intro a b h
    refine ⟨rfl, fun _ _ h => h, rfl, fun _ _ h => h, rfl, fun _ _ h => h, rfl, fun _ _ h => h, rfl, fun _ _ h => h, rfl, fun _ _ h => h, rfl, fun _ _ h => h, rfl, fun _ _ h => h, rfl, fun _ _ h => h, rfl, h, .refl _⟩
  rintro ⟨k, (_ | _)⟩ ⟨hk, hd⟩
  · obtain ⟨h1, h2⟩ := hd rfl
    simp only at hk h1 h2
    refine ⟨by simp, _, _, (bsA_vc s L k i ix n0 w0 lw wb ll nb K2 I2 F2 N2 T2 kk br tt gg _).mpr ⟨fun hlt => ?_, fun hge => ?_⟩⟩
    · have hlt : k < L := by simpa using hlt
      refine ⟨⟨by simp, by simp; omega⟩, trivial, trivial, fun he => ?_, fun he => ?_⟩
      · have he : I2 k = Int.ofNat i := of_decide_eq_true he
        obtain ⟨u1, u2⟩ := up k he
        rw [h1] at u1 u2
        refine ⟨trivial, fillZ_con _, ⟨by simp; omega, by simp; omega⟩, .inl ⟨(k + 1, true), [0, 5], [], _, _, bsT L ix i lw wb ll nb K2 I2 F2 N2 T2 kk br tt gg (.l 1 0 2 2 1 false) (k + 1), [some s.o, some (cellsO 35 [.sv 1 n0 fun i _ => .i .u8 (w0 i), .sv 1 64 (fF (F2 k))])], ⟨hlt, fun h => by simp at h⟩, by simp only; omega, rfl,
          st_is [0, 5] (by kernel_rfl) rfl rfl rfl ⟨by kernel_rfl, by kernel_rfl, by kernel_rfl, by kernel_rfl, trivial⟩ rfl, ?_, ?_⟩⟩
        · simp only; rw [u1]; exact vt _ _ _ fun ρ x h => VR.l_lr h
        · simp only; rw [u1, u2, h2]; exact ⟨.refl _, .x (bs_two n0 w0 (F2 k)), trivial⟩
      · have he : ¬ I2 k = Int.ofNat i := of_decide_eq_false he
        obtain ⟨u1, u2⟩ := st k he
        exact ⟨⟨by simp; omega, by simp; omega⟩, .inl ⟨(k + 1, false), [0, 1], [], _, _, bsT L ix i lw wb ll nb K2 I2 F2 N2 T2 kk br tt gg (.l 1 0 1 1 1 true) (k + 1), [some s.o, some (cellsO 35 [.sv 1 n0 fun i _ => .i .u8 (w0 i)])], ⟨hlt, fun _ => ⟨u1.trans h1, u2.trans h2⟩⟩, by simp only; omega, rfl,
          st_is [0, 1] (by kernel_rfl) rfl rfl rfl ⟨by kernel_rfl, by kernel_rfl, by kernel_rfl, by kernel_rfl, trivial⟩ rfl, .refl _, OVL.refl _⟩⟩
    · have e : L = k := by simp at hge; omega
      subst e
      rw [h1, h2]
      exact .inr ⟨[0, 1], [], _, _, bsE L ix i lw wb ll nb K2 I2 F2 N2 T2 kk br tt gg (.l 1 0 1 1 1 true), [some s.o, some (cellsO 35 [.sv 1 n0 fun i _ => .i .u8 (w0 i)])], rfl, by simp,
        st_is [0, 1] (by kernel_rfl) rfl rfl rfl ⟨by kernel_rfl, by kernel_rfl, by kernel_rfl, by kernel_rfl, trivial⟩ rfl, ve _ _ fun ρ x h => VR.l_lr h, .refl _, .x (bs_one n0 w0), trivial⟩
  · simp only at hk
    obtain ⟨p1, p2⟩ := bcN_pos I2 i k
    refine ⟨by simp, _, _, (bsB_vc s L k i ix (bcN I2 i k) (lnF n0) (bbF w0 I2 F2 i k) lw wb ll nb K2 I2 F2 N2 T2 kk br tt gg _).mpr ⟨fun hlt => ?_, fun hge => ?_⟩⟩
    · have hlt : k < L := by simpa using hlt
      refine ⟨⟨by simp, by simp; omega⟩, trivial, trivial, fun he => ?_, fun he => ?_⟩
      · have he : I2 k = Int.ofNat i := of_decide_eq_true he
        obtain ⟨u1, u2⟩ := up k he
        refine ⟨trivial, fillZ_con _, ⟨by omega, trivial, by omega, by omega⟩, ⟨by simp; omega, by simp; omega⟩, .inl ⟨(k + 1, true), [0, 5], [], _, _, bsT L ix i lw wb ll nb K2 I2 F2 N2 T2 kk br tt gg (.lr 1 1 0 (addN (bcN I2 i k) 1) false) (k + 1), [some s.o, some (.rows 35 1 (addN (bcN I2 i k) 1) (appZ (bcN I2 i k) (lsF (lnF n0) (bbF w0 I2 F2 i k)) fun _ j => [CV.sv 1 64 (fF (F2 k))].getD j .p0))], ⟨hlt, fun h => by simp at h⟩, by simp only; omega, rfl,
          st_is [0, 5] (by kernel_rfl) rfl rfl rfl ⟨by kernel_rfl, by kernel_rfl, by kernel_rfl, by kernel_rfl, trivial⟩ rfl, ?_, ?_⟩⟩
        · simp only; rw [u1, addN_eq]; exact .refl _
        · simp only; rw [u1, u2, addN_eq]
          refine ⟨.refl _, .rowsW fun a b ha hb => ?_, trivial⟩
          obtain rfl : b = 0 := by omega
          exact bs_more _ n0 _ (F2 k) p1 a
      · have he : ¬ I2 k = Int.ofNat i := of_decide_eq_false he
        obtain ⟨u1, u2⟩ := st k he
        refine ⟨⟨by simp; omega, by simp; omega⟩, .inl ⟨(k + 1, true), [0, 1], [], _, _, bsT L ix i lw wb ll nb K2 I2 F2 N2 T2 kk br tt gg (.lr 1 1 0 (bcN I2 i k) false) (k + 1), [some s.o, some (.rows 35 1 (bcN I2 i k) (lsF (lnF n0) (bbF w0 I2 F2 i k)))], ⟨hlt, fun h => by simp at h⟩, by simp only; omega, rfl,
          st_is [0, 1] (by kernel_rfl) rfl rfl rfl ⟨by kernel_rfl, by kernel_rfl, by kernel_rfl, by kernel_rfl, trivial⟩ rfl, ?_, ?_⟩⟩
        · simp only; rw [u1]; exact .refl _
        · simp only; rw [u1, u2]; exact OVL.refl _
    · have e : L = k := by simp at hge; omega
      subst e
      exact .inr ⟨[0, 1], [], _, _, bsE L ix i lw wb ll nb K2 I2 F2 N2 T2 kk br tt gg (.lr 1 1 0 (bcN I2 i L) false), [some s.o, some (.rows 35 1 (bcN I2 i L) (lsF (lnF n0) (bbF w0 I2 F2 i L)))], rfl, by simp,
        st_is [0, 1] (by kernel_rfl) rfl rfl rfl ⟨by kernel_rfl, by kernel_rfl, by kernel_rfl, by kernel_rfl, trivial⟩ rfl, .refl _, OVL.refl _⟩

end Go.Proofs.St

set_option maxRecDepth 20000
namespace Go.Proofs.St
open Go Go.Sim Go.Proofs

theorem gdL_vc (s : SS) (L k i ix n : Nat) (ln : Nat → Nat) (bb : Nat → Nat → Int) (lw : Nat → Nat) (wb : Nat → Nat → Int) (ll : Nat → Nat) (nb : Nat → Nat → Int) (K2 I2 F2 N2 :
  Nat → Int) (T2 : Nat → Bool) (kk br : Int) (tt gg : Bool) (K : Res → Orc → Prop) : runK Try.prog 1000000 (.code (loopAt Try.prog 6 4) 230 (mkT [(1, .sv 5 L (opF K2 I2 F2 N2 T2)),
  (7, .i .i64 kk), (8, .b tt), (9, .p 0 0), (13, .sv 1 4 (lsF lw wb)), (16, .sv 1 4 (lsF ll nb)), (17, .i .i64 br), (18, .i .i64 (Int.ofNat i)), (19, .b gg), (115, .i .i64 4), (116,
  .i .i64 (Int.ofNat ix)), (152, .lr 1 1 0 n false), (153, .i .i64 (Int.ofNat n)), (154, .i .i64 (Int.ofNat k))]) (mkH [some s.o, some (.rows 35 1 n (lsF ln bb))])) (Orc.s (Orc.s
  (Orc.t (Orc.t (Orc.t (Orc.t (Orc.t (Orc.t (Orc.t (Orc.f Orc.z)))))))) (Orc.f (Orc.f (Orc.f (Orc.f (Orc.f (Orc.f (Orc.f (Orc.t Orc.z))))))))) Orc.z) K = ((decide (Int.ofNat k <
  Int.ofNat n) = true → ((0 : Int) ≤ Int.ofNat k ∧ Int.ofNat k < ↑n) ∧ k < n ∧ ((!gg) = true → (!gg) = true ∧ (!gg) = true ∧ ((0 : Int) ≤ Int.ofNat i ∧ Int.ofNat i < (4 : Int)) ∧
  (!gg) = true ∧ True ∧ (!gg) = true ∧ (U8s (ll i) fun i_1 x => CV.i IntKind.u8 (nb i i_1)) ∧ (!gg) = true ∧ (!gg) = true ∧ (U8s (ln k) fun i x => CV.i IntKind.u8 (bb k i)) ∧ (!gg)
  = true ∧ gg = false ∧ ((-9223372036854775808 : Int) ≤ Int.ofNat k + (1 : Int) ∧ Int.ofNat k + (1 : Int) ≤ (9223372036854775807 : Int)) ∧ K (Res.st XO.nrm (T.n none (T.n (some
  (AV.sv 5 L (opF K2 I2 F2 N2 T2))) (T.n none (T.n (some (AV.i IntKind.i64 kk)) (T.n none (T.n none T.e (T.n none (T.n (some (AV.b gg)) T.e T.e) T.e)) T.e) (T.n none (T.n none T.e
  (T.n none (T.n (some (AV.b (natsEq (bytesF (ll i) fun i_1 x => CV.i IntKind.u8 (nb i i_1)) (bytesF (ln k) fun i x => CV.i IntKind.u8 (bb k i))))) T.e T.e) T.e)) T.e)) (T.n none
  (T.n (some (AV.b (natsEq (bytesF (ll i) fun i_1 x => CV.i IntKind.u8 (nb i i_1)) (bytesF (ln k) fun i x => CV.i IntKind.u8 (bb k i))))) (T.n none T.e (T.n none (T.n (some (AV.sv 1
  (ll i) fun i_1 x => CV.i IntKind.u8 (nb i i_1))) T.e T.e) T.e)) (T.n none T.e (T.n (some (AV.i IntKind.i64 (4 : Int))) T.e T.e))) (T.n none T.e (T.n none (T.n none (T.n (some
  (AV.b (decide (Int.ofNat k < Int.ofNat n)))) T.e T.e) T.e) T.e)))) (T.n none (T.n (some (AV.p 0 0)) (T.n (some (AV.i IntKind.i64 br)) (T.n none T.e (T.n none (T.n (some (AV.i
  IntKind.i64 (Int.ofNat i))) T.e T.e) T.e)) T.e) (T.n none (T.n none T.e (T.n none (T.n (some (AV.i IntKind.i64 (Int.ofNat k + (1 : Int)))) T.e T.e) T.e)) (T.n none (T.n none (T.n
  (some (AV.i IntKind.i64 (Int.ofNat n))) T.e T.e) T.e) T.e))) (T.n (some (AV.sv 1 4 (lsF lw wb))) (T.n none (T.n none T.e (T.n none (T.n (some (AV.sv 1 (ln k) fun i x => CV.i
  IntKind.u8 (bb k i))) T.e T.e) T.e)) T.e) (T.n none T.e (T.n none (T.n none (T.n (some (AV.sv 1 (ln k) fun i x => CV.i IntKind.u8 (bb k i))) T.e T.e) T.e) T.e))))) (T.n none (T.n
  none (T.n (some (AV.b tt)) (T.n (some (AV.sv 1 4 (lsF ll nb))) (T.n none T.e (T.n none (T.n (some (AV.sv 1 4 (lsF ll nb))) T.e T.e) T.e)) T.e) (T.n (some (AV.sv 1 (ln k) fun i x
  => CV.i IntKind.u8 (bb k i))) (T.n none T.e (T.n none (T.n (some (AV.b (natsEq (bytesF (ll i) fun i_1 x => CV.i IntKind.u8 (nb i i_1)) (bytesF (ln k) fun i x => CV.i IntKind.u8
  (bb k i))))) T.e T.e) T.e)) (T.n none (T.n none (T.n (some (AV.lr 1 1 0 n false)) T.e T.e) T.e) T.e))) (T.n none (T.n none (T.n none T.e (T.n none (T.n (some (AV.s (bytesF (ll i)
  fun i_1 x => CV.i IntKind.u8 (nb i i_1)))) T.e T.e) T.e)) (T.n none T.e (T.n (some (AV.i IntKind.i64 (Int.ofNat ix))) T.e T.e))) (T.n none T.e (T.n none (T.n none (T.n (some
  (AV.pr 1 1 k 0)) T.e T.e) T.e) T.e)))) (T.n none (T.n none (T.n (some (AV.i IntKind.i64 (Int.ofNat i))) (T.n none T.e (T.n none (T.n (some (AV.pv 1 (lsF ll nb i))) T.e T.e) T.e))
  T.e) (T.n none T.e (T.n none (T.n none (T.n (some (AV.i IntKind.i64 (Int.ofNat k + (1 : Int)))) T.e T.e) T.e) T.e))) (T.n none (T.n none (T.n none T.e (T.n none (T.n (some (AV.s
  (bytesF (ln k) fun i x => CV.i IntKind.u8 (bb k i)))) T.e T.e) T.e)) T.e) (T.n none T.e (T.n none (T.n none (T.n (some (AV.b gg)) T.e T.e) T.e) T.e)))))) { tree := T.n (some (AObj.segs 73 33799 [{ st := 0, sz := 1, n := 1, f := oneF (CV.i IntKind.i64 (Int.ofNat (SS.n s))) }, { st := 1, sz := 65, n := 512, f := durF (SS.dur s) (SS.torn s) }, { st := 33281, sz := 1, n := 1, f := oneF (CV.opv (pB (SS.P s)) 66 (pW (SS.P s))) }, { st := 33282, sz := 1, n := 512, f := latF (lB (SS.P s)) (lW (SS.P s)) }, { st := 33794, sz := 5, n := 1, f := tailF (Int.ofNat (List.length (SS.P s))) (Int.ofNat (SS.wr s)) (SS.off s) (SS.armed s) (Int.ofNat (SS.left s)) }])) (T.n (some (AObj.rows 35 1 n (lsF ln bb))) T.e T.e) T.e, next := 2, log := [] })
  Orc.z) ∧ ((!gg) = false → (!gg) = false ∧ (!gg) = false ∧ (!gg) = false ∧ (!gg) = false ∧ (!gg) = false ∧ (!gg) = false ∧ (!gg) = false ∧ gg = true ∧ ((-9223372036854775808 : Int)
  ≤ Int.ofNat k + (1 : Int) ∧ Int.ofNat k + (1 : Int) ≤ (9223372036854775807 : Int)) ∧ K (Res.st XO.nrm (T.n none (T.n (some (AV.sv 5 L (opF K2 I2 F2 N2 T2))) (T.n none (T.n (some
  (AV.i IntKind.i64 kk)) (T.n none (T.n none T.e (T.n none (T.n (some (AV.b gg)) T.e T.e) T.e)) T.e) (T.n none (T.n none T.e (T.n none (T.n (some (AV.tup [])) T.e T.e) T.e)) T.e))
  (T.n none (T.n (some (AV.b true)) (T.n none T.e (T.n none (T.n (some (AV.tup [])) T.e T.e) T.e)) (T.n none T.e (T.n (some (AV.i IntKind.i64 (4 : Int))) T.e T.e))) (T.n none T.e
  (T.n none (T.n none (T.n (some (AV.b (decide (Int.ofNat k < Int.ofNat n)))) T.e T.e) T.e) T.e)))) (T.n none (T.n (some (AV.p 0 0)) (T.n (some (AV.i IntKind.i64 br)) (T.n none T.e
  (T.n none (T.n (some (AV.tup [])) T.e T.e) T.e)) T.e) (T.n none (T.n none T.e (T.n none (T.n (some (AV.i IntKind.i64 (Int.ofNat k + (1 : Int)))) T.e T.e) T.e)) (T.n none (T.n none
  (T.n (some (AV.i IntKind.i64 (Int.ofNat n))) T.e T.e) T.e) T.e))) (T.n (some (AV.sv 1 4 (lsF lw wb))) (T.n none (T.n none T.e (T.n none (T.n (some (AV.tup [])) T.e T.e) T.e)) T.e)
  (T.n none T.e (T.n none (T.n none (T.n (some (AV.sv 1 (ln k) fun i x => CV.i IntKind.u8 (bb k i))) T.e T.e) T.e) T.e))))) (T.n none (T.n none (T.n (some (AV.b tt)) (T.n (some
  (AV.sv 1 4 (lsF ll nb))) (T.n none T.e (T.n none (T.n (some (AV.tup [])) T.e T.e) T.e)) T.e) (T.n (some (AV.sv 1 (ln k) fun i x => CV.i IntKind.u8 (bb k i))) (T.n none T.e (T.n
  none (T.n (some (AV.b true)) T.e T.e) T.e)) (T.n none (T.n none (T.n (some (AV.lr 1 1 0 n false)) T.e T.e) T.e) T.e))) (T.n none (T.n none (T.n none T.e (T.n none (T.n (some
  (AV.tup [])) T.e T.e) T.e)) (T.n none T.e (T.n (some (AV.i IntKind.i64 (Int.ofNat ix))) T.e T.e))) (T.n none T.e (T.n none (T.n none (T.n (some (AV.pr 1 1 k 0)) T.e T.e) T.e)
  T.e)))) (T.n none (T.n none (T.n (some (AV.i IntKind.i64 (Int.ofNat i))) (T.n none T.e (T.n none (T.n (some (AV.tup [])) T.e T.e) T.e)) T.e) (T.n none T.e (T.n none (T.n none (T.n
  (some (AV.i IntKind.i64 (Int.ofNat k + (1 : Int)))) T.e T.e) T.e) T.e))) (T.n none (T.n none (T.n none T.e (T.n none (T.n (some (AV.tup [])) T.e T.e) T.e)) T.e) (T.n none T.e (T.n
  none (T.n none (T.n (some (AV.b gg)) T.e T.e) T.e) T.e)))))) { tree := T.n (some (AObj.segs 73 33799 [{ st := 0, sz := 1, n := 1, f := oneF (CV.i IntKind.i64 (Int.ofNat (SS.n s))) }, { st := 1, sz := 65, n := 512, f := durF (SS.dur s) (SS.torn s) }, { st := 33281, sz := 1, n := 1, f := oneF (CV.opv (pB (SS.P s)) 66 (pW (SS.P s))) }, { st := 33282, sz := 1, n := 512, f := latF (lB (SS.P s)) (lW (SS.P s)) }, { st := 33794, sz := 5, n := 1, f := tailF (Int.ofNat (List.length (SS.P s))) (Int.ofNat (SS.wr s)) (SS.off s) (SS.armed s) (Int.ofNat (SS.left s)) }])) (T.n (some (AObj.rows 35 1 n (lsF ln bb))) T.e T.e) T.e, next := 2, log := [] })
  Orc.z)) ∧ (decide (Int.ofNat k < Int.ofNat n) = false → K (Res.st (XO.exit 8) (T.n none (T.n (some (AV.sv 5 L (opF K2 I2 F2 N2 T2))) (T.n none (T.n (some (AV.i IntKind.i64 kk))
  T.e T.e) (T.n none (T.n (some (AV.b gg)) T.e (T.n none T.e (T.n (some (AV.i IntKind.i64 (4 : Int))) T.e T.e))) (T.n none T.e (T.n none (T.n none (T.n (some (AV.b (decide
  (Int.ofNat k < Int.ofNat n)))) T.e T.e) T.e) T.e)))) (T.n none (T.n (some (AV.p 0 0)) (T.n (some (AV.i IntKind.i64 br)) T.e T.e) (T.n none T.e (T.n none (T.n none (T.n (some (AV.i
  IntKind.i64 (Int.ofNat n))) T.e T.e) T.e) T.e))) (T.n (some (AV.sv 1 4 (lsF lw wb))) T.e T.e))) (T.n none (T.n none (T.n (some (AV.b tt)) (T.n (some (AV.sv 1 4 (lsF ll nb))) T.e
  T.e) (T.n none T.e (T.n none (T.n none (T.n (some (AV.lr 1 1 0 n false)) T.e T.e) T.e) T.e))) (T.n none (T.n none T.e (T.n none T.e (T.n (some (AV.i IntKind.i64 (Int.ofNat ix)))
  T.e T.e))) T.e)) (T.n none (T.n none (T.n (some (AV.i IntKind.i64 (Int.ofNat i))) T.e T.e) (T.n none T.e (T.n none (T.n none (T.n (some (AV.i IntKind.i64 (Int.ofNat k))) T.e T.e)
  T.e) T.e))) T.e))) { tree := T.n (some (AObj.segs 73 33799 [{ st := 0, sz := 1, n := 1, f := oneF (CV.i IntKind.i64 (Int.ofNat (SS.n s))) }, { st := 1, sz := 65, n := 512, f := durF (SS.dur s) (SS.torn s) }, { st := 33281, sz := 1, n := 1, f := oneF (CV.opv (pB (SS.P s)) 66 (pW (SS.P s))) }, { st := 33282, sz := 1, n := 512, f := latF (lB (SS.P s)) (lW (SS.P s)) }, { st := 33794, sz := 5, n := 1, f := tailF (Int.ofNat (List.length (SS.P s))) (Int.ofNat (SS.wr s)) (SS.off s) (SS.armed s) (Int.ofNat (SS.left s)) }])) (T.n (some (AObj.rows 35 1 n (lsF ln bb))) T.e T.e) T.e, next := 2, log := [] })
  Orc.z)) := by kernel_rfl

/-- Is it one of the first k bases? -/
noncomputable def goodF (a : List Nat) (ln : Nat → Nat) (bb : Nat → Nat → Int) (gg : Bool) : Nat → Bool
  | 0 => gg
  | k + 1 => bif goodF a ln bb gg k then true else natsEq a (bytesF (ln k) fun i _ => .i .u8 (bb k i))
def U8l (bs : Nat → Int) : Prop := ∀ i, ∃ q : Nat, bs i = Int.ofNat q
theorem U8l.u8s {bs : Nat → Int} (h : U8l bs) (n : Nat) : U8s n fun i _ => CV.i .u8 (bs i) := fun i _ => by
  obtain ⟨q, hq⟩ := h i
  exact ⟨q, congrArg (CV.i .u8) hq⟩
noncomputable def gdT (L i ix n : Nat) (lw : Nat → Nat) (wb : Nat → Nat → Int) (ll : Nat → Nat) (nb : Nat → Nat → Int) (K2 I2 F2 N2 : Nat → Int) (T2 : Nat → Bool) (kk br : Int) (tt gg : Bool) (k : Nat) : List (Nat × AV) :=
  [(1, .sv 5 L (opF K2 I2 F2 N2 T2)), (7, .i .i64 kk), (8, .b tt), (9, .p 0 0), (13, .sv 1 4 (lsF lw wb)), (16, .sv 1 4 (lsF ll nb)), (17, .i .i64 br), (18, .i .i64 (Int.ofNat i)), (19, .b gg), (115, .i .i64 4), (116, .i .i64 (Int.ofNat ix)), (152, .lr 1 1 0 n false), (153, .i .i64 (Int.ofNat n)), (154, .i .i64 (Int.ofNat k))]
noncomputable def gdE (L i ix : Nat) (lw : Nat → Nat) (wb : Nat → Nat → Int) (ll : Nat → Nat) (nb : Nat → Nat → Int) (K2 I2 F2 N2 : Nat → Int) (T2 : Nat → Bool) (kk br : Int) (tt gg : Bool) : List (Nat × AV) :=
  [(1, .sv 5 L (opF K2 I2 F2 N2 T2)), (7, .i .i64 kk), (8, .b tt), (9, .p 0 0), (13, .sv 1 4 (lsF lw wb)), (16, .sv 1 4 (lsF ll nb)), (17, .i .i64 br), (18, .i .i64 (Int.ofNat i)), (19, .b gg), (115, .i .i64 4), (116, .i .i64 (Int.ofNat ix))]

theorem gd_lp (s : SS) (L i ix n : Nat) (ln : Nat → Nat) (bb : Nat → Nat → Int) (lw : Nat → Nat) (wb : Nat → Nat → Int) (ll : Nat → Nat) (nb : Nat → Nat → Int) (K2 I2 F2 N2 : Nat → Int) (T2 : Nat → Bool) (kk br : Int) (tt gg : Bool) (hi : i < 4) (hn : n ≤ 10000) (h1 : ∀ k, U8l (bb k)) (h2 : ∀ k, U8l (nb k)) :
    LDoes Try.prog (loopAt Try.prog 6 4) 230 1 (mkT (gdT L i ix n lw wb ll nb K2 I2 F2 N2 T2 kk br tt gg 0)) [some s.o, some (.rows 35 1 n (lsF ln bb))]
      (.exit 8) (mkT (gdE L i ix lw wb ll nb K2 I2 F2 N2 T2 kk br tt (goodF (bytesF (ll i) fun j _ => .i .u8 (nb i j)) ln bb gg n))) [some s.o, none] := by
  refine loop_indV (D := Nat) (l' := gdE L i ix lw wb ll nb K2 I2 F2 N2 T2 kk br tt (goodF (bytesF (ll i) fun j _ => .i .u8 (nb i j)) ln bb gg n))
    (fun k => (gdT L i ix n lw wb ll nb K2 I2 F2 N2 T2 kk br tt (goodF (bytesF (ll i) fun j _ => .i .u8 (nb i j)) ln bb gg k) k, [some s.o, some (.rows 35 1 n (lsF ln bb))])) (fun k => n - k) (fun k => k ≤ n) ?_ 0 (Nat.zero_le _)
  intro k hk
  refine ⟨by simp, _, _, (gdL_vc s L k i ix n ln bb lw wb ll nb K2 I2 F2 N2 T2 kk br tt (goodF (bytesF (ll i) fun j _ => .i .u8 (nb i j)) ln bb gg k) _).mpr ⟨fun hlt => ?_, fun hge => ?_⟩⟩
  · have hlt : k < n := by simpa using hlt
    have b2 : (-9223372036854775808 : Int) ≤ Int.ofNat k + 1 ∧ Int.ofNat k + 1 ≤ 9223372036854775807 := ⟨by simp; omega, by simp; omega⟩
    refine ⟨⟨by simp, by simp; omega⟩, hlt, fun hg => ?_, fun hg => ?_⟩
    · have hg' : goodF (bytesF (ll i) fun j _ => .i .u8 (nb i j)) ln bb gg k = false := by simpa using hg
      have e : goodF (bytesF (ll i) fun j _ => .i .u8 (nb i j)) ln bb gg (k + 1) = natsEq (bytesF (ll i) fun j _ => .i .u8 (nb i j)) (bytesF (ln k) fun j _ => .i .u8 (bb k j)) := by
        show (bif _ then _ else _) = _; rw [hg']; rfl
      refine ⟨hg, hg, ⟨by simp, by simp; omega⟩, hg, trivial, hg, (h2 i).u8s _, hg, hg, (h1 k).u8s _, hg, hg', b2, .inl ⟨k + 1, [0, 1], [], _, _, gdT L i ix n lw wb ll nb K2 I2 F2 N2 T2 kk br tt (natsEq (bytesF (ll i) fun j _ => .i .u8 (nb i j)) (bytesF (ln k) fun j _ => .i .u8 (bb k j))) (k + 1), [some s.o, some (.rows 35 1 n (lsF ln bb))], by omega, by simp only; omega, rfl,
        st_is [0, 1] (by kernel_rfl) rfl rfl rfl ⟨by kernel_rfl, by kernel_rfl, by kernel_rfl, by kernel_rfl, trivial⟩ rfl, ?_, OVL.refl _⟩⟩
      simp only; rw [e]; exact .refl _
    · have hg' : goodF (bytesF (ll i) fun j _ => .i .u8 (nb i j)) ln bb gg k = true := by simpa using hg
      have e : goodF (bytesF (ll i) fun j _ => .i .u8 (nb i j)) ln bb gg (k + 1) = true := by
        show (bif _ then _ else _) = _; rw [hg']; rfl
      refine ⟨hg, hg, hg, hg, hg, hg, hg, hg', b2, .inl ⟨k + 1, [0, 1], [], _, _, gdT L i ix n lw wb ll nb K2 I2 F2 N2 T2 kk br tt true (k + 1), [some s.o, some (.rows 35 1 n (lsF ln bb))], by omega, by simp only; omega, rfl,
        st_is [0, 1] (by kernel_rfl) rfl rfl rfl ⟨by kernel_rfl, by kernel_rfl, by kernel_rfl, by kernel_rfl, trivial⟩ rfl, ?_, OVL.refl _⟩⟩
      simp only; rw [e]; exact .refl _
  · have e : k = n := by simp at hge; omega
    subst e
    exact .inr ⟨[0, 1], [], _, _, gdE L i ix lw wb ll nb K2 I2 F2 N2 T2 kk br tt (goodF (bytesF (ll i) fun j _ => .i .u8 (nb i j)) ln bb gg k), [some s.o, none], rfl, by simp,
      st_is [0, 1] (by kernel_rfl) rfl rfl rfl ⟨by kernel_rfl, by kernel_rfl, trivial⟩ rfl, .refl _, OVL.refl _⟩

end Go.Proofs.St

set_option maxRecDepth 20000
namespace Go.Proofs.St
open Go Go.Sim Go.Proofs

theorem lastL_vc (L k n : Nat) (bs : Nat → Int) (K2 I2 F2 N2 : Nat → Int) (T2 : Nat → Bool) (i kp : Int) (K : Res → Orc → Prop) : runK Try.prog 1000000 (.code (loopAt Try.prog 34
  0) 38 (mkT [(0, .sv 1 n fun j _ => .i .u8 (bs j)), (2, .i .i64 i), (3, .i .i64 kp), (11, .sv 5 L (opF K2 I2 F2 N2 T2)), (12, .i .i64 (Int.ofNat L)), (13, .i .i64 (Int.ofNat k))])
  (mkH [])) (Orc.s (Orc.s (Orc.t (Orc.t (Orc.f (Orc.s Orc.z (Orc.s Orc.z (Orc.s (Orc.cal [] (AV.sv 1 64 (fF (F2 k))) [Upd.gone] Orc.z) Orc.z)))))) (Orc.f (Orc.f (Orc.t (Orc.c
  Orc.z))))) Orc.z) K = ((decide (Int.ofNat k < Int.ofNat L) = true → ((0 : Int) ≤ Int.ofNat k ∧ Int.ofNat k < ↑L) ∧ True ∧ True ∧ ((!decide (I2 k < (0 : Int))) = true → True ∧
  (!decide (I2 k < (0 : Int))) = true ∧ (!decide (I2 k < (0 : Int))) = true ∧ decide (I2 k < (0 : Int)) = false ∧ (decide ((3 : Int) < I2 k) = true → ((-9223372036854775808 : Int) ≤
  Int.ofNat k + (1 : Int) ∧ Int.ofNat k + (1 : Int) ≤ (9223372036854775807 : Int)) ∧ K (Res.st XO.nrm (T.n (some (AV.sv 1 n fun j x => CV.i IntKind.u8 (bs j))) (T.n none (T.n (some
  (AV.i IntKind.i64 kp)) (T.n none (T.n (some (AV.pv 5 (opF K2 I2 F2 N2 T2 k))) T.e T.e) (T.n (some (AV.b (decide ((3 : Int) < I2 k)))) T.e T.e)) (T.n (some (AV.sv 5 L (opF K2 I2 F2
  N2 T2))) (T.n (some (AV.b (decide (I2 k < (0 : Int))))) T.e T.e) T.e)) (T.n none (T.n none (T.n (some (AV.p 0 1)) T.e T.e) T.e) (T.n (some (AV.i IntKind.i64 (Int.ofNat k + (1 :
  Int)))) (T.n (some (AV.p 0 1)) T.e T.e) T.e))) (T.n (some (AV.i IntKind.i64 i)) (T.n none (T.n none (T.n (some (AV.agg [AV.i IntKind.i64 (K2 k), AV.i IntKind.i64 (I2 k), AV.i
  IntKind.u8 (F2 k), AV.i IntKind.i64 (N2 k), AV.b (T2 k)])) T.e T.e) (T.n (some (AV.b (decide ((3 : Int) < I2 k)))) T.e T.e)) (T.n (some (AV.i IntKind.i64 (Int.ofNat L))) (T.n
  (some (AV.b (decide (I2 k < (0 : Int))))) (T.n (some (AV.i IntKind.i64 (Int.ofNat k + (1 : Int)))) T.e T.e) T.e) T.e)) (T.n none (T.n (some (AV.p 0 0)) (T.n (some (AV.i
  IntKind.i64 (I2 k))) T.e T.e) T.e) (T.n (some (AV.b (decide (Int.ofNat k < Int.ofNat L)))) (T.n (some (AV.i IntKind.i64 (I2 k))) T.e T.e) T.e)))) { tree := T.n (some (AObj.cells 34 5 [AV.i IntKind.i64 (0 : Int), AV.i IntKind.i64 (0 : Int), AV.i IntKind.u8 (0 : Int), AV.i IntKind.i64 (0 : Int), AV.b false] (T.n (some (AV.i IntKind.i64 (K2 k))) (T.n (some (AV.i IntKind.i64 (I2 k))) (T.n (some (AV.i IntKind.i64 (N2 k))) T.e T.e) T.e) (T.n (some (AV.i IntKind.u8 (F2 k))) (T.n (some (AV.b (T2 k))) T.e T.e) T.e)))) T.e T.e, next := 1, log := [0, 0] })
  Orc.z) ∧ (decide ((3 : Int) < I2 k) = false → (decide (kp ≤ (0 : Int)) = true → K (Res.st (XO.exit 0) (T.n (some (AV.sv 1 n fun j x => CV.i IntKind.u8 (bs j))) (T.n none (T.n
  (some (AV.i IntKind.i64 kp)) (T.n none (T.n (some (AV.pv 5 (opF K2 I2 F2 N2 T2 k))) T.e T.e) (T.n (some (AV.b (decide ((3 : Int) < I2 k)))) T.e T.e)) (T.n (some (AV.sv 5 L (opF K2
  I2 F2 N2 T2))) (T.n (some (AV.b (decide (I2 k < (0 : Int))))) T.e T.e) T.e)) (T.n none (T.n none (T.n (some (AV.p 0 1)) T.e T.e) (T.n (some (AV.i IntKind.i64 kp)) T.e T.e)) (T.n
  (some (AV.i IntKind.i64 (Int.ofNat k))) (T.n (some (AV.p 0 1)) T.e T.e) T.e))) (T.n (some (AV.i IntKind.i64 i)) (T.n none (T.n none (T.n (some (AV.agg [AV.i IntKind.i64 (K2 k),
  AV.i IntKind.i64 (I2 k), AV.i IntKind.u8 (F2 k), AV.i IntKind.i64 (N2 k), AV.b (T2 k)])) T.e T.e) (T.n (some (AV.b (decide ((3 : Int) < I2 k)))) T.e T.e)) (T.n (some (AV.i
  IntKind.i64 (Int.ofNat L))) (T.n (some (AV.b (decide (I2 k < (0 : Int))))) T.e T.e) T.e)) (T.n none (T.n (some (AV.p 0 0)) (T.n (some (AV.i IntKind.i64 (I2 k))) T.e T.e) (T.n
  (some (AV.b (decide (kp ≤ (0 : Int))))) T.e T.e)) (T.n (some (AV.b (decide (Int.ofNat k < Int.ofNat L)))) (T.n (some (AV.i IntKind.i64 (I2 k))) T.e T.e) T.e)))) { tree := T.n (some (AObj.cells 34 5 [AV.i IntKind.i64 (0 : Int), AV.i IntKind.i64 (0 : Int), AV.i IntKind.u8 (0 : Int), AV.i IntKind.i64 (0 : Int), AV.b false] (T.n (some (AV.i IntKind.i64 (K2 k))) (T.n (some (AV.i IntKind.i64 (I2 k))) (T.n (some (AV.i IntKind.i64 (N2 k))) T.e T.e) T.e) (T.n (some (AV.i IntKind.u8 (F2 k))) (T.n (some (AV.b (T2 k))) T.e T.e) T.e)))) T.e T.e, next := 1, log := [0, 0] })
  Orc.z) ∧ (decide (kp ≤ (0 : Int)) = false → ((-9223372036854775808 : Int) ≤ kp - (1 : Int) ∧ kp - (1 : Int) ≤ (9223372036854775807 : Int)) ∧ True ∧ (decide (I2 k = i) = true →
  True ∧ Con Try.prog 25 [AV.i IntKind.u8 (F2 k), AV.i IntKind.i64 (64 : Int)] [] (AV.sv 1 64 (fF (F2 k))) [Upd.gone] ∧ ((-9223372036854775808 : Int) ≤ Int.ofNat k + (1 : Int) ∧
  Int.ofNat k + (1 : Int) ≤ (9223372036854775807 : Int)) ∧ K (Res.st XO.nrm (T.n (some (AV.sv 1 64 (fF (F2 k)))) (T.n none (T.n (some (AV.i IntKind.i64 (kp - (1 : Int)))) (T.n none
  (T.n (some (AV.pv 5 (opF K2 I2 F2 N2 T2 k))) (T.n (some (AV.i IntKind.i64 i)) T.e T.e) T.e) (T.n (some (AV.b (decide ((3 : Int) < I2 k)))) T.e T.e)) (T.n (some (AV.sv 5 L (opF K2
  I2 F2 N2 T2))) (T.n (some (AV.b (decide (I2 k < (0 : Int))))) (T.n (some (AV.sv 1 64 (fF (F2 k)))) T.e T.e) T.e) (T.n (some (AV.i IntKind.i64 kp)) T.e T.e))) (T.n none (T.n none
  (T.n (some (AV.p 0 1)) (T.n (some (AV.p 0 2)) T.e T.e) T.e) (T.n (some (AV.i IntKind.i64 kp)) T.e T.e)) (T.n (some (AV.i IntKind.i64 (Int.ofNat k + (1 : Int)))) (T.n (some (AV.p 0
  1)) T.e T.e) (T.n (some (AV.p 0 1)) T.e T.e)))) (T.n (some (AV.i IntKind.i64 i)) (T.n none (T.n none (T.n (some (AV.agg [AV.i IntKind.i64 (K2 k), AV.i IntKind.i64 (I2 k), AV.i
  IntKind.u8 (F2 k), AV.i IntKind.i64 (N2 k), AV.b (T2 k)])) (T.n (some (AV.b (decide (I2 k = i)))) T.e T.e) T.e) (T.n (some (AV.b (decide ((3 : Int) < I2 k)))) T.e T.e)) (T.n (some
  (AV.i IntKind.i64 (Int.ofNat L))) (T.n (some (AV.b (decide (I2 k < (0 : Int))))) (T.n (some (AV.i IntKind.i64 (Int.ofNat k + (1 : Int)))) T.e T.e) T.e) (T.n (some (AV.i
  IntKind.i64 (kp - (1 : Int)))) T.e T.e))) (T.n none (T.n (some (AV.p 0 0)) (T.n (some (AV.i IntKind.i64 (I2 k))) (T.n (some (AV.i IntKind.u8 (F2 k))) T.e T.e) T.e) (T.n (some
  (AV.b (decide (kp ≤ (0 : Int))))) T.e T.e)) (T.n (some (AV.b (decide (Int.ofNat k < Int.ofNat L)))) (T.n (some (AV.i IntKind.i64 (I2 k))) T.e T.e) (T.n (some (AV.i IntKind.i64 (I2
  k))) T.e T.e))))) { tree := T.n (some (AObj.cells 34 5 [AV.i IntKind.i64 (0 : Int), AV.i IntKind.i64 (0 : Int), AV.i IntKind.u8 (0 : Int), AV.i IntKind.i64 (0 : Int), AV.b false] (T.n (some (AV.i IntKind.i64 (K2 k))) (T.n (some (AV.i IntKind.i64 (I2 k))) (T.n (some (AV.i IntKind.i64 (N2 k))) T.e T.e) T.e) (T.n (some (AV.i IntKind.u8 (F2 k))) (T.n (some (AV.b (T2 k))) T.e T.e) T.e)))) (T.n none T.e T.e) T.e, next := 2, log := [1, 0, 0] })
  Orc.z) ∧ (decide (I2 k = i) = false → ((-9223372036854775808 : Int) ≤ Int.ofNat k + (1 : Int) ∧ Int.ofNat k + (1 : Int) ≤ (9223372036854775807 : Int)) ∧ K (Res.st XO.nrm (T.n
  (some (AV.sv 1 n fun j x => CV.i IntKind.u8 (bs j))) (T.n none (T.n (some (AV.i IntKind.i64 (kp - (1 : Int)))) (T.n none (T.n (some (AV.pv 5 (opF K2 I2 F2 N2 T2 k))) (T.n (some
  (AV.i IntKind.i64 i)) T.e T.e) T.e) (T.n (some (AV.b (decide ((3 : Int) < I2 k)))) T.e T.e)) (T.n (some (AV.sv 5 L (opF K2 I2 F2 N2 T2))) (T.n (some (AV.b (decide (I2 k < (0 :
  Int))))) T.e T.e) (T.n (some (AV.i IntKind.i64 kp)) T.e T.e))) (T.n none (T.n none (T.n (some (AV.p 0 1)) T.e T.e) (T.n (some (AV.i IntKind.i64 kp)) T.e T.e)) (T.n (some (AV.i
  IntKind.i64 (Int.ofNat k + (1 : Int)))) (T.n (some (AV.p 0 1)) T.e T.e) (T.n (some (AV.p 0 1)) T.e T.e)))) (T.n (some (AV.i IntKind.i64 i)) (T.n none (T.n none (T.n (some (AV.agg
  [AV.i IntKind.i64 (K2 k), AV.i IntKind.i64 (I2 k), AV.i IntKind.u8 (F2 k), AV.i IntKind.i64 (N2 k), AV.b (T2 k)])) (T.n (some (AV.b (decide (I2 k = i)))) T.e T.e) T.e) (T.n (some
  (AV.b (decide ((3 : Int) < I2 k)))) T.e T.e)) (T.n (some (AV.i IntKind.i64 (Int.ofNat L))) (T.n (some (AV.b (decide (I2 k < (0 : Int))))) (T.n (some (AV.i IntKind.i64 (Int.ofNat k
  + (1 : Int)))) T.e T.e) T.e) (T.n (some (AV.i IntKind.i64 (kp - (1 : Int)))) T.e T.e))) (T.n none (T.n (some (AV.p 0 0)) (T.n (some (AV.i IntKind.i64 (I2 k))) T.e T.e) (T.n (some
  (AV.b (decide (kp ≤ (0 : Int))))) T.e T.e)) (T.n (some (AV.b (decide (Int.ofNat k < Int.ofNat L)))) (T.n (some (AV.i IntKind.i64 (I2 k))) T.e T.e) (T.n (some (AV.i IntKind.i64 (I2
  k))) T.e T.e))))) { tree := T.n (some (AObj.cells 34 5 [AV.i IntKind.i64 (0 : Int), AV.i IntKind.i64 (0 : Int), AV.i IntKind.u8 (0 : Int), AV.i IntKind.i64 (0 : Int), AV.b false] (T.n (some (AV.i IntKind.i64 (K2 k))) (T.n (some (AV.i IntKind.i64 (I2 k))) (T.n (some (AV.i IntKind.i64 (N2 k))) T.e T.e) T.e) (T.n (some (AV.i IntKind.u8 (F2 k))) (T.n (some (AV.b (T2 k))) T.e T.e) T.e)))) T.e T.e, next := 1, log := [0, 0] })
  Orc.z)))) ∧ ((!decide (I2 k < (0 : Int))) = false → (!decide (I2 k < (0 : Int))) = false ∧ (!decide (I2 k < (0 : Int))) = false ∧ decide (I2 k < (0 : Int)) = true ∧
  ((-9223372036854775808 : Int) ≤ Int.ofNat k + (1 : Int) ∧ Int.ofNat k + (1 : Int) ≤ (9223372036854775807 : Int)) ∧ K (Res.st XO.nrm (T.n (some (AV.sv 1 n fun j x => CV.i
  IntKind.u8 (bs j))) (T.n none (T.n (some (AV.i IntKind.i64 kp)) (T.n none (T.n (some (AV.pv 5 (opF K2 I2 F2 N2 T2 k))) T.e T.e) (T.n (some (AV.tup [])) T.e T.e)) (T.n (some (AV.sv
  5 L (opF K2 I2 F2 N2 T2))) (T.n (some (AV.b (decide (I2 k < (0 : Int))))) T.e T.e) T.e)) (T.n none (T.n none (T.n (some (AV.p 0 1)) T.e T.e) T.e) (T.n (some (AV.i IntKind.i64
  (Int.ofNat k + (1 : Int)))) (T.n (some (AV.tup [])) T.e T.e) T.e))) (T.n (some (AV.i IntKind.i64 i)) (T.n none (T.n none (T.n (some (AV.agg [AV.i IntKind.i64 (K2 k), AV.i
  IntKind.i64 (I2 k), AV.i IntKind.u8 (F2 k), AV.i IntKind.i64 (N2 k), AV.b (T2 k)])) T.e T.e) (T.n (some (AV.b true)) T.e T.e)) (T.n (some (AV.i IntKind.i64 (Int.ofNat L))) (T.n
  (some (AV.b (decide (I2 k < (0 : Int))))) (T.n (some (AV.i IntKind.i64 (Int.ofNat k + (1 : Int)))) T.e T.e) T.e) T.e)) (T.n none (T.n (some (AV.p 0 0)) (T.n (some (AV.i
  IntKind.i64 (I2 k))) T.e T.e) T.e) (T.n (some (AV.b (decide (Int.ofNat k < Int.ofNat L)))) (T.n (some (AV.tup [])) T.e T.e) T.e)))) { tree := T.n (some (AObj.cells 34 5 [AV.i IntKind.i64 (0 : Int), AV.i IntKind.i64 (0 : Int), AV.i IntKind.u8 (0 : Int), AV.i IntKind.i64 (0 : Int), AV.b false] (T.n (some (AV.i IntKind.i64 (K2 k))) (T.n (some (AV.i IntKind.i64 (I2 k))) (T.n (some (AV.i IntKind.i64 (N2 k))) T.e T.e) T.e) (T.n (some (AV.i IntKind.u8 (F2 k))) (T.n (some (AV.b (T2 k))) T.e T.e) T.e)))) T.e T.e, next := 1, log := [0, 0] })
  Orc.z)) ∧ (decide (Int.ofNat k < Int.ofNat L) = false → K (Res.st (XO.exit 0) (T.n (some (AV.sv 1 n fun j x => CV.i IntKind.u8 (bs j))) (T.n none (T.n (some (AV.i IntKind.i64 kp))
  T.e (T.n (some (AV.sv 5 L (opF K2 I2 F2 N2 T2))) T.e T.e)) (T.n none T.e (T.n (some (AV.i IntKind.i64 (Int.ofNat k))) T.e T.e))) (T.n (some (AV.i IntKind.i64 i)) (T.n none T.e
  (T.n (some (AV.i IntKind.i64 (Int.ofNat L))) T.e T.e)) (T.n none T.e (T.n (some (AV.b (decide (Int.ofNat k < Int.ofNat L)))) T.e T.e)))) { tree := T.e, next := 0, log := [] })
  Orc.z)) := by kernel_rfl

/-- What a sector has behind the first writes, how many are still to come, how many bytes. -/
structure LSt where
  kp : Int
  n : Nat
  b : Nat → Int
noncomputable def lstS (I F : Nat → Int) (i : Int) (q : LSt) : Nat → LSt
  | 0 => q
  | k + 1 => match decide (0 ≤ I k ∧ I k ≤ 3 ∧ 0 < (lstS I F i q k).kp) with
    | true => match decide (I k = i) with
      | true => ⟨(lstS I F i q k).kp - 1, 64, fB (F k)⟩
      | false => ⟨(lstS I F i q k).kp - 1, (lstS I F i q k).n, (lstS I F i q k).b⟩
    | false => lstS I F i q k
theorem lst_no {I F : Nat → Int} {i : Int} {q : LSt} {k : Nat} (h : ¬ (0 ≤ I k ∧ I k ≤ 3 ∧ 0 < (lstS I F i q k).kp)) : lstS I F i q (k + 1) = lstS I F i q k := by
  have hd : decide (0 ≤ I k ∧ I k ≤ 3 ∧ 0 < (lstS I F i q k).kp) = false := decide_eq_false h
  show (match decide (0 ≤ I k ∧ I k ≤ 3 ∧ 0 < (lstS I F i q k).kp) with | true => _ | false => _) = _
  rw [hd]
theorem lst_at {I F : Nat → Int} {i : Int} {q : LSt} {k : Nat} (h : 0 ≤ I k ∧ I k ≤ 3 ∧ 0 < (lstS I F i q k).kp) (e : I k = i) : lstS I F i q (k + 1) = ⟨(lstS I F i q k).kp - 1, 64, fB (F k)⟩ := by
  have hd : decide (0 ≤ I k ∧ I k ≤ 3 ∧ 0 < (lstS I F i q k).kp) = true := decide_eq_true h
  have he : decide (I k = i) = true := decide_eq_true e
  show (match decide (0 ≤ I k ∧ I k ≤ 3 ∧ 0 < (lstS I F i q k).kp) with | true => (match decide (I k = i) with | true => _ | false => _) | false => _) = _
  rw [hd, he]
theorem lst_off {I F : Nat → Int} {i : Int} {q : LSt} {k : Nat} (h : 0 ≤ I k ∧ I k ≤ 3 ∧ 0 < (lstS I F i q k).kp) (e : ¬ I k = i) : lstS I F i q (k + 1) = ⟨(lstS I F i q k).kp - 1, (lstS I F i q k).n, (lstS I F i q k).b⟩ := by
  have hd : decide (0 ≤ I k ∧ I k ≤ 3 ∧ 0 < (lstS I F i q k).kp) = true := decide_eq_true h
  have he : decide (I k = i) = false := decide_eq_false e
  show (match decide (0 ≤ I k ∧ I k ≤ 3 ∧ 0 < (lstS I F i q k).kp) with | true => (match decide (I k = i) with | true => _ | false => _) | false => _) = _
  rw [hd, he]
theorem lst_stop {I F : Nat → Int} {i : Int} {q : LSt} {k : Nat} (h : (lstS I F i q k).kp ≤ 0) : ∀ j, k ≤ j → lstS I F i q j = lstS I F i q k := by
  intro j hj
  induction j with
  | zero => obtain rfl : k = 0 := by omega
            rfl
  | succ j ih =>
    by_cases e : k = j + 1
    · subst e; rfl
    · have h1 := ih (by omega)
      rw [lst_no (by rw [h1]; omega), h1]
theorem lst_kp {I F : Nat → Int} {i : Int} {q : LSt} (h : q.kp ≤ 9223372036854775807) : ∀ k, (lstS I F i q k).kp ≤ 9223372036854775807
  | 0 => h
  | k + 1 => by
    have ih := lst_kp (I := I) (F := F) (i := i) h k
    by_cases c : 0 ≤ I k ∧ I k ≤ 3 ∧ 0 < (lstS I F i q k).kp
    · by_cases e : I k = i
      · rw [lst_at c e]; simp only; omega
      · rw [lst_off c e]; simp only; omega
    · rw [lst_no c]; exact ih

noncomputable def lstT (L : Nat) (K2 I2 F2 N2 : Nat → Int) (T2 : Nat → Bool) (i : Int) (q : LSt) (k : Nat) : List (Nat × AV) :=
  [(0, .sv 1 q.n fun j _ => .i .u8 (q.b j)), (2, .i .i64 i), (3, .i .i64 q.kp), (11, .sv 5 L (opF K2 I2 F2 N2 T2)), (12, .i .i64 (Int.ofNat L)), (13, .i .i64 (Int.ofNat k))]
theorem last_lp (L : Nat) (K2 I2 F2 N2 : Nat → Int) (T2 : Nat → Bool) (i : Int) (q : LSt) (hL : L ≤ 10000) (hq : q.kp ≤ 9223372036854775807) :
    LDoes Try.prog (loopAt Try.prog 34 0) 38 0 (mkT (lstT L K2 I2 F2 N2 T2 i q 0)) [] (.exit 0) (mkT [(0, .sv 1 (lstS I2 F2 i q L).n fun j _ => .i .u8 ((lstS I2 F2 i q L).b j))]) [] := by
  refine loop_indV (D := Nat) (l' := [(0, .sv 1 (lstS I2 F2 i q L).n fun j _ => .i .u8 ((lstS I2 F2 i q L).b j))]) (fun k => (lstT L K2 I2 F2 N2 T2 i (lstS I2 F2 i q k) k, [])) (fun k => L - k) (fun k => k ≤ L) ?_ 0 (Nat.zero_le _)
  intro k hk
  have hkp := lst_kp (I := I2) (F := F2) (i := i) hq k
  refine ⟨Nat.zero_le _, _, _, (lastL_vc L k (lstS I2 F2 i q k).n (lstS I2 F2 i q k).b K2 I2 F2 N2 T2 i (lstS I2 F2 i q k).kp _).mpr ⟨fun hlt => ?_, fun hge => ?_⟩⟩
  · have hlt : k < L := by simpa using hlt
    have b2 : (-9223372036854775808 : Int) ≤ Int.ofNat k + 1 ∧ Int.ofNat k + 1 ≤ 9223372036854775807 := ⟨by simp; omega, by simp; omega⟩
    refine ⟨⟨by simp, by simp; omega⟩, trivial, trivial, fun h0 => ?_, fun h0 => ?_⟩
    · have h0' : ¬ I2 k < 0 := by simpa using h0
      refine ⟨trivial, h0, h0, by simpa using h0, fun h3 => ?_, fun h3 => ⟨fun hz => ?_, fun hz => ?_⟩⟩
      · have h3 : 3 < I2 k := of_decide_eq_true h3
        have e := lst_no (I := I2) (F := F2) (i := i) (q := q) (k := k) (by omega)
        refine ⟨b2, .inl ⟨k + 1, [], [], _, _, lstT L K2 I2 F2 N2 T2 i (lstS I2 F2 i q k) (k + 1), [], by omega, by simp only; omega, rfl, st_is [] (by kernel_rfl) rfl rfl rfl trivial rfl, ?_, OVL.refl _⟩⟩
        simp only; rw [e]; exact .refl _
      · have hz : (lstS I2 F2 i q k).kp ≤ 0 := of_decide_eq_true hz
        have e := lst_stop (I := I2) (F := F2) (i := i) (q := q) hz L hk
        refine .inr ⟨[], [], _, _, [(0, .sv 1 (lstS I2 F2 i q k).n fun j _ => .i .u8 ((lstS I2 F2 i q k).b j))], [], rfl, by simp, st_is [] (by kernel_rfl) rfl rfl rfl trivial rfl, ?_, OVL.refl _⟩
        rw [e]; exact .refl _
      · have h3 : ¬ 3 < I2 k := of_decide_eq_false h3
        have hz : ¬ (lstS I2 F2 i q k).kp ≤ 0 := of_decide_eq_false hz
        have c : 0 ≤ I2 k ∧ I2 k ≤ 3 ∧ 0 < (lstS I2 F2 i q k).kp := ⟨by omega, by omega, by omega⟩
        refine ⟨⟨by omega, by omega⟩, trivial, fun he => ?_, fun he => ?_⟩
        · have e := lst_at (F := F2) c (of_decide_eq_true he)
          refine ⟨trivial, fillZ_con _, b2, .inl ⟨k + 1, [], [], _, _, lstT L K2 I2 F2 N2 T2 i ⟨(lstS I2 F2 i q k).kp - 1, 64, fB (F2 k)⟩ (k + 1), [], by omega, by simp only; omega, rfl, st_is [] (by kernel_rfl) rfl rfl rfl trivial rfl, ?_, OVL.refl _⟩⟩
          simp only; rw [e]; exact .refl _
        · have e := lst_off (F := F2) c (of_decide_eq_false he)
          refine ⟨b2, .inl ⟨k + 1, [], [], _, _, lstT L K2 I2 F2 N2 T2 i ⟨(lstS I2 F2 i q k).kp - 1, (lstS I2 F2 i q k).n, (lstS I2 F2 i q k).b⟩ (k + 1), [], by omega, by simp only; omega, rfl, st_is [] (by kernel_rfl) rfl rfl rfl trivial rfl, ?_, OVL.refl _⟩⟩
          simp only; rw [e]; exact .refl _
    · have h0' : I2 k < 0 := by simpa using h0
      have e := lst_no (I := I2) (F := F2) (i := i) (q := q) (k := k) (by omega)
      refine ⟨h0, h0, by simpa using h0, b2, .inl ⟨k + 1, [], [], _, _, lstT L K2 I2 F2 N2 T2 i (lstS I2 F2 i q k) (k + 1), [], by omega, by simp only; omega, rfl, st_is [] (by kernel_rfl) rfl rfl rfl trivial rfl, ?_, OVL.refl _⟩⟩
      simp only; rw [e]; exact .refl _
  · have e : L = k := by simp at hge; omega
    subst e
    exact .inr ⟨[], [], _, _, [(0, .sv 1 (lstS I2 F2 i q L).n fun j _ => .i .u8 ((lstS I2 F2 i q L).b j))], [], rfl, by simp, st_is [] (by kernel_rfl) rfl rfl rfl trivial rfl, .refl _, OVL.refl _⟩

theorem last2_lp (L n : Nat) (bs : Nat → Int) (K2 I2 F2 N2 : Nat → Int) (T2 : Nat → Bool) (i kp : Int) (hL : L ≤ 10000) (hq : kp ≤ 9223372036854775807) :
    LDoes Try.prog (loopAt Try.prog 34 0) 38 0 (mkT [(0, .sv 1 n fun j _ => .i .u8 (bs j)), (2, .i .i64 i), (3, .i .i64 kp), (11, .sv 5 L (opF K2 I2 F2 N2 T2)), (12, .i .i64 (Int.ofNat L)), (13, .i .i64 0)]) [] (.exit 0) (mkT [(0, .sv 1 (lstS I2 F2 i ⟨kp, n, bs⟩ L).n fun j _ => .i .u8 ((lstS I2 F2 i ⟨kp, n, bs⟩ L).b j))]) [] :=
  last_lp L K2 I2 F2 N2 T2 i ⟨kp, n, bs⟩ hL hq

end Go.Proofs.St

set_option maxRecDepth 20000
namespace Go.Proofs.St
open Go Go.Sim Go.Proofs

theorem last_vc (L n : Nat) (bs : Nat → Int) (K2 I2 F2 N2 : Nat → Int) (T2 : Nat → Bool) (i kp : Int) (K : Res → Orc → Prop) : runK Try.prog 1000000 (.call 34 [.sv 1 n fun j _ =>
  .i .u8 (bs j), .sv 5 L (opF K2 I2 F2 N2 T2), .i .i64 i, .i .i64 kp] (mkH [])) (Orc.lop [] [0, 2, 3, 11, 12, 13] 0 (XO.exit 0) [(0, AV.sv 1 (LSt.n (lstS I2 F2 i { kp := kp, n := n, b := bs }
  L)) fun j x => CV.i IntKind.u8 (LSt.b (lstS I2 F2 i { kp := kp, n := n, b := bs } L) j))] [] Orc.z) K = (LDoes Try.prog (loopAt Try.prog 34 0) 38 0 (mkT [(0, AV.sv 1 n fun j x =>
  CV.i IntKind.u8 (bs j)), (2, AV.i IntKind.i64 i), (3, AV.i IntKind.i64 kp), (11, AV.sv 5 L (opF K2 I2 F2 N2 T2)), (12, AV.i IntKind.i64 (Int.ofNat L)), (13, AV.i IntKind.i64 (0 :
  Int))]) [] (XO.exit 0) (mkT [(0, AV.sv 1 (LSt.n (lstS I2 F2 i { kp := kp, n := n, b := bs } L)) fun j x => CV.i IntKind.u8 (LSt.b (lstS I2 F2 i { kp := kp, n := n, b := bs } L)
  j))]) [] ∧ K (Res.rv (AV.sv 1 (LSt.n (lstS I2 F2 i { kp := kp, n := n, b := bs } L)) fun j x => CV.i IntKind.u8 (LSt.b (lstS I2 F2 i { kp := kp, n := n, b := bs } L) j)) { tree := T.e, next := 0, log := [] })
  Orc.z) := by kernel_rfl

theorem last_con (L n : Nat) (bs : Nat → Int) (K2 I2 F2 N2 : Nat → Int) (T2 : Nat → Bool) (i kp : Int) (hL : L ≤ 10000) (hq : kp ≤ 9223372036854775807) :
    Con Try.prog 34 [.sv 1 n fun j _ => .i .u8 (bs j), .sv 5 L (opF K2 I2 F2 N2 T2), .i .i64 i, .i .i64 kp] [] (.sv 1 (lstS I2 F2 i ⟨kp, n, bs⟩ L).n fun j _ => .i .u8 ((lstS I2 F2 i ⟨kp, n, bs⟩ L).b j)) [] :=
  con_plain rfl ((last_vc L n bs K2 I2 F2 N2 T2 i kp _).mpr ⟨last2_lp L n bs K2 I2 F2 N2 T2 i kp hL hq, _, _, rfl, rfl⟩)

end Go.Proofs.St

set_option maxRecDepth 20000
namespace Go.Proofs.St
open Go Go.Sim Go.Proofs

/-- The writes of a store of four sectors that are pending behind the first k of these, the last first. -/
noncomputable def pL (I F : Nat → Int) : Nat → PW
  | 0 => []
  | k + 1 => match decide (0 ≤ I k ∧ I k < 4) with
    | true => ((I k).toNat, fB (F k)) :: pL I F k
    | false => pL I F k
theorem pL_at {I F : Nat → Int} {k : Nat} (h : 0 ≤ I k ∧ I k < 4) : pL I F (k + 1) = ((I k).toNat, fB (F k)) :: pL I F k := by
  have hd : decide (0 ≤ I k ∧ I k < 4) = true := decide_eq_true h
  show (match decide (0 ≤ I k ∧ I k < 4) with | true => _ | false => _) = _
  rw [hd]
theorem pL_no {I F : Nat → Int} {k : Nat} (h : ¬ (0 ≤ I k ∧ I k < 4)) : pL I F (k + 1) = pL I F k := by
  have hd : decide (0 ≤ I k ∧ I k < 4) = false := decide_eq_false h
  show (match decide (0 ≤ I k ∧ I k < 4) with | true => _ | false => _) = _
  rw [hd]
theorem pL_mem {I F : Nat → Int} : ∀ {k : Nat} {w : Nat × (Nat → Int)}, w ∈ pL I F k → ∃ j, j < k ∧ I j = Int.ofNat w.1 ∧ w.2 = fB (F j) ∧ w.1 < 4
  | 0, w, h => by cases h
  | k + 1, w, h => by
    by_cases c : 0 ≤ I k ∧ I k < 4
    · rw [pL_at c] at h
      rcases List.mem_cons.1 h with rfl | h
      · exact ⟨k, Nat.lt_succ_self k, by simp; omega, rfl, by simp only; omega⟩
      · obtain ⟨j, h1, h2⟩ := pL_mem h
        exact ⟨j, by omega, h2⟩
    · rw [pL_no c] at h
      obtain ⟨j, h1, h2⟩ := pL_mem h
      exact ⟨j, by omega, h2⟩
theorem pL_len {I F : Nat → Int} : ∀ k, (pL I F k).length ≤ k
  | 0 => Nat.le_refl _
  | k + 1 => by
    have := pL_len (I := I) (F := F) k
    by_cases c : 0 ≤ I k ∧ I k < 4
    · rw [pL_at c]; simp; omega
    · rw [pL_no c]; omega

theorem kpS_eq {A : SS} (h1 : A.n = 4) (h2 : A.off = false) (h3 : A.armed = false) (h4 : A.P = []) (I F : Nat → Int) : ∀ k, ∃ wr, kpS A I F k = { A with P := pL I F k, wr := wr }
  | 0 => ⟨A.wr, by
    obtain ⟨n, dur, torn, P, wr, off, armed, left⟩ := A
    simp only at h4; subst h4; rfl⟩
  | k + 1 => by
    obtain ⟨wr, ih⟩ := kpS_eq h1 h2 h3 h4 I F k
    show ∃ wr', (kpS A I F k).wrS (I k) 64 (fB (F k)) = { A with P := pL I F (k + 1), wr := wr' }
    rw [ih]
    obtain ⟨n, dur, torn, P, w0, off, armed, left⟩ := A
    simp only at h1 h2 h3 h4
    subst h1 h2 h3 h4
    by_cases c : 0 ≤ I k ∧ I k < 4
    · rw [pL_at c]
      have hd : decide (0 ≤ I k ∧ I k < Int.ofNat 4 ∧ 64 = 64) = true := by simp; exact c
      refine ⟨wr + 1, ?_⟩
      show (match decide (0 ≤ I k ∧ I k < Int.ofNat 4 ∧ 64 = 64) with | true => _ | false => _) = _
      rw [hd]; rfl
    · rw [pL_no c]
      have hd : decide (0 ≤ I k ∧ I k < Int.ofNat 4 ∧ 64 = 64) = false := by
        rw [decide_eq_false_iff_not]; intro q; exact c ⟨q.1, q.2.1⟩
      refine ⟨wr, ?_⟩
      show (match decide (0 ≤ I k ∧ I k < Int.ofNat 4 ∧ 64 = 64) with | true => _ | false => _) = _
      rw [hd]

theorem durL_or (dur : Nat → Nat → Int) (i : Nat) : ∀ P : PW, durL dur P i = dur i ∨ ∃ w ∈ P, w.1 = i ∧ durL dur P i = w.2
  | [] => .inl rfl
  | w :: P => by
    show setD (durL dur P) w.1 w.2 i = dur i ∨ _
    unfold setD
    by_cases e : i = w.1
    · have hb : Nat.beq i w.1 = true := by rw [Nat.beq_eq]; exact e
      refine .inr ⟨w, List.mem_cons_self, e.symm, ?_⟩
      show setD (durL dur P) w.1 w.2 i = w.2
      unfold setD; rw [hb]; rfl
    · have hb : Nat.beq i w.1 = false := by rw [Bool.eq_false_iff, ne_eq, Nat.beq_eq]; exact e
      rw [hb]
      rcases durL_or dur i P with h | ⟨v, hv, h1, h2⟩
      · exact .inl h
      · refine .inr ⟨v, List.mem_cons_of_mem _ hv, h1, ?_⟩
        show setD (durL dur P) w.1 w.2 i = v.2
        unfold setD; rw [hb]; exact h2
theorem tornL_no {torn : Nat → Bool} {i : Nat} (h : torn i = false) : ∀ P : PW, tornL torn P i = false
  | [] => h
  | w :: P => by
    show setT (tornL torn P) w.1 false i = false
    unfold setT
    cases Nat.beq i w.1
    · exact tornL_no h P
    · rfl

/-- The text's own reckoning of what a sector has is the store's. -/
theorem lst_eq (dur : Nat → Nat → Int) (I F : Nat → Int) (i : Nat) (kk : Int) : ∀ k, (lstS I F (Int.ofNat i) ⟨kk, 64, dur i⟩ k).n = 64 ∧
    (lstS I F (Int.ofNat i) ⟨kk, 64, dur i⟩ k).b = durL dur ((pL I F k).drop ((pL I F k).length - keepN kk (pL I F k).length)) i ∧
    (0 < (lstS I F (Int.ofNat i) ⟨kk, 64, dur i⟩ k).kp ↔ ((pL I F k).length : Int) < kk) ∧ (0 < (lstS I F (Int.ofNat i) ⟨kk, 64, dur i⟩ k).kp → (lstS I F (Int.ofNat i) ⟨kk, 64, dur i⟩ k).kp = kk - (pL I F k).length)
  | 0 => ⟨rfl, by simp [pL, keepN, lstS, durL], by simp [pL, lstS], fun _ => by simp [pL, lstS]⟩
  | k + 1 => by
    obtain ⟨h1, h2, h3, h4⟩ := lst_eq dur I F i kk k
    by_cases c : 0 ≤ I k ∧ I k < 4
    · rw [pL_at c]
      simp only [List.length_cons]
      by_cases hp : 0 < (lstS I F (Int.ofNat i) ⟨kk, 64, dur i⟩ k).kp
      · have hlt := h3.1 hp
        have hkp := h4 hp
        have c3 : 0 ≤ I k ∧ I k ≤ 3 ∧ 0 < (lstS I F (Int.ofNat i) ⟨kk, 64, dur i⟩ k).kp := ⟨c.1, by omega, hp⟩
        have k1 : keepN kk ((pL I F k).length + 1) = (pL I F k).length + 1 := by unfold keepN; omega
        have k0 : keepN kk (pL I F k).length = (pL I F k).length := by unfold keepN; omega
        rw [k0, Nat.sub_self, List.drop_zero] at h2
        rw [k1, Nat.sub_self, List.drop_zero]
        by_cases e : I k = Int.ofNat i
        · rw [lst_at c3 e]
          have hb : Nat.beq i (I k).toNat = true := by rw [Nat.beq_eq, e]; rfl
          refine ⟨rfl, ?_, by simp only; omega, fun _ => by simp only; omega⟩
          show fB (F k) = setD (durL dur (pL I F k)) (I k).toNat (fB (F k)) i
          unfold setD; rw [hb]; rfl
        · rw [lst_off c3 e]
          have hb : Nat.beq i (I k).toNat = false := by
            rw [Bool.eq_false_iff, ne_eq, Nat.beq_eq]; intro q; apply e; rw [q]; simp; omega
          refine ⟨h1, ?_, by simp only; omega, fun _ => by simp only; omega⟩
          show (lstS I F (Int.ofNat i) ⟨kk, 64, dur i⟩ k).b = setD (durL dur (pL I F k)) (I k).toNat (fB (F k)) i
          unfold setD; rw [hb, h2]; rfl
      · have hge : ¬ ((pL I F k).length : Int) < kk := fun q => hp (h3.2 q)
        rw [lst_no (by omega)]
        have k1 : keepN kk ((pL I F k).length + 1) = keepN kk (pL I F k).length := by unfold keepN; omega
        have k2 : keepN kk (pL I F k).length ≤ (pL I F k).length := Nat.min_le_right _ _
        rw [k1, show (pL I F k).length + 1 - keepN kk (pL I F k).length = ((pL I F k).length - keepN kk (pL I F k).length) + 1 by omega, List.drop_succ_cons]
        exact ⟨h1, h2, by omega, fun q => absurd q hp⟩
    · rw [pL_no c, lst_no (by omega)]
      exact ⟨h1, h2, h3, h4⟩

/-- Good comes of what it was, or of a base. -/
theorem goodF_of {a : List Nat} {ln : Nat → Nat} {bb : Nat → Nat → Int} {gg : Bool} : ∀ {n : Nat}, (gg = true ∨ ∃ j, j < n ∧ natsEq a (bytesF (ln j) fun i _ => .i .u8 (bb j i)) = true) → goodF a ln bb gg n = true
  | 0, h => by
    rcases h with h | ⟨j, hj, _⟩
    · exact h
    · omega
  | n + 1, h => by
    show (bif goodF a ln bb gg n then true else natsEq a (bytesF (ln n) fun i _ => .i .u8 (bb n i))) = true
    cases hg : goodF a ln bb gg n with
    | true => rfl
    | false =>
      have hn : ¬ (gg = true ∨ ∃ j, j < n ∧ natsEq a (bytesF (ln j) fun i _ => .i .u8 (bb j i)) = true) := fun q => by rw [goodF_of q] at hg; simp at hg
      rcases h with h | ⟨j, hj, h⟩
      · exact absurd (.inl h) hn
      · by_cases e : j = n
        · subst e; exact h
        · exact absurd (.inr ⟨j, by omega, h⟩) hn
theorem bb_has (w0 : Nat → Int) (I F : Nat → Int) (i : Nat) : ∀ (L j : Nat), j < L → I j = Int.ofNat i → ∃ r, 1 ≤ r ∧ r < bcN I i L ∧ bbF w0 I F i L r = fB (F j)
  | 0, j, h, _ => by omega
  | L + 1, j, h, hj => by
    have hp := bcN_pos I i L
    by_cases c : I L = Int.ofNat i
    · have hd : decide (I L = Int.ofNat i) = true := decide_eq_true c
      have e1 : bcN I i (L + 1) = bcN I i L + 1 := by show (bif _ then _ else _) = _; rw [hd]; rfl
      have e2 : bbF w0 I F i (L + 1) = fun j => bif Nat.blt j (bcN I i L) then bbF w0 I F i L j else fB (F L) := by show (bif _ then _ else _) = _; rw [hd]; rfl
      rw [e1, e2]
      by_cases e : j = L
      · subst e
        have hb : Nat.blt (bcN I i j) (bcN I i j) = false := by rw [Bool.eq_false_iff, ne_eq, Nat.blt_eq]; omega
        exact ⟨bcN I i j, hp.1, by omega, by simp only; rw [hb]; rfl⟩
      · obtain ⟨r, r1, r2, r3⟩ := bb_has w0 I F i L j (by omega) hj
        have hb : Nat.blt r (bcN I i L) = true := by rw [Nat.blt_eq]; exact r2
        exact ⟨r, r1, by omega, by simp only; rw [hb]; exact r3⟩
    · have hd : decide (I L = Int.ofNat i) = false := decide_eq_false c
      have e1 : bcN I i (L + 1) = bcN I i L := by show (bif _ then _ else _) = _; rw [hd]; rfl
      have e2 : bbF w0 I F i (L + 1) = bbF w0 I F i L := by show (bif _ then _ else _) = _; rw [hd]; rfl
      rw [e1, e2]
      have : j ≠ L := by rintro rfl; exact c hj
      exact bb_has w0 I F i L j (by omega) hj

end Go.Proofs.St
