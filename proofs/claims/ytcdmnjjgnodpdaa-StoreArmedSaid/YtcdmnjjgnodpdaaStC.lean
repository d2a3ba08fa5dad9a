/- Runs over unknown values, told by the kernel: part StC. -/
import Derived.Test.YtcdmnjjgnodpdaaStB
set_option linter.unusedSimpArgs false
set_option linter.unusedVariables false
set_option maxRecDepth 20000
namespace Go.Proofs.St
open Go Go.Sim Go.Proofs

theorem new4_con : Con Try.prog 9 [.i .i64 4] [] (.tup [.p 0 0, .i .i64 0]) [.set (SS.new 4).o] := new_con 4 (by decide) (by decide)
theorem armR_lp (k keep : Int) (L : Nat) (aa : Nat → Int) (hk : k < 9223372036854775808) (hL : L ≤ 100) (hgo : 0 ≤ k ∧ k < Int.ofNat (takenN aa L)) :
    LDoes Try.prog (loopAt Try.prog 7 0) 141 1 (mkT [(0, .i .i64 k), (2, .i .i64 keep), (7, .p 0 0), (9, .i .i64 0), (41, .sv 1 L fun i _ => .i .i64 (aa i)), (42, .i .i64 (Int.ofNat L)), (43, .i .i64 0)]) [some ((SS.new 4).arm k).o] .ret (mkT [(6, .b true)]) [none] :=
  arm_lp hk hL (by simp) (fun _ => ⟨rfl, rfl, rfl⟩) (fun h => absurd hgo h)
theorem armE_lp (k keep : Int) (L : Nat) (aa : Nat → Int) (hk : k < 9223372036854775808) (hL : L ≤ 100) (hno : ¬ (0 ≤ k ∧ k < Int.ofNat (takenN aa L))) :
    LDoes Try.prog (loopAt Try.prog 7 0) 141 1 (mkT [(0, .i .i64 k), (2, .i .i64 keep), (7, .p 0 0), (9, .i .i64 0), (41, .sv 1 L fun i _ => .i .i64 (aa i)), (42, .i .i64 (Int.ofNat L)), (43, .i .i64 0)]) [some ((SS.new 4).arm k).o] (.exit 0) (mkT [(7, .p 0 0), (9, .i .i64 (Int.ofNat (takenN aa L)))]) [some (armS k aa L).o] :=
  arm_lp hk hL (by simp) (fun h => absurd h hno) (fun _ => ⟨rfl, rfl, rfl⟩)

end Go.Proofs.St

set_option maxRecDepth 20000
namespace Go.Proofs.St
open Go Go.Sim Go.Proofs

theorem armedR_vc (k keep : Int) (L : Nat) (aa : Nat → Int) (K : Res → Orc → Prop) : runK Try.prog 1000000 (.call 7 [.i .i64 k, .sv 1 L fun i _ => .i .i64 (aa i), .i .i64 keep]
  (mkH [])) (Orc.cal [] (AV.b true) [] (Orc.c (Orc.cal [] (AV.tup [AV.p 0 0, AV.i IntKind.i64 (0 : Int)]) [Upd.set (SS.o (SS.new 4))] (Orc.c (Orc.c (Orc.c (Orc.c (Orc.c (Orc.c
  (Orc.c (Orc.s (Orc.c (Orc.c (Orc.c Orc.z))) (Orc.cal [0] (AV.tup []) [Upd.set (SS.o (SS.arm (SS.new 4) k))] (Orc.lop [0] [0, 2, 7, 9, 41, 42, 43] 1 XO.ret [(6, AV.b true)] [none]
  Orc.z))))))))))))) K = (Con Try.prog 11 [] [] (AV.b true) [] ∧ True ∧ Con Try.prog 9 [AV.i IntKind.i64 (4 : Int)] [] (AV.tup [AV.p 0 0, AV.i IntKind.i64 (0 : Int)]) [Upd.set (SS.o
  (SS.new 4))] ∧ True ∧ (decide ((100 : Int) < Int.ofNat L) = true → True ∧ K (Res.rv (AV.b true) { tree := T.n (some (AObj.segs 73 33799 [{ st := 0, sz := 1, n := 1, f := oneF (CV.i IntKind.i64 (Int.ofNat (SS.n (SS.new 4)))) }, { st := 1, sz := 65, n := 512, f := durF (SS.dur (SS.new 4)) (SS.torn (SS.new 4)) }, { st := 33281, sz := 1, n := 1, f := oneF (CV.opv (pB (SS.P (SS.new 4))) 66 (pW (SS.P (SS.new 4)))) }, { st := 33282, sz := 1, n := 512, f := latF (lB (SS.P (SS.new 4))) (lW (SS.P (SS.new 4))) }, { st := 33794, sz := 5, n := 1, f := tailF (Int.ofNat (List.length (SS.P (SS.new 4)))) (Int.ofNat (SS.wr (SS.new 4))) (SS.off (SS.new 4)) (SS.armed (SS.new 4)) (Int.ofNat (SS.left (SS.new 4))) }])) T.e T.e, next := 1, log := [0] })
  Orc.z) ∧ (decide ((100 : Int) < Int.ofNat L) = false → Con Try.prog 18 [AV.p 0 0, AV.i IntKind.i64 k] [some (SS.o (SS.new 4))] (AV.tup []) [Upd.set (SS.o (SS.arm (SS.new 4) k))] ∧
  LDoes Try.prog (loopAt Try.prog 7 0) 141 1 (mkT [(0, AV.i IntKind.i64 k), (2, AV.i IntKind.i64 keep), (7, AV.p 0 0), (9, AV.i IntKind.i64 (0 : Int)), (41, AV.sv 1 L fun i x =>
  CV.i IntKind.i64 (aa i)), (42, AV.i IntKind.i64 (Int.ofNat L)), (43, AV.i IntKind.i64 (0 : Int))]) [some (SS.o (SS.arm (SS.new 4) k))] XO.ret (mkT [(6, AV.b true)]) [none] ∧ K
  (Res.rv (AV.b true) { tree := T.n none T.e T.e, next := 1, log := [0, 0, 0] }) Orc.z)) := by kernel_rfl

theorem armedE_vc (k keep : Int) (L : Nat) (aa : Nat → Int) (K : Res → Orc → Prop) : runK Try.prog 1000000 (.call 7 [.i .i64 k, .sv 1 L fun i _ => .i .i64 (aa i), .i .i64 keep]
  (mkH [])) (Orc.cal [] (AV.b true) [] (Orc.c (Orc.cal [] (AV.tup [AV.p 0 0, AV.i IntKind.i64 (0 : Int)]) [Upd.set (SS.o (SS.new 4))] (Orc.c (Orc.c (Orc.c (Orc.c (Orc.c (Orc.c
  (Orc.c (Orc.s (Orc.c (Orc.c (Orc.c Orc.z))) (Orc.cal [0] (AV.tup []) [Upd.set (SS.o (SS.arm (SS.new 4) k))] (Orc.lop [0] [0, 2, 7, 9, 41, 42, 43] 1 (XO.exit 0) [(7, AV.p 0 0), (9,
  AV.i IntKind.i64 (Int.ofNat (takenN aa L)))] [some (SS.o (armS k aa L))] (Orc.cal [0] (AV.i IntKind.i64 (Int.ofNat (SS.wr (armS k aa L)))) [Upd.keep] (Orc.s (Orc.t (Orc.cal [0]
  (AV.i IntKind.i64 (Int.ofNat (List.length (SS.P (armS k aa L))))) [Upd.keep] (Orc.t (Orc.t (Orc.t Orc.z))))) (Orc.f (Orc.f (Orc.f (Orc.f Orc.z))))))))))))))))))) K = (Con Try.prog
  11 [] [] (AV.b true) [] ∧ True ∧ Con Try.prog 9 [AV.i IntKind.i64 (4 : Int)] [] (AV.tup [AV.p 0 0, AV.i IntKind.i64 (0 : Int)]) [Upd.set (SS.o (SS.new 4))] ∧ True ∧ (decide ((100
  : Int) < Int.ofNat L) = true → True ∧ K (Res.rv (AV.b true) { tree := T.n (some (AObj.segs 73 33799 [{ st := 0, sz := 1, n := 1, f := oneF (CV.i IntKind.i64 (Int.ofNat (SS.n (SS.new 4)))) }, { st := 1, sz := 65, n := 512, f := durF (SS.dur (SS.new 4)) (SS.torn (SS.new 4)) }, { st := 33281, sz := 1, n := 1, f := oneF (CV.opv (pB (SS.P (SS.new 4))) 66 (pW (SS.P (SS.new 4)))) }, { st := 33282, sz := 1, n := 512, f := latF (lB (SS.P (SS.new 4))) (lW (SS.P (SS.new 4))) }, { st := 33794, sz := 5, n := 1, f := tailF (Int.ofNat (List.length (SS.P (SS.new 4)))) (Int.ofNat (SS.wr (SS.new 4))) (SS.off (SS.new 4)) (SS.armed (SS.new 4)) (Int.ofNat (SS.left (SS.new 4))) }])) T.e T.e, next := 1, log := [0] })
  Orc.z) ∧ (decide ((100 : Int) < Int.ofNat L) = false → Con Try.prog 18 [AV.p 0 0, AV.i IntKind.i64 k] [some (SS.o (SS.new 4))] (AV.tup []) [Upd.set (SS.o (SS.arm (SS.new 4) k))] ∧
  LDoes Try.prog (loopAt Try.prog 7 0) 141 1 (mkT [(0, AV.i IntKind.i64 k), (2, AV.i IntKind.i64 keep), (7, AV.p 0 0), (9, AV.i IntKind.i64 (0 : Int)), (41, AV.sv 1 L fun i x =>
  CV.i IntKind.i64 (aa i)), (42, AV.i IntKind.i64 (Int.ofNat L)), (43, AV.i IntKind.i64 (0 : Int))]) [some (SS.o (SS.arm (SS.new 4) k))] (XO.exit 0) (mkT [(7, AV.p 0 0), (9, AV.i
  IntKind.i64 (Int.ofNat (takenN aa L)))]) [some (SS.o (armS k aa L))] ∧ Con Try.prog 30 [AV.p 0 0] [some (SS.o (armS k aa L))] (AV.i IntKind.i64 (Int.ofNat (SS.wr (armS k aa L))))
  [Upd.keep] ∧ (decide (Int.ofNat (SS.wr (armS k aa L)) = Int.ofNat (takenN aa L)) = true → decide (Int.ofNat (SS.wr (armS k aa L)) = Int.ofNat (takenN aa L)) = true ∧ Con Try.prog
  28 [AV.p 0 0] [some (SS.o (armS k aa L))] (AV.i IntKind.i64 (Int.ofNat (List.length (SS.P (armS k aa L))))) [Upd.keep] ∧ decide (Int.ofNat (SS.wr (armS k aa L)) = Int.ofNat
  (takenN aa L)) = true ∧ decide (Int.ofNat (SS.wr (armS k aa L)) = Int.ofNat (takenN aa L)) = true ∧ decide (Int.ofNat (SS.wr (armS k aa L)) = Int.ofNat (takenN aa L)) = true ∧ K
  (Res.rv (AV.b (decide (Int.ofNat (List.length (SS.P (armS k aa L))) = Int.ofNat (takenN aa L)))) { tree := T.n (some (AObj.segs 73 33799 [{ st := 0, sz := 1, n := 1, f := oneF (CV.i IntKind.i64 (Int.ofNat (SS.n (armS k aa L)))) }, { st := 1, sz := 65, n := 512, f := durF (SS.dur (armS k aa L)) (SS.torn (armS k aa L)) }, { st := 33281, sz := 1, n := 1, f := oneF (CV.opv (pB (SS.P (armS k aa L))) 66 (pW (SS.P (armS k aa L)))) }, { st := 33282, sz := 1, n := 512, f := latF (lB (SS.P (armS k aa L))) (lW (SS.P (armS k aa L))) }, { st := 33794, sz := 5, n := 1, f := tailF (Int.ofNat (List.length (SS.P (armS k aa L)))) (Int.ofNat (SS.wr (armS k aa L))) (SS.off (armS k aa L)) (SS.armed (armS k aa L)) (Int.ofNat (SS.left (armS k aa L))) }])) T.e T.e, next := 1, log := [0, 0, 0] })
  Orc.z) ∧ (decide (Int.ofNat (SS.wr (armS k aa L)) = Int.ofNat (takenN aa L)) = false → decide (Int.ofNat (SS.wr (armS k aa L)) = Int.ofNat (takenN aa L)) = false ∧ decide
  (Int.ofNat (SS.wr (armS k aa L)) = Int.ofNat (takenN aa L)) = false ∧ decide (Int.ofNat (SS.wr (armS k aa L)) = Int.ofNat (takenN aa L)) = false ∧ decide (Int.ofNat (SS.wr (armS k
  aa L)) = Int.ofNat (takenN aa L)) = false ∧ K (Res.rv (AV.b false) { tree := T.n (some (AObj.segs 73 33799 [{ st := 0, sz := 1, n := 1, f := oneF (CV.i IntKind.i64 (Int.ofNat (SS.n (armS k aa L)))) }, { st := 1, sz := 65, n := 512, f := durF (SS.dur (armS k aa L)) (SS.torn (armS k aa L)) }, { st := 33281, sz := 1, n := 1, f := oneF (CV.opv (pB (SS.P (armS k aa L))) 66 (pW (SS.P (armS k aa L)))) }, { st := 33282, sz := 1, n := 512, f := latF (lB (SS.P (armS k aa L))) (lW (SS.P (armS k aa L))) }, { st := 33794, sz := 5, n := 1, f := tailF (Int.ofNat (List.length (SS.P (armS k aa L)))) (Int.ofNat (SS.wr (armS k aa L))) (SS.off (armS k aa L)) (SS.armed (armS k aa L)) (Int.ofNat (SS.left (armS k aa L))) }])) T.e T.e, next := 1, log := [0, 0, 0] })
  Orc.z))) := by kernel_rfl

theorem armI_n {k : Int} {L : Nat} {aa : Nat → Int} (hno : ¬ (0 ≤ k ∧ k < Int.ofNat (takenN aa L))) : ∀ i, i ≤ L → ArmI k (takenN aa i) (armS k aa i)
  | 0, _ => armI_0 k aa
  | i + 1, hi => by
    have h := armI_n hno i (by omega)
    by_cases hb : 0 ≤ aa i ∧ aa i < 4
    · have hd : decide (0 ≤ aa i ∧ aa i < 4) = true := decide_eq_true hb
      have e : takenN aa (i + 1) = takenN aa i + 1 := by
        show (bif decide (0 ≤ aa i ∧ aa i < 4) then takenN aa i + 1 else takenN aa i) = _
        rw [hd]; rfl
      have hm := takenN_mono aa hi
      rw [e]
      exact (h.good hb (fun q => hno ⟨q.1, by rw [← q.2]; simp; omega⟩) _).2
    · have hd : decide (0 ≤ aa i ∧ aa i < 4) = false := decide_eq_false hb
      have e : takenN aa (i + 1) = takenN aa i := by
        show (bif decide (0 ≤ aa i ∧ aa i < 4) then takenN aa i + 1 else takenN aa i) = _
        rw [hd]; rfl
      have es : armS k aa (i + 1) = armS k aa i := (h.bad hb _).2
      rw [e, es]; exact h

/-- StoreArmed answers true. -/
theorem armed_con (k keep : Int) (L : Nat) (aa : Nat → Int) (hk : k < 9223372036854775808) : Con Try.prog 7 [.i .i64 k, .sv 1 L fun i _ => .i .i64 (aa i), .i .i64 keep] [] (.b true) [] := by
  by_cases hL : L ≤ 100
  · have hl : decide (100 < Int.ofNat L) = false := by simp; omega
    by_cases hgo : 0 ≤ k ∧ k < Int.ofNat (takenN aa L)
    · exact con_plain rfl ((armedR_vc k keep L aa _).mpr ⟨awake_con, trivial, new4_con, trivial, fun h => by rw [hl] at h; simp at h, fun _ => ⟨arm2_con _ _, armR_lp k keep L aa hk hL hgo, _, _, rfl, rfl⟩⟩)
    · have hI := armI_n hgo L (Nat.le_refl _)
      have e1 : decide (Int.ofNat (armS k aa L).wr = Int.ofNat (takenN aa L)) = true := by rw [hI.wr]; simp
      have e2 : decide (Int.ofNat (armS k aa L).P.length = Int.ofNat (takenN aa L)) = true := by rw [hI.P]; simp
      exact con_plain rfl ((armedE_vc k keep L aa _).mpr ⟨awake_con, trivial, new4_con, trivial, fun h => by rw [hl] at h; simp at h, fun _ => ⟨arm2_con _ _, armE_lp k keep L aa hk hL hgo, writes2_con _, fun _ => ⟨e1, pending2_con _, e1, e1, e1, _, _, rfl, by rw [e2]⟩, fun h => by rw [e1] at h; simp at h⟩⟩)
  · have hl : decide (100 < Int.ofNat L) = true := by simp; omega
    exact con_plain rfl ((armedE_vc k keep L aa _).mpr ⟨awake_con, trivial, new4_con, trivial, fun _ => ⟨trivial, _, _, rfl, rfl⟩, fun h => by rw [hl] at h; simp at h⟩)

end Go.Proofs.St
