/- Runs over unknown values, told by the kernel: part JoA. -/
import Derived.Test.YtpoedikibkhmcaaDoorJnC
set_option linter.unusedSimpArgs false
set_option linter.unusedVariables false
set_option maxRecDepth 20000
namespace Go.Proofs.Jn
open Go Go.Sim Go.Proofs Go.Proofs.Cd Go.Proofs.St Go.Proofs.Cl Go.Proofs.YtpoedikibkhmcaaDoor
noncomputable def nxT (g i : Nat) (F : Nat → Nat → CV) : List (Nat × AV) := [(0, .p 1 0), (6, .i .i64 (Int.ofNat g)), (33, .sv 5 60 F), (34, .i .i64 60), (35, .i .i64 (Int.ofNat i))]
theorem nxR_vc (s : SS) (j : JS) (g i : Nat) (G N I P L : Nat → Nat) (D : Nat → Nat → Nat) (h0 : decide (Int.ofNat i < 60) = true) (K : Res → Orc → Prop) : runK Tryd.prog 1000000
  (.code (loopAt Tryd.prog 51 0) 59 (mkT (nxT g i (ptF G N I P L D))) (mkH [some s.o, some j.o])) (Orc.t Orc.z) K = (decide (Int.ofNat i < 60) = true ∧ (0 ≤ Int.ofNat i ∧ Int.ofNat
  i < 60) ∧ True ∧ True ∧ ((-9223372036854775808) ≤ Int.ofNat i + 1 ∧ Int.ofNat i + (1 : Int) ≤ (9223372036854775807 : Int)) ∧ K (Res.st XO.nrm (T.n (some (AV.p 1 0)) (T.n none (T.n
  none (T.n none T.e (T.n none (T.n (some (AV.i .i64 (Int.ofNat g))) T.e T.e) T.e)) (T.n none (T.n none (T.n (some (AV.i .i64 (Int.ofNat i + 1))) T.e T.e) T.e) (T.n none (T.n (some
  (AV.i .i64 (Int.ofNat i + 1))) T.e T.e) T.e))) (T.n none (T.n none (T.n none (T.n (some (AV.sv 5 60 (ptF G N I P L D))) T.e T.e) T.e) (T.n none (T.n (some (AV.i .i64 (Int.ofNat (G
  i)))) T.e T.e) T.e)) (T.n none (T.n none (T.n (some (AV.pv 5 (ptF G N I P L D i))) T.e T.e) T.e) T.e))) (T.n none (T.n none (T.n (some (AV.p 2 0)) T.e (T.n none (T.n (some (AV.p 2
  0)) T.e T.e) T.e)) (T.n none (T.n none (T.n (some (AV.b (decide (Int.ofNat i < 60)))) T.e T.e) T.e) T.e)) (T.n (some (AV.i .i64 (if Int.ofNat (G i) > Int.ofNat g then Int.ofNat (G
  i) else Int.ofNat g))) (T.n none (T.n none (T.n (some (AV.i .i64 60)) T.e T.e) T.e) (T.n none (T.n (some (AV.i .i64 (if Int.ofNat (G i) > Int.ofNat g then Int.ofNat (G i) else
  Int.ofNat g))) T.e T.e) T.e)) (T.n none (T.n none (T.n (some (AV.agg [AV.i .i64 (Int.ofNat (G i)), AV.i .i64 (Int.ofNat (N i)), AV.i .i64 (Int.ofNat (I i)), AV.i .i64 (Int.ofNat
  (P i)), AV.sv 1 (L i) (byF (D (Int.toNat (Int.ofNat i))))])) T.e T.e) T.e) T.e)))) ⟨T.n (some (AObj.segs 77 33799 [{ st := 0, sz := 1, n := 1, f := oneF (CV.i .i64 (Int.ofNat (SS.n s))) },
  { st := 1, sz := 65, n := 512, f := durF (SS.dur s) (SS.torn s) }, { st := 33281, sz := 1, n := 1, f := oneF (CV.opv (pB (SS.P s)) 66 (pW (SS.P s))) }, { st := 33282, sz := 1, n := 512, f := latF (lB (SS.P s)) (lW (SS.P s)) },
  { st := 33794, sz := 5, n := 1, f := tailF (Int.ofNat (List.length (SS.P s))) (Int.ofNat (SS.wr s)) (SS.off s) (SS.armed s) (Int.ofNat (SS.left s)) }])) (T.n (some (AObj.cells 86
  6 [] (T.n (some (AV.p 0 0)) (T.n (some (AV.i .i64 (Int.ofNat (JS.gen j)))) (T.n (some (AV.i .i64 (Int.ofNat (JS.recs j)))) T.e T.e) (T.n (some (AV.b (JS.dead j))) T.e T.e)) (T.n
  (some (AV.i .i64 (Int.ofNat (JS.area j)))) (T.n (some (AV.i .i64 (JS.room j))) T.e T.e) T.e)))) T.e T.e) (T.n (some (AObj.cells 121 5 [AV.i .i64 0, AV.i .i64 0, AV.i .i64 0, AV.i
  .i64 0, AV.l0] (T.n (some (AV.i .i64 (Int.ofNat (G i)))) (T.n (some (AV.i .i64 (Int.ofNat (N i)))) (T.n (some (AV.i .i64 (Int.ofNat (P i)))) T.e T.e) T.e) (T.n (some (AV.i .i64
  (Int.ofNat (I i)))) (T.n (some (AV.sv 1 (L i) (byF (D (Int.toNat (Int.ofNat i)))))) T.e T.e) T.e)))) T.e T.e), 3, [2, 2]⟩) Orc.z) := by kernel_rfl
theorem nxE_vc (s : SS) (j : JS) (g i : Nat) (F : Nat → Nat → CV) (h0 : decide (Int.ofNat i < 60) = false) (K : Res → Orc → Prop) : runK Tryd.prog 1000000 (.code (loopAt Tryd.prog
  51 0) 59 (mkT (nxT g i F)) (mkH [some s.o, some j.o])) (Orc.f Orc.z) K = (decide (Int.ofNat i < 60) = false ∧ K (Res.st (XO.exit 0) (T.n (some (AV.p 1 0)) (T.n none (T.n none T.e
  (T.n none (T.n none (T.n (some (AV.i .i64 (Int.ofNat i))) T.e T.e) T.e) T.e)) (T.n none (T.n none (T.n none (T.n (some (AV.sv 5 60 F)) T.e T.e) T.e) T.e) T.e)) (T.n none (T.n none
  T.e (T.n none (T.n none (T.n (some (AV.b (decide (Int.ofNat i < 60)))) T.e T.e) T.e) T.e)) (T.n (some (AV.i .i64 (Int.ofNat g))) (T.n none (T.n none (T.n (some (AV.i .i64 60)) T.e
  T.e) T.e) T.e) T.e))) ⟨T.n (some (AObj.segs 77 33799 [{ st := 0, sz := 1, n := 1, f := oneF (CV.i .i64 (Int.ofNat (SS.n s))) }, { st := 1, sz := 65, n := 512, f := durF (SS.dur s) (SS.torn s) },
  { st := 33281, sz := 1, n := 1, f := oneF (CV.opv (pB (SS.P s)) 66 (pW (SS.P s))) }, { st := 33282, sz := 1, n := 512, f := latF (lB (SS.P s)) (lW (SS.P s)) }, { st := 33794, sz := 5, n := 1, f := tailF (Int.ofNat (List.length (SS.P s))) (Int.ofNat (SS.wr s)) (SS.off s) (SS.armed s) (Int.ofNat (SS.left s)) }]))
  (T.n (some (AObj.cells 86 6 [] (T.n (some (AV.p 0 0)) (T.n (some (AV.i .i64 (Int.ofNat (JS.gen j)))) (T.n (some (AV.i .i64 (Int.ofNat (JS.recs j)))) T.e T.e) (T.n (some (AV.b
  (JS.dead j))) T.e T.e)) (T.n (some (AV.i .i64 (Int.ofNat (JS.area j)))) (T.n (some (AV.i .i64 (JS.room j))) T.e T.e) T.e)))) T.e T.e) T.e, 2, []⟩) Orc.z) := by kernel_rfl
theorem nx_vc (s : SS) (j : JS) (F : Nat → Nat → CV) (M : Nat) (h0 : decide (1073741824 ≤ Int.ofNat j.gen) = false) (K : Res → Orc → Prop) : runK Tryd.prog 1000000 (.call 51 [.p 1
  0] (mkH [some s.o, some j.o])) (Orc.f (Orc.inl (Orc.cal [0] (AV.tup [AV.sv 5 60 F, AV.i .i64 0]) [Upd.keep, Upd.gone] (Orc.c (Orc.lop [0, 1] [0, 6, 33, 34, 35] 2 (XO.exit 0) [(0,
  AV.p 1 0), (6, AV.i .i64 (Int.ofNat M))] [some (SS.o s), some (JS.o j)] (Orc.s (Orc.s Orc.z Orc.z) (Orc.s Orc.z Orc.z))))))) K = (True ∧ decide (1073741824 ≤ Int.ofNat (JS.gen j))
  = false ∧ True ∧ True ∧ ((-9223372036854775808 : Int) ≤ (1 : Int) - Int.ofNat (JS.area j) ∧ 1 - Int.ofNat (JS.area j) ≤ 9223372036854775807) ∧ Con Tryd.prog 40 [AV.p 0 0, AV.i
  .i64 (1 - Int.ofNat (JS.area j))] [some (SS.o s)] (AV.tup [AV.sv 5 60 F, AV.i .i64 0]) [Upd.keep, Upd.gone] ∧ True ∧ LDoes Tryd.prog (loopAt Tryd.prog 51 0) 59 2 (mkT (nxT (JS.gen
  j) 0 F)) [some (SS.o s), some (JS.o j)] (XO.exit 0) (mkT [(0, AV.p 1 0), (6, AV.i .i64 (Int.ofNat M))]) [some (SS.o s), some (JS.o j)] ∧ ((-9223372036854775808) ≤ Int.ofNat M + 1
  ∧ Int.ofNat M + (1 : Int) ≤ (9223372036854775807 : Int)) ∧ (2 : Int) ≠ (0 : Int) ∧ True ∧ (2 : Int) ≠ (0 : Int) ∧ (decide (Int.tmod (Int.ofNat M + 1) 2 = Int.tmod (Int.ofNat
  (JS.gen j)) 2) = true → ((-9223372036854775808) ≤ Int.ofNat M + (1 : Int) + (1 : Int) ∧ Int.ofNat M + (1 : Int) + (1 : Int) ≤ 9223372036854775807) ∧ (decide (1073741824 <
  Int.ofNat M + (1 : Int) + (1 : Int)) = true → K (Res.rv (AV.tup [AV.i .i64 0, AV.i .i64 15]) ⟨T.n (some (AObj.segs 77 33799 [{ st := 0, sz := 1, n := 1, f := oneF (CV.i .i64 (Int.ofNat (SS.n s))) },
  { st := 1, sz := 65, n := 512, f := durF (SS.dur s) (SS.torn s) }, { st := 33281, sz := 1, n := 1, f := oneF (CV.opv (pB (SS.P s)) 66 (pW (SS.P s))) }, { st := 33282, sz := 1, n := 512, f := latF (lB (SS.P s)) (lW (SS.P s)) },
  { st := 33794, sz := 5, n := 1, f := tailF (Int.ofNat (List.length (SS.P s))) (Int.ofNat (SS.wr s)) (SS.off s) (SS.armed s) (Int.ofNat (SS.left s)) }])) (T.n (some (AObj.cells 86
  6 [] (T.n (some (AV.p 0 0)) (T.n (some (AV.i .i64 (Int.ofNat (JS.gen j)))) (T.n (some (AV.i .i64 (Int.ofNat (JS.recs j)))) T.e T.e) (T.n (some (AV.b (JS.dead j))) T.e T.e)) (T.n
  (some (AV.i .i64 (Int.ofNat (JS.area j)))) (T.n (some (AV.i .i64 (JS.room j))) T.e T.e) T.e)))) T.e T.e) (T.n none T.e T.e), 3, [1, 0, 2]⟩) Orc.z) ∧ (decide (1073741824 <
  Int.ofNat M + (1 : Int) + (1 : Int)) = false → K (Res.rv (AV.tup [AV.i .i64 (Int.ofNat M + (1 : Int) + (1 : Int)), AV.i .i64 0]) ⟨T.n (some (AObj.segs 77 33799 [{ st := 0, sz := 1, n := 1, f := oneF (CV.i .i64 (Int.ofNat (SS.n s))) },
  { st := 1, sz := 65, n := 512, f := durF (SS.dur s) (SS.torn s) }, { st := 33281, sz := 1, n := 1, f := oneF (CV.opv (pB (SS.P s)) 66 (pW (SS.P s))) }, { st := 33282, sz := 1, n := 512, f := latF (lB (SS.P s)) (lW (SS.P s)) },
  { st := 33794, sz := 5, n := 1, f := tailF (Int.ofNat (List.length (SS.P s))) (Int.ofNat (SS.wr s)) (SS.off s) (SS.armed s) (Int.ofNat (SS.left s)) }])) (T.n (some (AObj.cells 86
  6 [] (T.n (some (AV.p 0 0)) (T.n (some (AV.i .i64 (Int.ofNat (JS.gen j)))) (T.n (some (AV.i .i64 (Int.ofNat (JS.recs j)))) T.e T.e) (T.n (some (AV.b (JS.dead j))) T.e T.e)) (T.n
  (some (AV.i .i64 (Int.ofNat (JS.area j)))) (T.n (some (AV.i .i64 (JS.room j))) T.e T.e) T.e)))) T.e T.e) (T.n none T.e T.e), 3, [1, 0, 2]⟩) Orc.z)) ∧ (decide (Int.tmod (Int.ofNat
  M + 1) 2 = Int.tmod (Int.ofNat (JS.gen j)) 2) = false → (decide (1073741824 < Int.ofNat M + 1) = true → K (Res.rv (AV.tup [AV.i .i64 0, AV.i .i64 15]) ⟨T.n (some (AObj.segs 77
  33799 [{ st := 0, sz := 1, n := 1, f := oneF (CV.i .i64 (Int.ofNat (SS.n s))) }, { st := 1, sz := 65, n := 512, f := durF (SS.dur s) (SS.torn s) }, { st := 33281, sz := 1, n := 1, f := oneF (CV.opv (pB (SS.P s)) 66 (pW (SS.P s))) },
  { st := 33282, sz := 1, n := 512, f := latF (lB (SS.P s)) (lW (SS.P s)) }, { st := 33794, sz := 5, n := 1, f := tailF (Int.ofNat (List.length (SS.P s))) (Int.ofNat (SS.wr s)) (SS.off s) (SS.armed s) (Int.ofNat (SS.left s)) }]))
  (T.n (some (AObj.cells 86 6 [] (T.n (some (AV.p 0 0)) (T.n (some (AV.i .i64 (Int.ofNat (JS.gen j)))) (T.n (some (AV.i .i64 (Int.ofNat (JS.recs j)))) T.e T.e) (T.n (some (AV.b
  (JS.dead j))) T.e T.e)) (T.n (some (AV.i .i64 (Int.ofNat (JS.area j)))) (T.n (some (AV.i .i64 (JS.room j))) T.e T.e) T.e)))) T.e T.e) (T.n none T.e T.e), 3, [1, 0, 2]⟩) Orc.z) ∧
  (decide (1073741824 < Int.ofNat M + 1) = false → K (Res.rv (AV.tup [AV.i .i64 (Int.ofNat M + 1), AV.i .i64 0]) ⟨T.n (some (AObj.segs 77 33799 [{ st := 0, sz := 1, n := 1, f := oneF (CV.i .i64 (Int.ofNat (SS.n s))) },
  { st := 1, sz := 65, n := 512, f := durF (SS.dur s) (SS.torn s) }, { st := 33281, sz := 1, n := 1, f := oneF (CV.opv (pB (SS.P s)) 66 (pW (SS.P s))) }, { st := 33282, sz := 1, n := 512, f := latF (lB (SS.P s)) (lW (SS.P s)) },
  { st := 33794, sz := 5, n := 1, f := tailF (Int.ofNat (List.length (SS.P s))) (Int.ofNat (SS.wr s)) (SS.off s) (SS.armed s) (Int.ofNat (SS.left s)) }])) (T.n (some (AObj.cells 86
  6 [] (T.n (some (AV.p 0 0)) (T.n (some (AV.i .i64 (Int.ofNat (JS.gen j)))) (T.n (some (AV.i .i64 (Int.ofNat (JS.recs j)))) T.e T.e) (T.n (some (AV.b (JS.dead j))) T.e T.e)) (T.n
  (some (AV.i .i64 (Int.ofNat (JS.area j)))) (T.n (some (AV.i .i64 (JS.room j))) T.e T.e) T.e)))) T.e T.e) (T.n none T.e T.e), 3, [1, 0, 2]⟩) Orc.z))) := by kernel_rfl
theorem nxW_vc (s : SS) (j : JS) (h0 : decide (1073741824 ≤ Int.ofNat j.gen) = true) (K : Res → Orc → Prop) : runK Tryd.prog 1000000 (.call 51 [.p 1 0] (mkH [some s.o, some j.o]))
  (Orc.t Orc.z) K = (True ∧ decide (1073741824 ≤ Int.ofNat (JS.gen j)) = true ∧ K (Res.rv (AV.tup [AV.i .i64 0, AV.i .i64 15]) ⟨T.n (some (AObj.segs 77 33799 [{ st := 0, sz := 1, n := 1, f := oneF (CV.i .i64 (Int.ofNat (SS.n s))) },
  { st := 1, sz := 65, n := 512, f := durF (SS.dur s) (SS.torn s) }, { st := 33281, sz := 1, n := 1, f := oneF (CV.opv (pB (SS.P s)) 66 (pW (SS.P s))) }, { st := 33282, sz := 1, n := 512, f := latF (lB (SS.P s)) (lW (SS.P s)) },
  { st := 33794, sz := 5, n := 1, f := tailF (Int.ofNat (List.length (SS.P s))) (Int.ofNat (SS.wr s)) (SS.off s) (SS.armed s) (Int.ofNat (SS.left s)) }])) (T.n (some (AObj.cells 86
  6 [] (T.n (some (AV.p 0 0)) (T.n (some (AV.i .i64 (Int.ofNat (JS.gen j)))) (T.n (some (AV.i .i64 (Int.ofNat (JS.recs j)))) T.e T.e) (T.n (some (AV.b (JS.dead j))) T.e T.e)) (T.n
  (some (AV.i .i64 (Int.ofNat (JS.area j)))) (T.n (some (AV.i .i64 (JS.room j))) T.e T.e) T.e)))) T.e T.e) T.e, 2, []⟩) Orc.z) := by kernel_rfl
noncomputable def mxG (G : Nat → Nat) (g : Nat) : Nat → Nat
  | 0 => g
  | i + 1 => if G i > mxG G g i then G i else mxG G g i
theorem mxG_le {G : Nat → Nat} {g B : Nat} (hg : g ≤ B) (hG : ∀ i, G i ≤ B) : ∀ i, mxG G g i ≤ B
  | 0 => hg
  | i + 1 => by
    have := mxG_le hg hG i
    show (if G i > mxG G g i then G i else mxG G g i) ≤ B
    split
    · exact hG i
    · exact this
theorem nx_lp (s : SS) (j : JS) (g : Nat) (G N I P L : Nat → Nat) (D : Nat → Nat → Nat) :
    LDoes Tryd.prog (loopAt Tryd.prog 51 0) 59 2 (mkT (nxT g 0 (ptF G N I P L D))) [some s.o, some j.o] (.exit 0) (mkT [(0, .p 1 0), (6, .i .i64 (Int.ofNat (mxG G g 60)))]) [some s.o, some j.o] := by
  refine loop_ind (D := Nat) (l' := [(0, .p 1 0), (6, .i .i64 (Int.ofNat (mxG G g 60)))]) (fun i => (nxT (mxG G g i) i (ptF G N I P L D), [some s.o, some j.o])) (fun i => 60 - i) (fun i => i ≤ 60) ?_ 0 (Nat.zero_le _)
  intro i hi
  by_cases hlt : i < 60
  · have h0 : decide (Int.ofNat i < 60) = true := by simp; omega
    have e : (if Int.ofNat (G i) > Int.ofNat (mxG G g i) then Int.ofNat (G i) else Int.ofNat (mxG G g i)) = Int.ofNat (mxG G g (i + 1)) := by
      show _ = Int.ofNat (if G i > mxG G g i then G i else mxG G g i)
      by_cases c : G i > mxG G g i
      · rw [if_pos c, if_pos (by simp; omega)]
      · rw [if_neg c, if_neg (by simp; omega)]
    refine ⟨by simp, 1000000, _, (nxR_vc s j (mxG G g i) i G N I P L D h0 _).mpr ⟨h0, ⟨by simp, by simp; omega⟩, trivial, trivial, ⟨by simp <;> omega, by simp <;> omega⟩, ?_⟩⟩
    rw [e]
    exact .inl ⟨i + 1, [0, 1], [], _, _, hlt, by simp only; omega, rfl, st_k [0, 1] (by kernel_rfl)⟩
  · have : i = 60 := by omega
    subst this
    have h0 : decide (Int.ofNat 60 < 60) = false := by decide
    exact ⟨by simp, 1000000, _, (nxE_vc s j (mxG G g 60) 60 (ptF G N I P L D) h0 _).mpr ⟨h0, .inr ⟨[0, 1], [], _, _, rfl, by simp, st_k [0, 1] (by kernel_rfl)⟩⟩⟩
noncomputable def nxG (s : SS) (j : JS) : Nat := mxG (aG s (1 - j.area)) j.gen 60
noncomputable def nxV (s : SS) (j : JS) : Nat := bif Nat.beq ((nxG s j + 1) % 2) (j.gen % 2) then nxG s j + 1 + 1 else nxG s j + 1
theorem next_con (s : SS) (j : JS) (hg : j.gen < 1073741824) (ha : j.area ≤ 1) (on : s.off = false) (hn : 122 ≤ s.n) (h512 : s.n ≤ 512) (hb : Byt s) :
    Con Tryd.prog 51 [.p 1 0] [some s.o, some j.o] (bif Nat.ble (nxV s j) 1073741824 then .tup [.i .i64 (Int.ofNat (nxV s j)), .i .i64 0] else .tup [.i .i64 0, .i .i64 15]) [.keep, .keep] := by
  have h0 : decide (1073741824 ≤ Int.ofNat j.gen) = false := decide_eq_false (by simp; omega)
  have eA : (1 : Int) - Int.ofNat j.area = Int.ofNat (1 - j.area) := by simp; omega
  have w1 : Con Tryd.prog 40 [.p 0 0, .i .i64 ((1 : Int) - Int.ofNat j.area)] [some s.o] (.tup [.sv 5 60 (prF s (1 - j.area)), .i .i64 0]) [.keep, .gone] := by
    rw [eA]; exact look_con s (1 - j.area) on hn h512 hb (by omega)
  have w2 := nx_lp s j j.gen (aG s (1 - j.area)) (aN s (1 - j.area)) (aI s (1 - j.area)) (aP s (1 - j.area)) (aL s (1 - j.area)) (aD s (1 - j.area))
  rw [← prF_a] at w2
  have hM : nxG s j ≤ 4294967296 := mxG_le (by omega) (fun i => stG_le _) 60
  have r0 : (-9223372036854775808 : Int) ≤ (1 : Int) - Int.ofNat j.area ∧ 1 - Int.ofNat j.area ≤ 9223372036854775807 := ⟨by simp <;> omega, by simp <;> omega⟩
  have w2' : LDoes Tryd.prog (loopAt Tryd.prog 51 0) 59 2 (mkT (nxT j.gen 0 (prF s (1 - j.area)))) [some s.o, some j.o] (.exit 0) (mkT [(0, .p 1 0), (6, .i .i64 (Int.ofNat (nxG s j)))]) [some s.o, some j.o] := w2
  unfold nxV
  generalize nxG s j = M at hM w2' ⊢
  have r1 : (-9223372036854775808 : Int) ≤ Int.ofNat M + 1 ∧ Int.ofNat M + (1 : Int) ≤ (9223372036854775807 : Int) := ⟨by simp <;> omega, by simp <;> omega⟩
  have r2 : (-9223372036854775808 : Int) ≤ Int.ofNat M + (1 : Int) + (1 : Int) ∧ Int.ofNat M + (1 : Int) + (1 : Int) ≤ 9223372036854775807 := ⟨by simp <;> omega, by simp <;> omega⟩
  have d : decide (Int.tmod (Int.ofNat M + 1) 2 = Int.tmod (Int.ofNat j.gen) 2) = Nat.beq ((M + 1) % 2) (j.gen % 2) := deq ((M + 1) % 2) (j.gen % 2)
  have e1 : Int.ofNat M + (1 : Int) = Int.ofNat (M + 1) := rfl
  have e2 : Int.ofNat M + (1 : Int) + (1 : Int) = Int.ofNat (M + 1 + 1) := rfl
  have z : (2 : Int) ≠ 0 := by decide
  cases c : Nat.beq ((M + 1) % 2) (j.gen % 2) with
  | true =>
    rw [c] at d
    rw [cond_true]
    cases c2 : Nat.ble (M + 1 + 1) 1073741824 with
    | true =>
      rw [cond_true]
      have d2 : decide ((1073741824 : Int) < Int.ofNat M + (1 : Int) + (1 : Int)) = false := by rw [Nat.ble_eq] at c2; exact decide_eq_false (by simp; omega)
      refine con_of_run [] [] ((nx_vc s j _ M h0 _).mpr ⟨trivial, h0, trivial, trivial, r0, w1, trivial, w2', r1, z, trivial, z, fun _ => ⟨r2, fun h => (by rw [d2] at h; cases h), fun _ => ?_⟩, fun h => (by rw [d] at h; cases h)⟩)
      exact ⟨_, _, rfl, ret_k (by kernel_rfl)⟩
    | false =>
      rw [cond_false]
      have d2 : decide ((1073741824 : Int) < Int.ofNat M + (1 : Int) + (1 : Int)) = true := by rw [Bool.eq_false_iff, ne_eq, Nat.ble_eq] at c2; exact decide_eq_true (by simp; omega)
      refine con_of_run [] [] ((nx_vc s j _ M h0 _).mpr ⟨trivial, h0, trivial, trivial, r0, w1, trivial, w2', r1, z, trivial, z, fun _ => ⟨r2, fun _ => ?_, fun h => (by rw [d2] at h; cases h)⟩, fun h => (by rw [d] at h; cases h)⟩)
      exact ⟨_, _, rfl, ret_k (by kernel_rfl)⟩
  | false =>
    rw [c] at d
    rw [cond_false]
    cases c2 : Nat.ble (M + 1) 1073741824 with
    | true =>
      rw [cond_true]
      have d2 : decide ((1073741824 : Int) < Int.ofNat M + (1 : Int)) = false := by rw [Nat.ble_eq] at c2; exact decide_eq_false (by simp; omega)
      refine con_of_run [] [] ((nx_vc s j _ M h0 _).mpr ⟨trivial, h0, trivial, trivial, r0, w1, trivial, w2', r1, z, trivial, z, fun h => (by rw [d] at h; cases h), fun _ => ⟨fun h => (by rw [d2] at h; cases h), fun _ => ?_⟩⟩)
      exact ⟨_, _, rfl, ret_k (by kernel_rfl)⟩
    | false =>
      rw [cond_false]
      have d2 : decide ((1073741824 : Int) < Int.ofNat M + (1 : Int)) = true := by rw [Bool.eq_false_iff, ne_eq, Nat.ble_eq] at c2; exact decide_eq_true (by simp; omega)
      refine con_of_run [] [] ((nx_vc s j _ M h0 _).mpr ⟨trivial, h0, trivial, trivial, r0, w1, trivial, w2', r1, z, trivial, z, fun h => (by rw [d] at h; cases h), fun _ => ⟨fun _ => ?_, fun h => (by rw [d2] at h; cases h)⟩⟩)
      exact ⟨_, _, rfl, ret_k (by kernel_rfl)⟩
theorem nextWorn_con (s : SS) (j : JS) (hg : 1073741824 ≤ j.gen) : Con Tryd.prog 51 [.p 1 0] [some s.o, some j.o] (.tup [.i .i64 0, .i .i64 15]) [.keep, .keep] := by
  have h0 : decide (1073741824 ≤ Int.ofNat j.gen) = true := decide_eq_true (by simp; omega)
  exact con_of_run [] [] ((nxW_vc s j h0 _).mpr (by repeat' first | exact trivial | refine And.intro ?_ ?_ | assumption | exact nt (by assumption) | exact nf (by assumption) | exact nnt (by assumption) | exact nnf (by assumption) | (decide; done) | exact ⟨_, _, rfl, ret_k (by kernel_rfl)⟩))
theorem rwA_vc (s : SS) (j : JS) (S2 : SS) (S3 : SS) (E1 : Int) (E2 : Int) (E3 : Int) (E4 : Int) (N1 : Int) (V : Nat) (n : Nat) (m : Nat → Nat) (b : Nat → Nat → Nat) (h0 : j.dead =
  false) (h1 : decide (E1 = 0) = true) (h3 : decide (E3 = 0) = true) (h2 : decide (E2 = 0) = true) (h4 : decide (E4 = 0) = true) (K : Res → Orc → Prop) : runK Tryd.prog 1000000
  (.call 14 [.p 1 0, .sv 1 n (recF m b)] (mkH [some s.o, some j.o])) (Orc.inl (Orc.c (Orc.f (Orc.c (Orc.cal [] (AV.tup [AV.i .i64 N1, AV.i .i64 E1]) [] (Orc.f (Orc.cal [0, 1]
  (AV.tup [AV.i .i64 (Int.ofNat V), AV.i .i64 E3]) [Upd.keep, Upd.keep] (Orc.f (Orc.inl (Orc.inl (Orc.inl (Orc.cal [0, 4, 2, 3] (AV.i .i64 E2) [Upd.set (SS.o S2), Upd.keep,
  Upd.keep, Upd.keep] (Orc.t (Orc.t (Orc.t (Orc.t (Orc.t (Orc.t (Orc.t (Orc.cal [0] (AV.i .i64 E4) [Upd.set (SS.o S3)] (Orc.t (Orc.f (Orc.f Orc.z))))))))))))))))))))))) K = (True ∧
  True ∧ JS.dead j = false ∧ Con Tryd.prog 50 [AV.i .i64 60, AV.sv 1 n (recF m b)] [] (AV.tup [AV.i .i64 N1, AV.i .i64 E1]) [] ∧ (!decide (E1 = 0)) = false ∧ Con Tryd.prog 51 [AV.p
  1 0] [some (SS.o s), some (JS.o j)] (AV.tup [AV.i .i64 (Int.ofNat V), AV.i .i64 E3]) [Upd.keep, Upd.keep] ∧ (!decide (E3 = 0)) = false ∧ True ∧ ((-9223372036854775808 : Int) ≤ (1
  : Int) - Int.ofNat (JS.area j) ∧ 1 - Int.ofNat (JS.area j) ≤ 9223372036854775807) ∧ True ∧ ((-9223372036854775808) ≤ (1 - Int.ofNat (JS.area j)) * 60 ∧ (1 - Int.ofNat (JS.area j))
  * (60 : Int) ≤ (9223372036854775807 : Int)) ∧ ((-9223372036854775808 : Int) ≤ (2 : Int) + (1 - Int.ofNat (JS.area j)) * 60 ∧ 2 + (1 - Int.ofNat (JS.area j)) * (60 : Int) ≤
  (9223372036854775807 : Int)) ∧ Con Tryd.prog 53 [AV.p 0 0, AV.i .i64 (2 + (1 - Int.ofNat (JS.area j)) * 60), cutV] [some (SS.o s), some (cellsO 27 [AV.sv 1 n (recF m b)]), some
  (cellsO 3 [AV.i .i64 (Int.ofNat V)]), some (cellsO 3 [AV.i .i64 (Int.ofNat 0)])] (AV.i .i64 E2) [Upd.set (SS.o S2), Upd.keep, Upd.keep, Upd.keep] ∧ (!!decide (E2 = 0)) = true ∧
  (!!decide (E2 = 0)) = true ∧ (!!decide (E2 = 0)) = true ∧ True ∧ (!!decide (E2 = 0)) = true ∧ (!!decide (E2 = 0)) = true ∧ (!!decide (E2 = 0)) = true ∧ (!!decide (E2 = 0)) = true
  ∧ Con Tryd.prog 56 [AV.p 0 0, AV.i .i64 (Int.ofNat V), AV.i .i64 (1 - Int.ofNat (JS.area j))] [some (SS.o S2)] (AV.i .i64 E4) [Upd.set (SS.o S3)] ∧ (!!decide (E2 = 0)) = true ∧
  (!decide (E2 = 0)) = false ∧ (!decide (E4 = 0)) = false ∧ True ∧ True ∧ ((-9223372036854775808 : Int) ≤ (60 : Int) - N1 ∧ 60 - N1 ≤ 9223372036854775807) ∧ True ∧ True ∧ K (Res.rv
  (AV.i .i64 0) ⟨T.n (some (AObj.segs 77 33799 [{ st := 0, sz := 1, n := 1, f := oneF (CV.i .i64 (Int.ofNat (SS.n S3))) }, { st := 1, sz := 65, n := 512, f := durF (SS.dur S3) (SS.torn S3) },
  { st := 33281, sz := 1, n := 1, f := oneF (CV.opv (pB (SS.P S3)) 66 (pW (SS.P S3))) }, { st := 33282, sz := 1, n := 512, f := latF (lB (SS.P S3)) (lW (SS.P S3)) }, { st := 33794, sz := 5, n := 1, f := tailF (Int.ofNat (List.length (SS.P S3))) (Int.ofNat (SS.wr S3)) (SS.off S3) (SS.armed S3) (Int.ofNat (SS.left S3)) }]))
  (T.n (some (AObj.cells 86 6 [] (T.n (some (AV.p 0 0)) (T.n (some (AV.i .i64 (Int.ofNat V))) (T.n (some (AV.i .i64 (Int.ofNat n))) T.e T.e) (T.n (some (AV.b (JS.dead j))) T.e T.e))
  (T.n (some (AV.i .i64 (1 - Int.ofNat (JS.area j)))) (T.n (some (AV.i .i64 (60 - N1))) T.e T.e) T.e)))) (T.n (some (AObj.cells 3 1 [] (T.n (some (AV.i .i64 0)) T.e T.e))) T.e T.e)
  T.e) (T.n (some (AObj.cells 3 1 [] (T.n (some (AV.i .i64 (Int.ofNat V))) T.e T.e))) (T.n (some (AObj.cells 27 1 [] (T.n (some (AV.sv 1 n (recF m b))) T.e T.e))) T.e T.e) T.e), 5,
  [1, 1, 1, 1, 0, 0, 4, 3, 2]⟩) Orc.z) := by kernel_rfl
theorem rwB_vc (s : SS) (j : JS) (S2 : SS) (S3 : SS) (E1 : Int) (E2 : Int) (E3 : Int) (E4 : Int) (N1 : Int) (V : Nat) (n : Nat) (m : Nat → Nat) (b : Nat → Nat → Nat) (h0 : j.dead =
  false) (h1 : decide (E1 = 0) = true) (h3 : decide (E3 = 0) = true) (h2 : decide (E2 = 0) = true) (h4 : decide (E4 = 0) = false) (K : Res → Orc → Prop) : runK Tryd.prog 1000000
  (.call 14 [.p 1 0, .sv 1 n (recF m b)] (mkH [some s.o, some j.o])) (Orc.inl (Orc.c (Orc.f (Orc.c (Orc.cal [] (AV.tup [AV.i .i64 N1, AV.i .i64 E1]) [] (Orc.f (Orc.cal [0, 1]
  (AV.tup [AV.i .i64 (Int.ofNat V), AV.i .i64 E3]) [Upd.keep, Upd.keep] (Orc.f (Orc.inl (Orc.inl (Orc.inl (Orc.cal [0, 4, 2, 3] (AV.i .i64 E2) [Upd.set (SS.o S2), Upd.keep,
  Upd.keep, Upd.keep] (Orc.t (Orc.t (Orc.t (Orc.t (Orc.t (Orc.t (Orc.t (Orc.cal [0] (AV.i .i64 E4) [Upd.set (SS.o S3)] (Orc.t (Orc.f (Orc.t (Orc.inl Orc.z)))))))))))))))))))))))) K
  = (True ∧ True ∧ JS.dead j = false ∧ Con Tryd.prog 50 [AV.i .i64 60, AV.sv 1 n (recF m b)] [] (AV.tup [AV.i .i64 N1, AV.i .i64 E1]) [] ∧ (!decide (E1 = 0)) = false ∧ Con Tryd.prog
  51 [AV.p 1 0] [some (SS.o s), some (JS.o j)] (AV.tup [AV.i .i64 (Int.ofNat V), AV.i .i64 E3]) [Upd.keep, Upd.keep] ∧ (!decide (E3 = 0)) = false ∧ True ∧ ((-9223372036854775808 :
  Int) ≤ (1 : Int) - Int.ofNat (JS.area j) ∧ 1 - Int.ofNat (JS.area j) ≤ 9223372036854775807) ∧ True ∧ ((-9223372036854775808) ≤ (1 - Int.ofNat (JS.area j)) * 60 ∧ (1 - Int.ofNat
  (JS.area j)) * (60 : Int) ≤ (9223372036854775807 : Int)) ∧ ((-9223372036854775808 : Int) ≤ (2 : Int) + (1 - Int.ofNat (JS.area j)) * 60 ∧ 2 + (1 - Int.ofNat (JS.area j)) * (60 :
  Int) ≤ (9223372036854775807 : Int)) ∧ Con Tryd.prog 53 [AV.p 0 0, AV.i .i64 (2 + (1 - Int.ofNat (JS.area j)) * 60), cutV] [some (SS.o s), some (cellsO 27 [AV.sv 1 n (recF m b)]),
  some (cellsO 3 [AV.i .i64 (Int.ofNat V)]), some (cellsO 3 [AV.i .i64 (Int.ofNat 0)])] (AV.i .i64 E2) [Upd.set (SS.o S2), Upd.keep, Upd.keep, Upd.keep] ∧ (!!decide (E2 = 0)) = true
  ∧ (!!decide (E2 = 0)) = true ∧ (!!decide (E2 = 0)) = true ∧ True ∧ (!!decide (E2 = 0)) = true ∧ (!!decide (E2 = 0)) = true ∧ (!!decide (E2 = 0)) = true ∧ (!!decide (E2 = 0)) =
  true ∧ Con Tryd.prog 56 [AV.p 0 0, AV.i .i64 (Int.ofNat V), AV.i .i64 (1 - Int.ofNat (JS.area j))] [some (SS.o S2)] (AV.i .i64 E4) [Upd.set (SS.o S3)] ∧ (!!decide (E2 = 0)) = true
  ∧ (!decide (E2 = 0)) = false ∧ (!decide (E4 = 0)) = true ∧ True ∧ K (Res.rv (AV.i .i64 13) ⟨T.n (some (AObj.segs 77 33799 [{ st := 0, sz := 1, n := 1, f := oneF (CV.i .i64 (Int.ofNat (SS.n S3))) },
  { st := 1, sz := 65, n := 512, f := durF (SS.dur S3) (SS.torn S3) }, { st := 33281, sz := 1, n := 1, f := oneF (CV.opv (pB (SS.P S3)) 66 (pW (SS.P S3))) }, { st := 33282, sz := 1, n := 512, f := latF (lB (SS.P S3)) (lW (SS.P S3)) },
  { st := 33794, sz := 5, n := 1, f := tailF (Int.ofNat (List.length (SS.P S3))) (Int.ofNat (SS.wr S3)) (SS.off S3) (SS.armed S3) (Int.ofNat (SS.left S3)) }])) (T.n (some
  (AObj.cells 86 6 [] (T.n (some (AV.p 0 0)) (T.n (some (AV.i .i64 (Int.ofNat (JS.gen j)))) (T.n (some (AV.i .i64 (Int.ofNat (JS.recs j)))) T.e T.e) (T.n (some (AV.b true)) T.e
  T.e)) (T.n (some (AV.i .i64 (Int.ofNat (JS.area j)))) (T.n (some (AV.i .i64 (JS.room j))) T.e T.e) T.e)))) (T.n (some (AObj.cells 3 1 [] (T.n (some (AV.i .i64 0)) T.e T.e))) T.e
  T.e) T.e) (T.n (some (AObj.cells 3 1 [] (T.n (some (AV.i .i64 (Int.ofNat V))) T.e T.e))) (T.n (some (AObj.cells 27 1 [] (T.n (some (AV.sv 1 n (recF m b))) T.e T.e))) T.e T.e)
  T.e), 5, [1, 0, 0, 4, 3, 2]⟩) Orc.z) := by kernel_rfl
theorem rwC_vc (s : SS) (j : JS) (S2 : SS) (E1 : Int) (E2 : Int) (E3 : Int) (N1 : Int) (V : Nat) (n : Nat) (m : Nat → Nat) (b : Nat → Nat → Nat) (h0 : j.dead = false) (h1 : decide
  (E1 = 0) = true) (h3 : decide (E3 = 0) = true) (h2 : decide (E2 = 0) = false) (K : Res → Orc → Prop) : runK Tryd.prog 1000000 (.call 14 [.p 1 0, .sv 1 n (recF m b)] (mkH [some
  s.o, some j.o])) (Orc.inl (Orc.c (Orc.f (Orc.c (Orc.cal [] (AV.tup [AV.i .i64 N1, AV.i .i64 E1]) [] (Orc.f (Orc.cal [0, 1] (AV.tup [AV.i .i64 (Int.ofNat V), AV.i .i64 E3])
  [Upd.keep, Upd.keep] (Orc.f (Orc.inl (Orc.inl (Orc.inl (Orc.cal [0, 4, 2, 3] (AV.i .i64 E2) [Upd.set (SS.o S2), Upd.keep, Upd.keep, Upd.keep] (Orc.f (Orc.f (Orc.f (Orc.f (Orc.f
  (Orc.f (Orc.f (Orc.f (Orc.t (Orc.c (Orc.inl Orc.z))))))))))))))))))))))) K = (True ∧ True ∧ JS.dead j = false ∧ Con Tryd.prog 50 [AV.i .i64 60, AV.sv 1 n (recF m b)] [] (AV.tup
  [AV.i .i64 N1, AV.i .i64 E1]) [] ∧ (!decide (E1 = 0)) = false ∧ Con Tryd.prog 51 [AV.p 1 0] [some (SS.o s), some (JS.o j)] (AV.tup [AV.i .i64 (Int.ofNat V), AV.i .i64 E3])
  [Upd.keep, Upd.keep] ∧ (!decide (E3 = 0)) = false ∧ True ∧ ((-9223372036854775808 : Int) ≤ (1 : Int) - Int.ofNat (JS.area j) ∧ 1 - Int.ofNat (JS.area j) ≤ 9223372036854775807) ∧
  True ∧ ((-9223372036854775808) ≤ (1 - Int.ofNat (JS.area j)) * 60 ∧ (1 - Int.ofNat (JS.area j)) * (60 : Int) ≤ (9223372036854775807 : Int)) ∧ ((-9223372036854775808 : Int) ≤ (2 :
  Int) + (1 - Int.ofNat (JS.area j)) * 60 ∧ 2 + (1 - Int.ofNat (JS.area j)) * (60 : Int) ≤ (9223372036854775807 : Int)) ∧ Con Tryd.prog 53 [AV.p 0 0, AV.i .i64 (2 + (1 - Int.ofNat
  (JS.area j)) * 60), cutV] [some (SS.o s), some (cellsO 27 [AV.sv 1 n (recF m b)]), some (cellsO 3 [AV.i .i64 (Int.ofNat V)]), some (cellsO 3 [AV.i .i64 (Int.ofNat 0)])] (AV.i .i64
  E2) [Upd.set (SS.o S2), Upd.keep, Upd.keep, Upd.keep] ∧ (!!decide (E2 = 0)) = false ∧ (!!decide (E2 = 0)) = false ∧ (!!decide (E2 = 0)) = false ∧ (!!decide (E2 = 0)) = false ∧
  (!!decide (E2 = 0)) = false ∧ (!!decide (E2 = 0)) = false ∧ (!!decide (E2 = 0)) = false ∧ (!!decide (E2 = 0)) = false ∧ (!decide (E2 = 0)) = true ∧ True ∧ K (Res.rv (AV.i .i64 13)
  ⟨T.n (some (AObj.segs 77 33799 [{ st := 0, sz := 1, n := 1, f := oneF (CV.i .i64 (Int.ofNat (SS.n S2))) }, { st := 1, sz := 65, n := 512, f := durF (SS.dur S2) (SS.torn S2) }, { st := 33281, sz := 1, n := 1, f := oneF (CV.opv (pB (SS.P S2)) 66 (pW (SS.P S2))) },
  { st := 33282, sz := 1, n := 512, f := latF (lB (SS.P S2)) (lW (SS.P S2)) }, { st := 33794, sz := 5, n := 1, f := tailF (Int.ofNat (List.length (SS.P S2))) (Int.ofNat (SS.wr S2)) (SS.off S2) (SS.armed S2) (Int.ofNat (SS.left S2)) }]))
  (T.n (some (AObj.cells 86 6 [] (T.n (some (AV.p 0 0)) (T.n (some (AV.i .i64 (Int.ofNat (JS.gen j)))) (T.n (some (AV.i .i64 (Int.ofNat (JS.recs j)))) T.e T.e) (T.n (some (AV.b
  true)) T.e T.e)) (T.n (some (AV.i .i64 (Int.ofNat (JS.area j)))) (T.n (some (AV.i .i64 (JS.room j))) T.e T.e) T.e)))) (T.n (some (AObj.cells 3 1 [] (T.n (some (AV.i .i64 0)) T.e
  T.e))) T.e T.e) T.e) (T.n (some (AObj.cells 3 1 [] (T.n (some (AV.i .i64 (Int.ofNat V))) T.e T.e))) (T.n (some (AObj.cells 27 1 [] (T.n (some (AV.sv 1 n (recF m b))) T.e T.e)))
  T.e T.e) T.e), 5, [1, 0, 4, 3, 2]⟩) Orc.z) := by kernel_rfl
theorem rwD_vc (s : SS) (j : JS) (E1 : Int) (E3 : Int) (N1 : Int) (V : Nat) (n : Nat) (m : Nat → Nat) (b : Nat → Nat → Nat) (h0 : j.dead = false) (h1 : decide (E1 = 0) = true) (h3
  : decide (E3 = 0) = false) (K : Res → Orc → Prop) : runK Tryd.prog 1000000 (.call 14 [.p 1 0, .sv 1 n (recF m b)] (mkH [some s.o, some j.o])) (Orc.inl (Orc.c (Orc.f (Orc.c
  (Orc.cal [] (AV.tup [AV.i .i64 N1, AV.i .i64 E1]) [] (Orc.f (Orc.cal [0, 1] (AV.tup [AV.i .i64 (Int.ofNat V), AV.i .i64 E3]) [Upd.keep, Upd.keep] (Orc.t Orc.z)))))))) K = (True ∧
  True ∧ JS.dead j = false ∧ Con Tryd.prog 50 [AV.i .i64 60, AV.sv 1 n (recF m b)] [] (AV.tup [AV.i .i64 N1, AV.i .i64 E1]) [] ∧ (!decide (E1 = 0)) = false ∧ Con Tryd.prog 51 [AV.p
  1 0] [some (SS.o s), some (JS.o j)] (AV.tup [AV.i .i64 (Int.ofNat V), AV.i .i64 E3]) [Upd.keep, Upd.keep] ∧ (!decide (E3 = 0)) = true ∧ K (Res.rv (AV.i .i64 E3) ⟨T.n (some
  (AObj.segs 77 33799 [{ st := 0, sz := 1, n := 1, f := oneF (CV.i .i64 (Int.ofNat (SS.n s))) }, { st := 1, sz := 65, n := 512, f := durF (SS.dur s) (SS.torn s) }, { st := 33281, sz := 1, n := 1, f := oneF (CV.opv (pB (SS.P s)) 66 (pW (SS.P s))) },
  { st := 33282, sz := 1, n := 512, f := latF (lB (SS.P s)) (lW (SS.P s)) }, { st := 33794, sz := 5, n := 1, f := tailF (Int.ofNat (List.length (SS.P s))) (Int.ofNat (SS.wr s)) (SS.off s) (SS.armed s) (Int.ofNat (SS.left s)) }]))
  (T.n (some (AObj.cells 86 6 [] (T.n (some (AV.p 0 0)) (T.n (some (AV.i .i64 (Int.ofNat (JS.gen j)))) (T.n (some (AV.i .i64 (Int.ofNat (JS.recs j)))) T.e T.e) (T.n (some (AV.b
  (JS.dead j))) T.e T.e)) (T.n (some (AV.i .i64 (Int.ofNat (JS.area j)))) (T.n (some (AV.i .i64 (JS.room j))) T.e T.e) T.e)))) T.e T.e) T.e, 2, []⟩) Orc.z) := by kernel_rfl
theorem rwE_vc (s : SS) (j : JS) (E1 : Int) (N1 : Int) (n : Nat) (m : Nat → Nat) (b : Nat → Nat → Nat) (h0 : j.dead = false) (h1 : decide (E1 = 0) = false) (K : Res → Orc → Prop) :
  runK Tryd.prog 1000000 (.call 14 [.p 1 0, .sv 1 n (recF m b)] (mkH [some s.o, some j.o])) (Orc.inl (Orc.c (Orc.f (Orc.c (Orc.cal [] (AV.tup [AV.i .i64 N1, AV.i .i64 E1]) [] (Orc.t
  Orc.z)))))) K = (True ∧ True ∧ JS.dead j = false ∧ Con Tryd.prog 50 [AV.i .i64 60, AV.sv 1 n (recF m b)] [] (AV.tup [AV.i .i64 N1, AV.i .i64 E1]) [] ∧ (!decide (E1 = 0)) = true ∧
  K (Res.rv (AV.i .i64 E1) ⟨T.n (some (AObj.segs 77 33799 [{ st := 0, sz := 1, n := 1, f := oneF (CV.i .i64 (Int.ofNat (SS.n s))) }, { st := 1, sz := 65, n := 512, f := durF (SS.dur s) (SS.torn s) },
  { st := 33281, sz := 1, n := 1, f := oneF (CV.opv (pB (SS.P s)) 66 (pW (SS.P s))) }, { st := 33282, sz := 1, n := 512, f := latF (lB (SS.P s)) (lW (SS.P s)) }, { st := 33794, sz := 5, n := 1, f := tailF (Int.ofNat (List.length (SS.P s))) (Int.ofNat (SS.wr s)) (SS.off s) (SS.armed s) (Int.ofNat (SS.left s)) }]))
  (T.n (some (AObj.cells 86 6 [] (T.n (some (AV.p 0 0)) (T.n (some (AV.i .i64 (Int.ofNat (JS.gen j)))) (T.n (some (AV.i .i64 (Int.ofNat (JS.recs j)))) T.e T.e) (T.n (some (AV.b
  (JS.dead j))) T.e T.e)) (T.n (some (AV.i .i64 (Int.ofNat (JS.area j)))) (T.n (some (AV.i .i64 (JS.room j))) T.e T.e) T.e)))) T.e T.e) T.e, 2, []⟩) Orc.z) := by kernel_rfl
theorem bar_n (s : SS) : s.bar.n = s.n := by
  unfold SS.bar
  split <;> rfl
theorem cmtS_ok (gen first n mm : Nat) (m : Nat → Nat) (b : Nat → Nat → Nat) (s : SS) (a : Nat) (ok : OkM s mm) (ha : a + sumP m n 0 ≤ s.n) : OkM (cmtS gen first n m b s a) (mm + sumP m n 0) ∧ (cmtS gen first n m b s a).n = s.n := by
  have h := runR_ok gen first m b n s a 0 mm ok ha
  unfold cmtS
  cases decide ((runR gen first m b n s a 0).1 = 0) with
  | true => exact ⟨h.1.bar, (bar_n _).trans h.2⟩
  | false => exact h
noncomputable def rwS (s : SS) (j : JS) (n : Nat) (m : Nat → Nat) (b : Nat → Nat → Nat) : SS := cmtS (nxV s j) 0 n m b s (2 + (1 - j.area) * 60)
noncomputable def rwE (s : SS) (j : JS) (n : Nat) (m : Nat → Nat) (b : Nat → Nat → Nat) : Int := cmtE (nxV s j) 0 n m b s (2 + (1 - j.area) * 60)
noncomputable def rwJ (s : SS) (j : JS) (n : Nat) (m : Nat → Nat) : JS := { gen := nxV s j, area := 1 - j.area, recs := n, room := 60 - Int.ofNat (sumP m n 0), dead := j.dead }
theorem rewrite_con (s : SS) (j : JS) (n mm : Nat) (m : Nat → Nat) (b : Nat → Nat → Nat) (hd : j.dead = false) (hl : ∀ i, i < n → m i ≤ 1128) (hs : sumP m n 0 ≤ 60) (hg : j.gen < 1073741824) (hv : nxV s j ≤ 1073741824) (ha : j.area ≤ 1) (on : s.off = false) (hn : 122 ≤ s.n) (hB : Byt s) (ok : OkM s mm) (hm : mm + 61 < 1073741823) (hb : ∀ i t, b i t < 256) :
    Con Tryd.prog 14 [.p 1 0, .sv 1 n (recF m b)] [some s.o, some j.o]
      (.i .i64 (bif decide (rwE s j n m b = 0) then (bif decide (nmE (rwS s j n m b) (nxV s j) (1 - j.area) = 0) then 0 else 13) else 13))
      [.set (bif decide (rwE s j n m b = 0) then nmS (rwS s j n m b) (nxV s j) (1 - j.area) else rwS s j n m b).o,
       .set (bif decide (rwE s j n m b = 0) then (bif decide (nmE (rwS s j n m b) (nxV s j) (1 - j.area) = 0) then rwJ s j n m else { j with dead := true }) else { j with dead := true }).o] := by
  have hnn := sumP_ge m n 0
  have w1 := fitOk_con 60 n m b (by omega) hl (by simp; omega)
  have w2 := next_con s j hg ha on hn ok.n hB
  rw [show Nat.ble (nxV s j) 1073741824 = true from Nat.ble_eq_true_of_le hv, cond_true] at w2
  have w3 := commit_con (nxV s j) 0 n mm m b s (2 + (1 - j.area) * 60) ok hb (by omega) (by omega) (by omega)
  have h2 := cmtS_ok (nxV s j) 0 n mm m b s (2 + (1 - j.area) * 60) ok (by omega)
  have w4 := name_con (rwS s j n m b) (nxV s j) (1 - j.area) (mm + sumP m n 0) h2.1 (by omega) (by have := h2.2; show 2 ≤ (cmtS _ _ _ _ _ _ _).n; omega)
  have eA : (1 : Int) - Int.ofNat j.area = Int.ofNat (1 - j.area) := by simp; omega
  have eJ : (rwJ s j n m).o = cellsO 86 [.p 0 0, .i .i64 (Int.ofNat (nxV s j)), .i .i64 (Int.ofNat (1 - j.area)), .i .i64 (Int.ofNat n), .i .i64 (60 - Int.ofNat (sumP m n 0)), .b j.dead] := rfl
  generalize rwJ s j n m = J at eJ ⊢
  have w3' : Con Tryd.prog 53 [.p 0 0, .i .i64 (2 + Int.ofNat (1 - j.area) * 60), cutV] [some s.o, some (cellsO 27 [.sv 1 n (recF m b)]), some (cellsO 3 [.i .i64 (Int.ofNat (nxV s j))]), some (cellsO 3 [.i .i64 (Int.ofNat 0)])] (.i .i64 (rwE s j n m b)) [.set (rwS s j n m b).o, .keep, .keep, .keep] := w3
  generalize nmE (rwS s j n m b) (nxV s j) (1 - j.area) = E4 at w4 ⊢
  generalize nmS (rwS s j n m b) (nxV s j) (1 - j.area) = S3 at w4 ⊢
  generalize rwE s j n m b = E2 at w3' ⊢
  generalize rwS s j n m b = S2 at w3' w4 ⊢
  clear w3 h2
  generalize nxV s j = V at *
  generalize sumP m n 0 = N1 at *
  have hA : 1 - j.area ≤ 1 := by omega
  generalize 1 - j.area = A at *
  have r1 : (-9223372036854775808 : Int) ≤ Int.ofNat A ∧ Int.ofNat A ≤ 9223372036854775807 := rng _ (by omega)
  have r2 : (-9223372036854775808 : Int) ≤ Int.ofNat A * 60 ∧ Int.ofNat A * (60 : Int) ≤ (9223372036854775807 : Int) := ⟨by simp <;> omega, by simp <;> omega⟩
  have r3 : (-9223372036854775808 : Int) ≤ (2 : Int) + Int.ofNat A * 60 ∧ 2 + Int.ofNat A * (60 : Int) ≤ (9223372036854775807 : Int) := ⟨by simp <;> omega, by simp <;> omega⟩
  have r4 : (-9223372036854775808 : Int) ≤ (60 : Int) - Int.ofNat N1 ∧ 60 - Int.ofNat N1 ≤ 9223372036854775807 := ⟨by simp <;> omega, by simp <;> omega⟩
  have t0 : (!decide ((0 : Int) = 0)) = false := by decide
  cases d2 : decide (E2 = 0) with
  | false =>
    rw [cond_false, cond_false, cond_false]
    refine con_of_run [] [] ((rwC_vc s j S2 0 E2 0 (Int.ofNat N1) V n m b hd (by decide) (by decide) d2 _).mpr ?_)
    rw [eA]
    exact ⟨trivial, trivial, hd, w1, t0, w2, t0, trivial, r1, trivial, r2, r3, w3', nnf d2, nnf d2, nnf d2, nnf d2, nnf d2, nnf d2, nnf d2, nnf d2, nt d2, trivial, _, _, rfl, ret_k (by kernel_rfl)⟩
  | true =>
    rw [cond_true, cond_true, cond_true]
    cases d4 : decide (E4 = 0) with
    | false =>
      rw [cond_false, cond_false]
      refine con_of_run [] [] ((rwB_vc s j S2 S3 0 E2 0 E4 (Int.ofNat N1) V n m b hd (by decide) (by decide) d2 d4 _).mpr ?_)
      rw [eA]
      clear eJ
      repeat' first | exact trivial | assumption | exact t0 | exact nt (by assumption) | exact nf (by assumption) | exact nnt (by assumption) | exact nnf (by assumption) | refine And.intro ?_ ?_ | exact ⟨_, _, rfl, ret_k (by kernel_rfl)⟩
    | true =>
      rw [cond_true, cond_true, eJ]
      refine con_of_run [] [] ((rwA_vc s j S2 S3 0 E2 0 E4 (Int.ofNat N1) V n m b hd (by decide) (by decide) d2 d4 _).mpr ?_)
      rw [eA]
      clear eJ
      repeat' first | exact trivial | assumption | exact t0 | exact nt (by assumption) | exact nf (by assumption) | exact nnt (by assumption) | exact nnf (by assumption) | refine And.intro ?_ ?_ | exact ⟨_, _, rfl, ret_k (by kernel_rfl)⟩
theorem rewriteX_con (s : SS) (j : JS) (n : Nat) (m : Nat → Nat) (b : Nat → Nat → Nat) (e : Int) (he : e ≠ 0) (hd : j.dead = false) (h : Con Tryd.prog 50 [.i .i64 60, .sv 1 n (recF m b)] [] (.tup [.i .i64 0, .i .i64 e]) []) :
    Con Tryd.prog 14 [.p 1 0, .sv 1 n (recF m b)] [some s.o, some j.o] (.i .i64 e) [.keep, .keep] := by
  have d : decide (e = 0) = false := decide_eq_false he
  exact con_of_run [] [] ((rwE_vc s j e 0 n m b hd d _).mpr (by repeat' first | exact trivial | refine And.intro ?_ ?_ | assumption | exact nt (by assumption) | exact nf (by assumption) | exact nnt (by assumption) | exact nnf (by assumption) | (decide; done) | exact ⟨_, _, rfl, ret_k (by kernel_rfl)⟩))
theorem rewriteRange_con (s : SS) (j : JS) (n k : Nat) (m : Nat → Nat) (b : Nat → Nat → Nat) (hd : j.dead = false) (hn : n ≤ 17592186044416) (hk : k < n) (bad : 1128 < m k) (ok : ∀ i, i < k → m i ≤ 1128) : Con Tryd.prog 14 [.p 1 0, .sv 1 n (recF m b)] [some s.o, some j.o] (.i .i64 2) [.keep, .keep] :=
  rewriteX_con s j n m b 2 (by decide) hd (fitRange_con 60 n k m b hn hk bad ok)
theorem rewriteSpace_con (s : SS) (j : JS) (n : Nat) (m : Nat → Nat) (b : Nat → Nat → Nat) (hd : j.dead = false) (hn : n ≤ 17592186044416) (ok : ∀ i, i < n → m i ≤ 1128) (hs : 60 < sumP m n 0) : Con Tryd.prog 14 [.p 1 0, .sv 1 n (recF m b)] [some s.o, some j.o] (.i .i64 12) [.keep, .keep] :=
  rewriteX_con s j n m b 12 (by decide) hd (fitSpace_con 60 n m b hn ok (by simp; omega))
theorem bf {n m : Nat} (h : ¬ n ≤ m) : Nat.ble n m = false := by rw [Bool.eq_false_iff, ne_eq, Nat.ble_eq]; exact h
theorem bt {n m : Nat} (h : n ≤ m) : Nat.ble n m = true := Nat.ble_eq_true_of_le h
theorem lf {n m : Nat} (h : ¬ n < m) : Nat.blt n m = false := by rw [Bool.eq_false_iff, ne_eq, Nat.blt_eq]; exact h
theorem lt_ {n m : Nat} (h : n < m) : Nat.blt n m = true := by rw [Nat.blt_eq]; exact h
theorem ef {n m : Nat} (h : n ≠ m) : Nat.beq n m = false := by rw [Bool.eq_false_iff, ne_eq, Nat.beq_eq]; exact h
section
variable (gen num idx np m : Nat) (b : Nat → Nat)
theorem pb_gen {k : Nat} (h : k < 4) : pbodyB gen num idx np m b k = fourB (gen % 4294967296) k := by
  unfold pbodyB
  rw [bf (by omega : ¬ 11 ≤ k), ef (by omega : k ≠ 10), ef (by omega : k ≠ 9), ef (by omega : k ≠ 8), bf (by omega : ¬ 4 ≤ k), bt (Nat.zero_le k), lt_ h]
  simp only [Bool.false_and, Bool.and_self, cond_false, cond_true]
theorem pb_num {k : Nat} (h1 : 4 ≤ k) (h : k < 8) : pbodyB gen num idx np m b k = fourB (num % 4294967296) (k - 4) := by
  unfold pbodyB
  rw [bf (by omega : ¬ 11 ≤ k), ef (by omega : k ≠ 10), ef (by omega : k ≠ 9), ef (by omega : k ≠ 8), bt h1, lt_ h]
  simp only [Bool.false_and, Bool.and_self, cond_false, cond_true]
theorem pb_8 : pbodyB gen num idx np m b 8 = idx % 256 := by
  unfold pbodyB
  rw [bf (by omega : ¬ 11 ≤ 8), ef (by omega : 8 ≠ 10), ef (by omega : 8 ≠ 9), Nat.beq_refl]
  simp only [Bool.false_and, cond_false, cond_true]
theorem pb_9 : pbodyB gen num idx np m b 9 = np % 256 := by
  unfold pbodyB
  rw [bf (by omega : ¬ 11 ≤ 9), ef (by omega : 9 ≠ 10), Nat.beq_refl]
  simp only [Bool.false_and, cond_false, cond_true]
theorem pb_10 : pbodyB gen num idx np m b 10 = m % 256 := by
  unfold pbodyB
  rw [bf (by omega : ¬ 11 ≤ 10), Nat.beq_refl]
  simp only [Bool.false_and, cond_false, cond_true]
theorem pb_txt {i : Nat} (h : i < m) : pbodyB gen num idx np m b (11 + i) = b i := by
  unfold pbodyB
  rw [bt (by omega : 11 ≤ 11 + i), lt_ (by omega : 11 + i < 11 + m)]
  simp only [Bool.and_self, cond_true]
  rw [Nat.add_sub_cancel_left]
theorem pb_rest {k : Nat} (h : 11 + m ≤ k) : pbodyB gen num idx np m b k = 0 := by
  unfold pbodyB
  rw [bt (by omega : 11 ≤ k), lf (by omega : ¬ k < 11 + m), ef (by omega : k ≠ 10), ef (by omega : k ≠ 9), ef (by omega : k ≠ 8), lf (by omega : ¬ k < 8), lf (by omega : ¬ k < 4)]
  simp only [Bool.and_false, cond_false]
theorem ps_body {k : Nat} (h : k < 60) : psecB gen num idx np m b k = pbodyB gen num idx np m b k := by
  unfold psecB; rw [lt_ h, cond_true]
theorem ps_sum (k : Nat) : psecB gen num idx np m b (60 + k) = fourB (sumN (pbodyB gen num idx np m b) 60) k := by
  unfold psecB; rw [lf (by omega : ¬ 60 + k < 60), cond_false, Nat.add_sub_cancel_left]
theorem bOf_by (b : Nat → Nat) (k : Nat) : bOf (byF b) k = b k := Eq.refl _
theorem bOf_sh (b : Nat → Nat) (l k : Nat) : bOf (shiftF l (byF b)) k = b (l + k) := by
  show cvN (shiftF l (byF b) k 0) = _
  rw [shiftF_eq]; exact Eq.refl _
theorem ps_open : openB (byF (psecB gen num idx np m b)) = true := by
  unfold openB
  refine decide_eq_true ?_
  have e1 : sumN (bOf (byF (psecB gen num idx np m b))) 60 = sumN (pbodyB gen num idx np m b) 60 := sumN_congr fun k hk => by rw [bOf_by, ps_body _ _ _ _ _ _ hk]
  have e2 : four1 (bOf (shiftF 60 (byF (psecB gen num idx np m b)))) = four1 (fourB (sumN (pbodyB gen num idx np m b) 60)) := four1_congr fun k hk => by rw [bOf_sh, ps_sum]
  rw [e1, e2, four1_four (sumN_lt _ _)]
theorem ps_g1 (h : gen ≤ 1073741824) : g1 (psecB gen num idx np m b) = gen := by
  unfold g1
  rw [four1_congr (b' := fourB (gen % 4294967296)) fun k hk => by rw [bOf_by, ps_body _ _ _ _ _ _ (by omega), pb_gen _ _ _ _ _ _ hk]]
  rw [four1_four (Nat.mod_lt _ (by decide)), Nat.mod_eq_of_lt (by omega)]
theorem ps_g2 (h : num ≤ 1073741824) : g2 (psecB gen num idx np m b) = num := by
  unfold g2
  rw [four1_congr (b' := fourB (num % 4294967296)) fun k hk => by rw [bOf_sh, ps_body _ _ _ _ _ _ (by omega), pb_num _ _ _ _ _ _ (by omega) (by omega), Nat.add_sub_cancel_left]]
  rw [four1_four (Nat.mod_lt _ (by decide)), Nat.mod_eq_of_lt (by omega)]
theorem ps_8 (h : idx < 256) : psecB gen num idx np m b 8 = idx := by rw [ps_body _ _ _ _ _ _ (by omega), pb_8, Nat.mod_eq_of_lt h]
theorem ps_9 (h : np < 256) : psecB gen num idx np m b 9 = np := by rw [ps_body _ _ _ _ _ _ (by omega), pb_9, Nat.mod_eq_of_lt h]
theorem ps_10 (h : m < 256) : psecB gen num idx np m b 10 = m := by rw [ps_body _ _ _ _ _ _ (by omega), pb_10, Nat.mod_eq_of_lt h]
theorem ps_rest (h : m ≤ 47) : restP (psecB gen num idx np m b) = 0 := by
  unfold restP
  rw [ps_10 _ _ _ _ _ _ (by omega), trN_zero]
  intro k hk
  rw [bOf_sh, ps_body _ _ _ _ _ _ (by omega), pb_rest _ _ _ _ _ _ (by omega)]
theorem ps_ok (h1 : 1 ≤ gen) (h2 : gen ≤ 1073741824) (h3 : num ≤ 1073741824) (h4 : np ≤ 24) (h5 : idx < np) (h6 : m ≤ 47) (h7 : idx + 1 < np → m = 47) (h8 : np ≤ idx + 1 → 0 < m ∨ np = 1) : PtOk (psecB gen num idx np m b) := by
  have e8 := ps_8 gen num idx np m b (by omega)
  have e9 := ps_9 gen num idx np m b (by omega)
  have e10 := ps_10 gen num idx np m b (by omega)
  refine ⟨ps_open _ _ _ _ _ _, by rw [e10]; exact h6, by rw [ps_g1 _ _ _ _ _ _ h2]; exact h1, by rw [ps_g1 _ _ _ _ _ _ h2]; exact h2, by rw [ps_g2 _ _ _ _ _ _ h3]; exact h3, by rw [e9]; exact h4, by rw [e8, e9]; exact h5, ?_, ?_, ps_rest _ _ _ _ _ _ h6⟩
  · rw [e8, e9, e10]; exact h7
  · rw [e8, e9, e10]; exact h8
theorem ps_txt {i : Nat} (hm : m ≤ 47) (h : i < m) : psecB gen num idx np m b (11 + i) = b i := by
  rw [ps_body _ _ _ _ _ _ (by omega), pb_txt _ _ _ _ _ _ h]
end
theorem runW_byt (c : Nat → Nat → Nat) (hc : ∀ k t, c k t < 256) : ∀ (j : Nat) (s : SS) (a k : Nat), Byt s → a + j ≤ s.n → Byt (runW c j s a k).2.1
  | 0, s, a, k, hb, ha => hb
  | j + 1, s, a, k, hb, ha => by
    have h1 := hb.wrS (q := a) (bs := fun t => Int.ofNat (c k t)) (by omega) fun t => ⟨c k t, hc k t, rfl⟩
    show Byt (match decide (s.wrE (Int.ofNat a) 64 = 0) with | true => _ | false => _ : Int × SS × Nat).2.1
    cases decide (s.wrE (Int.ofNat a) 64 = 0) with
    | true => exact runW_byt c hc j _ (a + 1) (k + 1) h1 (by rw [wrS_n]; omega)
    | false => exact h1
theorem pcB_lt (gen num np mi : Nat) (bi : Nat → Nat) (hb : ∀ t, bi t < 256) (k t : Nat) : pcB gen num np mi bi k t < 256 := psecB_lt (fun _ _ => hb _) t
theorem recW_at (gen first : Nat) (m : Nat → Nat) (b : Nat → Nat → Nat) (s : SS) (a i mm : Nat) (ok : OkM s mm) (ha : a + npF (m i) ≤ s.n) : (recW gen first m b s a i).2.1.n = s.n ∧ (recW gen first m b s a i).2.2 ≤ a + npF (m i) ∧ OkM (recW gen first m b s a i).2.1 (mm + npF (m i)) :=
  have h := runW_ok (pcB gen (first + i) (npF (m i)) (m i) (b i)) (npF (m i)) s a 0 mm ok ha
  ⟨h.2.1, h.2.2, h.1⟩
theorem runR_byt (gen first : Nat) (m : Nat → Nat) (b : Nat → Nat → Nat) (hb : ∀ i t, b i t < 256) : ∀ (j : Nat) (s : SS) (a i mm : Nat), OkM s mm → Byt s → a + sumP m j i ≤ s.n → Byt (runR gen first m b j s a i).2.1
  | 0, s, a, i, mm, ok, h, ha => h
  | j + 1, s, a, i, mm, ok, h, ha => by
    have ha' : a + (npF (m i) + sumP m j (i + 1)) ≤ s.n := ha
    have h1 : Byt (recW gen first m b s a i).2.1 := runW_byt _ (pcB_lt _ _ _ _ _ (hb i)) _ s a 0 h (by omega)
    have h2 := recW_at gen first m b s a i mm ok (by omega)
    show Byt (match decide ((recW gen first m b s a i).1 = 0) with | true => _ | false => _ : Int × SS × Nat).2.1
    cases decide ((recW gen first m b s a i).1 = 0) with
    | true => exact runR_byt gen first m b hb j _ _ (i + 1) _ h2.2.2 h1 (by rw [h2.1]; have := h2.2.1; omega)
    | false => exact h1
theorem cmtS_byt (gen first n mm : Nat) (m : Nat → Nat) (b : Nat → Nat → Nat) (hb : ∀ i t, b i t < 256) (s : SS) (a : Nat) (ok : OkM s mm) (h : Byt s) (ha : a + sumP m n 0 ≤ s.n) : Byt (cmtS gen first n m b s a) := by
  have h1 := runR_byt gen first m b hb n s a 0 mm ok h ha
  unfold cmtS
  cases decide ((runR gen first m b n s a 0).1 = 0) with
  | true => exact h1.bar
  | false => exact h1
theorem cmt_on (gen first n : Nat) (m : Nat → Nat) (b : Nat → Nat → Nat) (s : SS) (a : Nat) (h : cmtE gen first n m b s a = 0) : (cmtS gen first n m b s a).off = false ∧ (cmtS gen first n m b s a).P = [] ∧ (runR gen first m b n s a 0).1 = 0 := by
  unfold cmtE at h
  unfold cmtS
  cases d : decide ((runR gen first m b n s a 0).1 = 0) with
  | false => rw [d] at h; exact absurd h (of_decide_eq_false d)
  | true =>
    rw [d] at h
    have h0 : (runR gen first m b n s a 0).1 = 0 := of_decide_eq_true d
    simp only
    generalize (runR gen first m b n s a 0).2.1 = S at h
    have ho : S.off = false := by
      cases e : S.off with
      | false => rfl
      | true =>
        have hf : S.faultE = 13 := by unfold SS.faultE; rw [e, cond_true]
        have h' : S.faultE = 0 := h
        rw [hf] at h'
        exact absurd h' (by decide)
    refine ⟨?_, ?_, h0⟩
    · unfold SS.bar; rw [ho]; exact ho
    · unfold SS.bar; rw [ho]; rfl
noncomputable def vwB (s : SS) (q : Nat) : Nat → Int := bif lB s.P q then lbs s.P q else s.dur q
noncomputable def vwT (s : SS) (q : Nat) : Bool := bif lB s.P q then false else s.torn q
theorem durL_v (dur : Nat → Nat → Int) : ∀ (P : PW) (q : Nat), durL dur P q = bif lB P q then lbs P q else dur q
  | [], q => by show dur q = bif false then _ else dur q; rw [cond_false]
  | w :: P, q => by
    have ih := durL_v dur P q
    show setD (durL dur P) w.1 w.2 q = bif (bif Nat.beq q w.1 then true else lB P q) then (bif Nat.beq q w.1 then w.2 else lbs P q) else dur q
    have e : setD (durL dur P) w.1 w.2 q = bif Nat.beq q w.1 then w.2 else durL dur P q := by
      first
      | rfl
      | (funext j; unfold setD; cases Nat.beq q w.1 <;> rfl)
    rw [e]
    cases Nat.beq q w.1 with
    | true => rw [cond_true, cond_true, cond_true, cond_true]
    | false => rw [cond_false, cond_false, cond_false]; exact ih
theorem tornL_v (torn : Nat → Bool) : ∀ (P : PW) (q : Nat), tornL torn P q = bif lB P q then false else torn q
  | [], q => by show torn q = bif false then _ else torn q; rw [cond_false]
  | w :: P, q => by
    have ih := tornL_v torn P q
    show setT (tornL torn P) w.1 false q = bif (bif Nat.beq q w.1 then true else lB P q) then false else torn q
    have e : setT (tornL torn P) w.1 false q = bif Nat.beq q w.1 then false else tornL torn P q := by
      first
      | rfl
      | (unfold setT; cases Nat.beq q w.1 <;> rfl)
    rw [e]
    cases Nat.beq q w.1 with
    | true => rw [cond_true, cond_true, cond_true]
    | false => rw [cond_false, cond_false]; exact ih
theorem vw_bar (s : SS) (q : Nat) : vwB s.bar q = vwB s q ∧ vwT s.bar q = vwT s q := by
  unfold SS.bar
  cases s.off with
  | true => exact ⟨rfl, rfl⟩
  | false =>
    have eP : s.P.drop (s.P.length - s.P.length) = s.P := by rw [Nat.sub_self]; rfl
    refine ⟨?_, ?_⟩
    · show (bif false then _ else durL s.dur (s.P.drop (s.P.length - s.P.length)) q) = vwB s q
      rw [cond_false, eP, durL_v]; rfl
    · show (bif false then _ else tornL s.torn (s.P.drop (s.P.length - s.P.length)) q) = vwT s q
      rw [cond_false, eP, tornL_v]; rfl
theorem vw_wrS {s : SS} {q0 : Nat} {bs : Nat → Int} (ho : s.off = false) (h0 : q0 < s.n) (q : Nat) : vwB (s.wrS (Int.ofNat q0) 64 bs) q = (bif Nat.beq q q0 then bs else vwB s q) ∧ vwT (s.wrS (Int.ofNat q0) 64 bs) q = (bif Nat.beq q q0 then false else vwT s q) := by
  rw [wrS_on ho h0]
  have key : ∀ t : SS, t.P = (q0, bs) :: s.P → t.dur = s.dur → t.torn = s.torn → vwB t q = (bif Nat.beq q q0 then bs else vwB s q) ∧ vwT t q = (bif Nat.beq q q0 then false else vwT s q) := by
    intro t e1 e2 e3
    unfold vwB vwT
    rw [e1, e2, e3]
    show (bif (bif Nat.beq q q0 then true else lB s.P q) then (bif Nat.beq q q0 then bs else lbs s.P q) else s.dur q) = _ ∧ (bif (bif Nat.beq q q0 then true else lB s.P q) then false else s.torn q) = _
    cases Nat.beq q q0 with
    | true => simp only [cond_true]; exact ⟨trivial, trivial⟩
    | false => simp only [cond_false]; exact ⟨trivial, trivial⟩
  rcases pay_or (s.wrote q0 bs) with e | e | e <;> rw [e] <;> exact key _ rfl rfl rfl
theorem wrE_on {s : SS} {i : Int} (h : s.wrE i 64 = 0) : s.off = false := by
  cases e : s.off with
  | false => rfl
  | true =>
    have h13 : s.wrE i 64 = 13 := by unfold SS.wrE; rw [e]
    rw [h13] at h
    exact absurd h (by decide)
theorem runW_vw (c : Nat → Nat → Nat) : ∀ (j : Nat) (s : SS) (a k mm : Nat), OkM s mm → a + j ≤ s.n → (runW c j s a k).1 = 0 → (runW c j s a k).2.2 = a + j ∧
    ∀ q, (∀ i, i < j → q = a + i → vwB (runW c j s a k).2.1 q = (fun t => Int.ofNat (c (k + i) t)) ∧ vwT (runW c j s a k).2.1 q = false) ∧ ((q < a ∨ a + j ≤ q) → vwB (runW c j s a k).2.1 q = vwB s q ∧ vwT (runW c j s a k).2.1 q = vwT s q)
  | 0, s, a, k, mm, ok, ha, h => ⟨rfl, fun q => ⟨fun i hi => absurd hi (Nat.not_lt_zero _), fun _ => ⟨rfl, rfl⟩⟩⟩
  | j + 1, s, a, k, mm, ok, ha, h => by
    have e : runW c (j + 1) s a k = (match decide (s.wrE (Int.ofNat a) 64 = 0) with
      | true => runW c j (s.wrS (Int.ofNat a) 64 fun t => Int.ofNat (c k t)) (a + 1) (k + 1)
      | false => (s.wrE (Int.ofNat a) 64, s.wrS (Int.ofNat a) 64 (fun t => Int.ofNat (c k t)), a)) := rfl
    cases d : decide (s.wrE (Int.ofNat a) 64 = 0) with
    | false =>
      rw [d] at e
      rw [e] at h
      exact absurd h (of_decide_eq_false d)
    | true =>
      rw [d] at e
      simp only at e
      have on := wrE_on (of_decide_eq_true d)
      have ok1 := ok.wrS (q := a) (by omega) fun t => Int.ofNat (c k t)
      have v1 := fun q => vw_wrS (bs := fun t => Int.ofNat (c k t)) on (by omega : a < s.n) q
      rw [e] at h ⊢
      have ih := runW_vw c j _ (a + 1) (k + 1) (mm + 1) ok1 (by rw [wrS_n]; omega) h
      refine ⟨by rw [ih.1]; omega, fun q => ⟨fun i hi hq => ?_, fun hq => ?_⟩⟩
      · cases i with
        | zero =>
          have hq' : q = a := hq
          subst hq'
          have h2 := (ih.2 q).2 (.inl (by omega))
          rw [h2.1, h2.2, (v1 q).1, (v1 q).2, Nat.beq_refl, cond_true, cond_true]
          exact ⟨rfl, rfl⟩
        | succ i =>
          have h2 := (ih.2 q).1 i (by omega) (by omega)
          rw [h2.1, h2.2, show k + 1 + i = k + (i + 1) by omega]
          exact ⟨rfl, rfl⟩
      · have h2 := (ih.2 q).2 (by omega)
        have hb : Nat.beq q a = false := by rw [Bool.eq_false_iff, ne_eq, Nat.beq_eq]; omega
        rw [h2.1, h2.2, (v1 q).1, (v1 q).2, hb, cond_false, cond_false]
        exact ⟨rfl, rfl⟩
theorem runR_vw (gen first : Nat) (m : Nat → Nat) (b : Nat → Nat → Nat) : ∀ (j : Nat) (s : SS) (a i mm : Nat), OkM s mm → a + sumP m j i ≤ s.n → (runR gen first m b j s a i).1 = 0 →
    ∀ q, (∀ r k, r < j → k < npF (m (i + r)) → q = a + sumP m r i + k → vwB (runR gen first m b j s a i).2.1 q = (fun t => Int.ofNat (pcB gen (first + (i + r)) (npF (m (i + r))) (m (i + r)) (b (i + r)) k t)) ∧ vwT (runR gen first m b j s a i).2.1 q = false) ∧
      ((q < a ∨ a + sumP m j i ≤ q) → vwB (runR gen first m b j s a i).2.1 q = vwB s q ∧ vwT (runR gen first m b j s a i).2.1 q = vwT s q)
  | 0, s, a, i, mm, ok, ha, h, q => ⟨fun r k hr => absurd hr (Nat.not_lt_zero _), fun _ => ⟨rfl, rfl⟩⟩
  | j + 1, s, a, i, mm, ok, ha, h, q => by
    have e : runR gen first m b (j + 1) s a i = (match decide ((recW gen first m b s a i).1 = 0) with
      | true => runR gen first m b j (recW gen first m b s a i).2.1 (recW gen first m b s a i).2.2 (i + 1)
      | false => recW gen first m b s a i) := rfl
    have ha' : a + (npF (m i) + sumP m j (i + 1)) ≤ s.n := ha
    have h2 := recW_at gen first m b s a i mm ok (by omega)
    cases d : decide ((recW gen first m b s a i).1 = 0) with
    | false =>
      rw [d] at e
      rw [e] at h
      exact absurd h (of_decide_eq_false d)
    | true =>
      rw [d] at e
      simp only at e
      have w := runW_vw (pcB gen (first + i) (npF (m i)) (m i) (b i)) (npF (m i)) s a 0 mm ok (by omega) (of_decide_eq_true d)
      have wa : (recW gen first m b s a i).2.2 = a + npF (m i) := w.1
      rw [e] at h ⊢
      rw [wa] at h ⊢
      have ih := runR_vw gen first m b j (recW gen first m b s a i).2.1 (a + npF (m i)) (i + 1) (mm + npF (m i)) h2.2.2 (by rw [h2.1]; omega) h q
      refine ⟨fun r k hr hk hq => ?_, fun hq => ?_⟩
      · cases r with
        | zero =>
          have hk' : k < npF (m i) := hk
          have hq' : q = a + k := by rw [hq]; show a + 0 + k = a + k; omega
          have h3 := ih.2 (.inl (by omega))
          have h4 := (w.2 q).1 k hk' hq'
          refine ⟨h3.1.trans (h4.1.trans ?_), h3.2.trans h4.2⟩
          rw [Nat.zero_add]; rfl
        | succ r =>
          have es : sumP m (r + 1) i = npF (m i) + sumP m r (i + 1) := rfl
          have h3 := ih.1 r k (by omega) (by rw [show i + 1 + r = i + (r + 1) by omega]; exact hk) (by rw [hq, es]; omega)
          rw [show i + 1 + r = i + (r + 1) by omega] at h3
          exact h3
      · have es : sumP m (j + 1) i = npF (m i) + sumP m j (i + 1) := rfl
        rw [es] at hq
        have h3 := ih.2 (by omega)
        have h4 := (w.2 q).2 (by omega)
        exact ⟨h3.1.trans h4.1, h3.2.trans h4.2⟩
theorem rdB_v (s : SS) (q : Nat) : s.rdB (Int.ofNat q) = vwB s q := by
  have et : (Int.ofNat q).toNat = q := rfl
  unfold SS.rdB vwB
  rw [et]
  cases lB s.P q with
  | true => rw [cond_true]
  | false => rw [cond_false]
theorem bB_v {s : SS} {q : Nat} (on : s.off = false) (hq : q < s.n) : bB s q = bif vwT s q then (fun _ => 0) else fun t => (vwB s q t).toNat := by
  have et : (Int.ofNat q).toNat = q := rfl
  have e : s.rdE (Int.ofNat q) = bif vwT s q then 14 else 0 := by
    unfold SS.rdE vwT
    rw [on, decide_eq_true (show (0 : Int) ≤ Int.ofNat q ∧ Int.ofNat q < Int.ofNat s.n from ⟨by simp, by simp; omega⟩)]
    simp only [et]
    cases lB s.P q with
    | true => rw [cond_true, cond_false]
    | false =>
      rw [cond_false]
      cases s.torn q with
      | true => rw [cond_true]
      | false => rw [cond_false]
  unfold bB
  rw [e]
  cases vwT s q with
  | true =>
    rw [cond_true, cond_true]
    rfl
  | false =>
    rw [cond_false, cond_false]
    show rdC s (Int.ofNat q) = _
    unfold rdC
    rw [rdB_v]
theorem bB_same {s s' : SS} {q : Nat} (on : s.off = false) (on' : s'.off = false) (hq : q < s.n) (hq' : q < s'.n) (h1 : vwB s' q = vwB s q) (h2 : vwT s' q = vwT s q) : bB s' q = bB s q := by
  rw [bB_v on hq, bB_v on' hq', h1, h2]
theorem bB_laid {s : SS} {q : Nat} {c : Nat → Nat} (on : s.off = false) (hq : q < s.n) (h1 : vwB s q = fun t => Int.ofNat (c t)) (h2 : vwT s q = false) : bB s q = c := by
  rw [bB_v on hq, h2, cond_false, h1]
  rfl
theorem cmt_bB (gen first n mm : Nat) (m : Nat → Nat) (b : Nat → Nat → Nat) (s : SS) (a : Nat) (ok : OkM s mm) (ha : a + sumP m n 0 ≤ s.n) (on : s.off = false) (h : cmtE gen first n m b s a = 0) (q : Nat) (hq : q < s.n) :
    (∀ r k, r < n → k < npF (m r) → q = a + sumP m r 0 + k → bB (cmtS gen first n m b s a) q = pcB gen (first + r) (npF (m r)) (m r) (b r) k) ∧ ((q < a ∨ a + sumP m n 0 ≤ q) → bB (cmtS gen first n m b s a) q = bB s q) := by
  obtain ⟨o1, _, o3⟩ := cmt_on gen first n m b s a h
  have hn := (cmtS_ok gen first n mm m b s a ok ha).2
  have e : cmtS gen first n m b s a = (runR gen first m b n s a 0).2.1.bar := by
    unfold cmtS; rw [decide_eq_true o3]
  have w := runR_vw gen first m b n s a 0 mm ok ha o3 q
  have v := vw_bar (runR gen first m b n s a 0).2.1 q
  rw [← e] at v
  refine ⟨fun r k hr hk hp => ?_, fun hp => ?_⟩
  · have h1 := w.1 r k hr (by rw [Nat.zero_add]; exact hk) hp
    rw [Nat.zero_add] at h1
    exact bB_laid o1 (by rw [hn]; exact hq) (v.1.trans h1.1) (v.2.trans h1.2)
  · have h1 := w.2 hp
    exact bB_same on o1 hq (by rw [hn]; exact hq) (v.1.trans h1.1) (v.2.trans h1.2)
end Go.Proofs.Jn
