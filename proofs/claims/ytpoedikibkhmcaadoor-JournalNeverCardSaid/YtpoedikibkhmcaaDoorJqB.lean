/- Runs over unknown values, told by the kernel: part JqB. -/
import Derived.Test.YtpoedikibkhmcaaDoorJqA
set_option linter.unusedSimpArgs false
set_option linter.unusedVariables false
set_option maxRecDepth 20000
namespace Go.Proofs.Jn
open Go Go.Sim Go.Proofs Go.Proofs.Cd Go.Proofs.St Go.Proofs.Cl Go.Proofs.YtpoedikibkhmcaaDoor
noncomputable abbrev z0 {α : Type} (a b : T α) : T α := T.n none a b
noncomputable abbrev z1 {α : Type} (v : α) (a b : T α) : T α := T.n (some v) a b
noncomputable abbrev zl {α : Type} (v : α) : T α := T.n (some v) T.e T.e
noncomputable abbrev iv (x : Int) : AV := .i .i64 x
noncomputable abbrev inv (x : Nat) : AV := .i .i64 (Int.ofNat x)
noncomputable abbrev kb (KK : Nat → Int) (i : Nat) (c : Int) : AV := .b (decide (KK i = c))
noncomputable abbrev wv (BL : Nat → Nat) (BB : Nat → Nat → Nat) (i : Nat) : AV := .sv 1 (BL i) (byF (BB i))
noncomputable abbrev wr (LN : Nat → Nat) (LM : Nat → Nat → Nat) (LB : Nat → Nat → Nat → Nat) (i : Nat) : AV := .sv 1 (LN i) (recF (LM i) (LB i))
noncomputable abbrev rl (a n : Nat) : AV := .lr a 1 0 n false
abbrev CT (f : Nat) (a : List AV) (o : List (Option AObj)) (v : AV) (u : List Upd) : Prop := Con Tryd.prog f a o v u
abbrev nvPre (n0 N i : Nat) (X : Prop) : Prop := decide (Int.ofNat i < Int.ofNat N) = true ∧ ((0 : Int) ≤ Int.ofNat i ∧ Int.ofNat i < ↑N) ∧ True ∧ decide ((200 : Int) < Int.ofNat i) = false ∧ (True ∧ 0 + n0 ≤ n0 ∧ 0 + n0 ≤ 140737488355328 ∧ (3 * (0 + n0) + 1536) * 24 ≤ 562949953421312) ∧ True ∧ (0 + n0 ≤ n0 ∧ True ∧ n0 + 1 ≤ 140737488355328 ∧ (3 * (n0 + 1) + 1536) * 24 ≤ 562949953421312) ∧ True ∧ X
section
noncomputable abbrev nvL (N i : Nat) (KK KZ : Nat → Int) (TT : Nat → Bool) (BL : Nat → Nat) (BB : Nat → Nat → Nat) (LN : Nat → Nat) (LM : Nat → Nat → Nat) (LB : Nat → Nat → Nat → Nat) (n : Nat) : List (Nat × AV) := [(3, .p 0 0), (4, .p 1 0), (5, .lr 2 1 0 n false), (22, .sv 5 N (nvF KK KZ TT BL BB LN LM LB)), (23, .i .i64 (Int.ofNat N)), (24, .i .i64 (Int.ofNat i + 1))]
variable (s : SS) (j : JS) (n0 : Nat) (m0 : Nat → Nat) (b0 : Nat → Nat → Nat) (N i : Nat) (KK KZ : Nat → Int) (TT : Nat → Bool) (BL : Nat → Nat) (BB : Nat → Nat → Nat) (LN : Nat → Nat) (LM : Nat → Nat → Nat) (LB : Nat → Nat → Nat → Nat)
noncomputable abbrev nvRun (o : Orc) (K : Res → Orc → Prop) : Prop := runK Tryd.prog 1000000 (.code (loopAt Tryd.prog 6 0) 135 (mkT [(3, .p 0 0), (4, .p 1 0), (5, .lr 2 1 0 n0 false), (22, .sv 5 N (nvF KK KZ TT BL BB LN LM LB)), (23, .i .i64 (Int.ofNat N)), (24, .i .i64 (Int.ofNat i))]) (mkH [some s.o, some j.o, some (.rows 38 1 n0 (recF m0 b0))])) o K
theorem nvD1_vc (s1 : SS) (j1 : JS) (K : Res → Orc → Prop) : nvRun s j n0 m0 b0 N i KK KZ TT BL BB LN LM LB (Orc.t (Orc.f (Orc.f (Orc.f (Orc.f (Orc.f (Orc.cal [] (wv BL BB i) [] (Orc.cal [0, 1] (iv 0) [Upd.set (SS.o s1), Upd.set (JS.o j1)] (Orc.c (Orc.inl (Orc.c (Orc.f (Orc.cal [0] (AV.b false) [Upd.keep] (Orc.c (Orc.c Orc.z))))))))))))))) K = nvPre n0 N i (decide (KK i = (1 : Int)) = false ∧ decide (KK i = (2 : Int)) = false ∧ decide (KK i = (3 : Int)) = false ∧ decide (KK i = (4 : Int)) = false ∧ True ∧ CT 25 [wv BL BB i] [] (wv BL BB i) [] ∧ CT 24 [AV.p 1 0, wv BL BB i] [some (SS.o s), some (JS.o j)] (iv 0) [Upd.set (SS.o s1), Upd.set (JS.o j1)] ∧ True ∧ True ∧ (!decide (Int.ofNat (JS.recs j1) = Int.ofNat (addN n0 1))) = false ∧ CT 32 [AV.p 0 0] [some (SS.o s1)] (AV.b false) [Upd.keep] ∧ True ∧ rg (Int.ofNat i + 1) ∧ K (Res.st XO.nrm (z0 (z0 (z1 (AV.p 0 0) (z1 (AV.p 3 0) (z0 (z1 (AV.l 4 0 0 0 1 true) (zl (kb KK i 3)) T.e) (z0 (zl (AV.b false)) T.e)) (z1 (inv N) (z1 (iv (KK i)) (zl (AV.p 1 0)) T.e) T.e)) (z0 (z0 (zl (wv BL BB i)) T.e) (z1 (AV.pv 5 (nvF KK KZ TT BL BB LN LM LB i)) (z1 (wv BL BB i) (zl (AV.b !decide (Int.ofNat (JS.recs j1) = Int.ofNat (addN n0 1)))) T.e) T.e))) (z1 (rl 7 (addN n0 1)) (z1 (iv 0) (z0 (zl (rl 5 n0)) (z0 (zl (iv 0)) T.e)) (z1 (AV.b (decide (Int.ofNat i < Int.ofNat N))) (z1 (AV.p 3 3) (zl (rl 7 (addN n0 1))) T.e) (zl (kb KK i 2)))) (z0 (z0 (z1 (rl 7 (addN n0 1)) (zl (AV.b true)) T.e) (z0 T.e (zl (iv (Int.ofNat i + 1))))) (z1 (inv i) (z1 (kb KK i 1) (zl (AV.b false)) T.e) T.e)))) (z0 (z1 (AV.p 1 0) (z1 (rl 7 (addN n0 1)) (z0 (z1 (rl 2 n0) (zl (kb KK i 4)) T.e) (z0 (zl (AV.b false)) T.e)) (z1 (iv (Int.ofNat i + 1)) (z1 (AV.p 1 0) (zl (inv (JS.recs j1))) T.e) (zl (kb KK i 2)))) (z0 (z0 (z1 (AV.l 6 0 1 1 1 true) (zl (iv 0)) T.e) T.e) (z1 (AV.agg [iv (KK i), iv (KZ i), AV.b (TT i), wv BL BB i, wr LN LM LB i]) (z1 (iv 0) (zl (AV.p 0 0)) T.e) T.e))) (z1 (inv i) (z0 (z0 (zl (AV.p 3 3)) (z0 (zl (AV.b true)) T.e)) (z1 (inv i) (z1 (wv BL BB i) (zl (inv (addN n0 1))) T.e) T.e)) (z0 (z1 (AV.sv 5 N (nvF KK KZ TT BL BB LN LM LB)) (z1 (AV.p 3 0) (zl (rl 7 (addN n0 1))) T.e) T.e) (z1 (AV.b (decide ((200 : Int) < Int.ofNat i))) (z1 (kb KK i 1) (zl (iv 0)) T.e) (zl (kb KK i 4))))))) { tree := z1 (SS.o s1) (z1 (JS.o j1) (z1 (AObj.cells 40 5 [iv 0, iv 0, AV.b false, AV.l0, AV.l0] (z1 (iv (KK i)) (z1 (iv (KZ i)) (zl (wv BL BB i)) T.e) (z1 (AV.b (TT i)) (zl (wr LN LM LB i)) T.e))) (zl (AObj.rows 38 1 (addN n0 1) (appZ n0 (recF m0 b0) (listF 1 [CV.sv 1 (BL i) (byF (BB i))] 1)))) T.e) (z0 T.e T.e)) (z1 (AObj.rows 38 1 n0 (recF m0 b0)) (z0 T.e T.e) (zl (AObj.cells 38 1 [] (zl (wv BL BB i))))), next := 8, log := [1, 0, 7, 5, 6, 5, 4, 4, 3, 3] }) Orc.z) := by kernel_rfl
theorem nvD2_vc (e : Int) (K : Res → Orc → Prop) : nvRun s j n0 m0 b0 N i KK KZ TT BL BB LN LM LB (Orc.t (Orc.f (Orc.f (Orc.f (Orc.f (Orc.f (Orc.cal [] (wv BL BB i) [] (Orc.cal [0, 1] (iv e) [Upd.keep, Upd.keep] (Orc.f (Orc.cal [0] (AV.b false) [Upd.keep] (Orc.s Orc.z (Orc.t Orc.z)))))))))))) K = nvPre n0 N i (decide (KK i = (1 : Int)) = false ∧ decide (KK i = (2 : Int)) = false ∧ decide (KK i = (3 : Int)) = false ∧ decide (KK i = (4 : Int)) = false ∧ True ∧ CT 25 [wv BL BB i] [] (wv BL BB i) [] ∧ CT 24 [AV.p 1 0, wv BL BB i] [some (SS.o s), some (JS.o j)] (iv e) [Upd.keep, Upd.keep] ∧ decide (e = (0 : Int)) = false ∧ CT 32 [AV.p 0 0] [some (SS.o s)] (AV.b false) [Upd.keep] ∧ True ∧ ((!false == decide (e = (13 : Int))) = true → K (Res.st XO.ret (z0 (z0 (z1 (AV.p 0 0) (z1 (AV.p 3 0) (z0 (z1 (AV.l 4 0 0 0 1 true) (zl (kb KK i 3)) T.e) (z0 (zl (AV.b (decide (e = (13 : Int))))) T.e)) (z1 (inv N) (zl (iv (KK i))) T.e)) (z0 (z0 (zl (wv BL BB i)) T.e) (z1 (AV.pv 5 (nvF KK KZ TT BL BB LN LM LB i)) (zl (wv BL BB i)) T.e))) (z1 (rl 2 n0) (z1 (iv e) (z0 (zl (rl 5 n0)) T.e) (z1 (AV.b (decide (Int.ofNat i < Int.ofNat N))) (zl (AV.p 3 3)) (zl (kb KK i 2)))) (z0 (z0 (z1 (rl 7 (addN n0 1)) (zl (AV.b (decide (e = (0 : Int))))) T.e) T.e) (z1 (inv i) (z1 (kb KK i 1) (zl (AV.b false)) T.e) T.e)))) (z1 (AV.b false) (z1 (AV.p 1 0) (z1 (rl 7 (addN n0 1)) (z0 (z1 (rl 2 n0) (zl (kb KK i 4)) T.e) (z0 (zl (AV.b !false == decide (e = (13 : Int)))) T.e)) (z1 (inv i) (zl (AV.p 1 0)) (zl (kb KK i 2)))) (z0 (z0 (z1 (AV.l 6 0 1 1 1 true) (zl (iv e)) T.e) T.e) (z1 (AV.agg [iv (KK i), iv (KZ i), AV.b (TT i), wv BL BB i, wr LN LM LB i]) (z1 (iv e) (zl (AV.p 0 0)) T.e) T.e))) (z1 (inv i) (z0 (z0 (zl (AV.p 3 3)) T.e) (z1 (inv i) (zl (wv BL BB i)) T.e)) (z0 (z1 (AV.sv 5 N (nvF KK KZ TT BL BB LN LM LB)) (zl (AV.p 3 0)) T.e) (z1 (AV.b (decide ((200 : Int) < Int.ofNat i))) (z1 (kb KK i 1) (zl (iv e)) T.e) (zl (kb KK i 4))))))) { tree := z1 (SS.o s) (z1 (JS.o j) (z1 (AObj.cells 40 5 [iv 0, iv 0, AV.b false, AV.l0, AV.l0] (z1 (iv (KK i)) (z1 (iv (KZ i)) (zl (wv BL BB i)) T.e) (z1 (AV.b (TT i)) (zl (wr LN LM LB i)) T.e))) (zl (AObj.rows 38 1 (addN n0 1) (appZ n0 (recF m0 b0) (listF 1 [CV.sv 1 (BL i) (byF (BB i))] 1)))) T.e) (z0 T.e T.e)) (z1 (AObj.rows 38 1 n0 (recF m0 b0)) (z0 T.e T.e) (zl (AObj.cells 38 1 [] (zl (wv BL BB i))))), next := 8, log := [7, 5, 6, 5, 4, 4, 3, 3] }) Orc.z) ∧ ((!false == decide (e = (13 : Int))) = false → (!decide (e = (13 : Int))) = true ∧ rg (Int.ofNat i + 1) ∧ K (Res.st XO.nrm (z0 (z0 (z1 (AV.p 0 0) (z1 (AV.p 3 0) (z0 (z1 (AV.l 4 0 0 0 1 true) (zl (kb KK i 3)) T.e) (z0 (zl (AV.b (decide (e = (13 : Int))))) T.e)) (z1 (inv N) (zl (iv (KK i))) T.e)) (z0 (z0 (zl (wv BL BB i)) T.e) (z1 (AV.pv 5 (nvF KK KZ TT BL BB LN LM LB i)) (zl (wv BL BB i)) T.e))) (z1 (rl 2 n0) (z1 (iv e) (z0 (zl (rl 5 n0)) (z0 (zl (iv e)) T.e)) (z1 (AV.b (decide (Int.ofNat i < Int.ofNat N))) (zl (AV.p 3 3)) (zl (kb KK i 2)))) (z0 (z0 (z1 (rl 7 (addN n0 1)) (zl (AV.b (decide (e = (0 : Int))))) T.e) (z0 T.e (zl (iv (Int.ofNat i + 1))))) (z1 (inv i) (z1 (kb KK i 1) (zl (AV.b false)) T.e) T.e)))) (z0 (z1 (AV.p 1 0) (z1 (rl 7 (addN n0 1)) (z0 (z1 (rl 2 n0) (zl (kb KK i 4)) T.e) (z0 (zl (AV.b !false == decide (e = (13 : Int)))) T.e)) (z1 (iv (Int.ofNat i + 1)) (zl (AV.p 1 0)) (zl (kb KK i 2)))) (z0 (z0 (z1 (AV.l 6 0 1 1 1 true) (zl (iv e)) T.e) T.e) (z1 (AV.agg [iv (KK i), iv (KZ i), AV.b (TT i), wv BL BB i, wr LN LM LB i]) (z1 (iv e) (zl (AV.p 0 0)) T.e) T.e))) (z1 (inv i) (z0 (z0 (zl (AV.p 3 3)) (z0 (zl (AV.b !decide (e = (13 : Int)))) T.e)) (z1 (inv i) (zl (wv BL BB i)) T.e)) (z0 (z1 (AV.sv 5 N (nvF KK KZ TT BL BB LN LM LB)) (zl (AV.p 3 0)) T.e) (z1 (AV.b (decide ((200 : Int) < Int.ofNat i))) (z1 (kb KK i 1) (zl (iv e)) T.e) (zl (kb KK i 4))))))) { tree := z1 (SS.o s) (z1 (JS.o j) (z1 (AObj.cells 40 5 [iv 0, iv 0, AV.b false, AV.l0, AV.l0] (z1 (iv (KK i)) (z1 (iv (KZ i)) (zl (wv BL BB i)) T.e) (z1 (AV.b (TT i)) (zl (wr LN LM LB i)) T.e))) (zl (AObj.rows 38 1 (addN n0 1) (appZ n0 (recF m0 b0) (listF 1 [CV.sv 1 (BL i) (byF (BB i))] 1)))) T.e) (z0 T.e T.e)) (z1 (AObj.rows 38 1 n0 (recF m0 b0)) (z0 T.e T.e) (zl (AObj.cells 38 1 [] (zl (wv BL BB i))))), next := 8, log := [7, 5, 6, 5, 4, 4, 3, 3] }) Orc.z)) := by kernel_rfl
theorem nvD3_vc (s1 : SS) (j1 : JS) (s2 : SS) (j2 : JS) (c : Nat) (m2 : Nat → Nat) (b2 : Nat → Nat → Nat) (v : Bool) (K : Res → Orc → Prop) : nvRun s j n0 m0 b0 N i KK KZ TT BL BB LN LM LB (Orc.t (Orc.f (Orc.f (Orc.f (Orc.f (Orc.f (Orc.cal [] (wv BL BB i) [] (Orc.cal [0, 1] (iv (13 : Int)) [Upd.set (SS.o s1), Upd.set (JS.o j1)] (Orc.c (Orc.cal [0] (AV.b true) [Upd.keep] (Orc.c (Orc.c (Orc.cal [0] (iv 0) [Upd.set (SS.o s2)] (Orc.c (Orc.cal [0] (AV.tup [AV.p 1 0, AV.sv 1 c (recF m2 b2), iv 0]) [Upd.keep, Upd.set (JS.o j2)] (Orc.c (Orc.c (Orc.c (Orc.c (Orc.c (Orc.c (Orc.cal [2] (AV.b v) [Upd.keep] (Orc.c (Orc.c (Orc.f (Orc.f (Orc.f (Orc.f (Orc.c (Orc.f (Orc.c (Orc.c (Orc.cal [] (rl 0 c) [Upd.set (AObj.rows 38 1 c (recF m2 b2))] Orc.z))))))))))))))))))))))))))))))))) K = nvPre n0 N i (decide (KK i = (1 : Int)) = false ∧ decide (KK i = (2 : Int)) = false ∧ decide (KK i = (3 : Int)) = false ∧ decide (KK i = (4 : Int)) = false ∧ True ∧ CT 25 [wv BL BB i] [] (wv BL BB i) [] ∧ CT 24 [AV.p 1 0, wv BL BB i] [some (SS.o s), some (JS.o j)] (iv (13 : Int)) [Upd.set (SS.o s1), Upd.set (JS.o j1)] ∧ CT 32 [AV.p 0 0] [some (SS.o s1)] (AV.b true) [Upd.keep] ∧ True ∧ True ∧ True ∧ CT 21 [AV.p 0 0, iv (KZ i), AV.b (TT i)] [some (SS.o s1)] (iv 0) [Upd.set (SS.o s2)] ∧ CT 10 [AV.p 0 0] [some (SS.o s2)] (AV.tup [AV.p 1 0, AV.sv 1 c (recF m2 b2), iv 0]) [Upd.keep, Upd.set (JS.o j2)] ∧ True ∧ CT 23 [AV.sv 1 c (recF m2 b2), rl 0 n0] [some (AObj.rows 38 1 n0 (recF m0 b0))] (AV.b v) [Upd.keep] ∧ True ∧ (!v) = false ∧ (!v) = false ∧ (!v) = false ∧ (!v) = false ∧ (!v) = false ∧ CT 15 [AV.sv 1 c (recF m2 b2)] [] (rl 0 c) [Upd.set (AObj.rows 38 1 c (recF m2 b2))] ∧ rg (Int.ofNat i + 1) ∧ K (Res.st XO.nrm (z0 (z0 (z1 (AV.p 0 0) (z1 (AV.p 3 0) (z0 (z1 (AV.l 4 0 0 0 1 true) (zl (kb KK i 3)) (zl (iv 0))) (z0 (zl (AV.b true)) (zl (AV.tup [])))) (z1 (inv N) (z1 (iv (KK i)) T.e (zl (AV.sv 1 c (recF m2 b2)))) (z0 (zl (AV.b (TT i))) T.e))) (z1 (AV.sv 1 c (recF m2 b2)) (z0 (z1 (wv BL BB i) T.e (zl (AV.p 8 0))) (z0 (zl (AV.p 0 0)) (zl (AV.sv 1 c (recF m2 b2))))) (z1 (AV.pv 5 (nvF KK KZ TT BL BB LN LM LB i)) (z1 (wv BL BB i) T.e (zl (AV.b !v))) (z0 (zl (AV.p 0 0)) T.e)))) (z1 (rl 9 c) (z1 (iv (13 : Int)) (z0 (z1 (rl 5 n0) T.e (zl (AV.b false))) (z0 (zl (iv (13 : Int))) (zl (AV.b false)))) (z1 (AV.b (decide (Int.ofNat i < Int.ofNat N))) (z1 (AV.p 3 3) T.e (zl (AV.b v))) (z1 (kb KK i 2) (zl (AV.b false)) T.e))) (z0 (z0 (z1 (rl 7 (addN n0 1)) (zl (AV.b false)) (zl (AV.b false))) (z0 (zl (iv (KZ i))) (zl (iv (Int.ofNat i + 1))))) (z1 (inv i) (z1 (kb KK i 1) (zl (AV.b true)) (zl (AV.tup []))) (z0 (zl (AV.p 8 0)) T.e))))) (z0 (z1 (AV.p 8 0) (z1 (rl 7 (addN n0 1)) (z0 (z1 (rl 2 n0) (zl (kb KK i 4)) (zl (iv 0))) (z0 (zl (AV.b false)) (zl (AV.b false)))) (z1 (iv (Int.ofNat i + 1)) (z1 (AV.p 1 0) T.e (zl (rl 2 n0))) (z1 (kb KK i 2) (zl (iv 0)) T.e))) (z1 (iv 0) (z0 (z1 (AV.l 6 0 1 1 1 true) (zl (iv (13 : Int))) (zl (AV.b false))) (z0 (zl (AV.p 3 1)) (zl (rl 9 c)))) (z1 (AV.agg [iv (KK i), iv (KZ i), AV.b (TT i), wv BL BB i, wr LN LM LB i]) (z1 (iv (13 : Int)) (zl (AV.p 0 0)) (zl (AV.tup []))) (z0 (zl (AV.tup [AV.p 8 0, AV.sv 1 c (recF m2 b2), iv 0])) T.e)))) (z1 (inv i) (z1 (AV.p 8 0) (z0 (z1 (AV.p 3 3) T.e (zl (AV.b false))) (z0 (zl (AV.b false)) (zl (AV.p 8 0)))) (z1 (inv i) (z1 (wv BL BB i) T.e (zl (AV.b !v))) (z0 (zl (AV.tup [AV.p 8 0, AV.sv 1 c (recF m2 b2), iv 0])) T.e))) (z0 (z1 (AV.sv 5 N (nvF KK KZ TT BL BB LN LM LB)) (z1 (AV.p 3 0) T.e (zl (AV.b false))) (z0 (zl (AV.p 3 2)) T.e)) (z1 (AV.b (decide ((200 : Int) < Int.ofNat i))) (z1 (kb KK i 1) (zl (iv (13 : Int))) (zl (AV.tup []))) (z1 (kb KK i 4) (zl (AV.sv 1 c (recF m2 b2))) T.e)))))) { tree := z1 (SS.o s2) (z1 (JS.o j1) (z1 (AObj.cells 40 5 [iv 0, iv 0, AV.b false, AV.l0, AV.l0] (z1 (iv (KK i)) (z1 (iv (KZ i)) (zl (wv BL BB i)) T.e) (z1 (AV.b (TT i)) (zl (wr LN LM LB i)) T.e))) (zl (AObj.rows 38 1 (addN n0 1) (appZ n0 (recF m0 b0) (listF 1 [CV.sv 1 (BL i) (byF (BB i))] 1)))) T.e) (z0 (zl (AObj.rows 38 1 c (recF m2 b2))) T.e)) (z1 (AObj.rows 38 1 n0 (recF m0 b0)) (z0 (zl (JS.o j2)) T.e) (zl (AObj.cells 38 1 [] (zl (wv BL BB i))))), next := 10, log := [9, 8, 0, 1, 0, 7, 5, 6, 5, 4, 4, 3, 3] }) Orc.z) := by kernel_rfl
theorem nvD4_vc (s1 : SS) (j1 : JS) (s2 : SS) (j2 : JS) (c : Nat) (m2 : Nat → Nat) (b2 : Nat → Nat → Nat) (v : Bool) (mT : Nat → Nat) (bT : Nat → Nat → Nat) (K : Res → Orc → Prop) : nvRun s j n0 m0 b0 N i KK KZ TT BL BB LN LM LB (Orc.t (Orc.f (Orc.f (Orc.f (Orc.f (Orc.f (Orc.cal [] (wv BL BB i) [] (Orc.cal [0, 1] (iv (13 : Int)) [Upd.set (SS.o s1), Upd.set (JS.o j1)] (Orc.c (Orc.cal [0] (AV.b true) [Upd.keep] (Orc.c (Orc.c (Orc.cal [0] (iv 0) [Upd.set (SS.o s2)] (Orc.c (Orc.cal [0] (AV.tup [AV.p 1 0, AV.sv 1 c (recF m2 b2), iv 0]) [Upd.keep, Upd.set (JS.o j2)] (Orc.c (Orc.c (Orc.c (Orc.c (Orc.c (Orc.c (Orc.cal [2] (AV.b v) [Upd.keep] (Orc.c (Orc.c (Orc.t (Orc.t (Orc.t (Orc.cal [7] (AV.b true) [Upd.set (AObj.rows 38 1 (addN n0 1) (recF mT bT))] (Orc.t (Orc.c (Orc.t (Orc.c (Orc.c (Orc.cal [] (rl 0 c) [Upd.set (AObj.rows 38 1 c (recF m2 b2))] Orc.z)))))))))))))))))))))))))))))))))) K = nvPre n0 N i (decide (KK i = (1 : Int)) = false ∧ decide (KK i = (2 : Int)) = false ∧ decide (KK i = (3 : Int)) = false ∧ decide (KK i = (4 : Int)) = false ∧ True ∧ CT 25 [wv BL BB i] [] (wv BL BB i) [] ∧ CT 24 [AV.p 1 0, wv BL BB i] [some (SS.o s), some (JS.o j)] (iv (13 : Int)) [Upd.set (SS.o s1), Upd.set (JS.o j1)] ∧ CT 32 [AV.p 0 0] [some (SS.o s1)] (AV.b true) [Upd.keep] ∧ True ∧ True ∧ True ∧ CT 21 [AV.p 0 0, iv (KZ i), AV.b (TT i)] [some (SS.o s1)] (iv 0) [Upd.set (SS.o s2)] ∧ CT 10 [AV.p 0 0] [some (SS.o s2)] (AV.tup [AV.p 1 0, AV.sv 1 c (recF m2 b2), iv 0]) [Upd.keep, Upd.set (JS.o j2)] ∧ True ∧ CT 23 [AV.sv 1 c (recF m2 b2), rl 0 n0] [some (AObj.rows 38 1 n0 (recF m0 b0))] (AV.b v) [Upd.keep] ∧ True ∧ (!v) = true ∧ (!v) = true ∧ (!v) = true ∧ CT 23 [AV.sv 1 c (recF m2 b2), rl 0 (addN n0 1)] [some (AObj.rows 38 1 (addN n0 1) (appZ n0 (recF m0 b0) (listF 1 [CV.sv 1 (BL i) (byF (BB i))] 1)))] (AV.b true) [Upd.set (AObj.rows 38 1 (addN n0 1) (recF mT bT))] ∧ (!v) = true ∧ True ∧ (!v) = true ∧ CT 15 [AV.sv 1 c (recF m2 b2)] [] (rl 0 c) [Upd.set (AObj.rows 38 1 c (recF m2 b2))] ∧ rg (Int.ofNat i + 1) ∧ K (Res.st XO.nrm (z0 (z0 (z1 (AV.p 0 0) (z1 (AV.p 3 0) (z0 (z1 (AV.l 4 0 0 0 1 true) (zl (kb KK i 3)) (zl (iv 0))) (z0 (zl (AV.b true)) (zl (AV.b false)))) (z1 (inv N) (z1 (iv (KK i)) T.e (zl (AV.sv 1 c (recF m2 b2)))) (z0 (zl (AV.b (TT i))) T.e))) (z1 (AV.sv 1 c (recF m2 b2)) (z0 (z1 (wv BL BB i) T.e (zl (AV.p 8 0))) (z0 (zl (AV.p 0 0)) (zl (AV.sv 1 c (recF m2 b2))))) (z1 (AV.pv 5 (nvF KK KZ TT BL BB LN LM LB i)) (z1 (wv BL BB i) T.e (zl (AV.b !v))) (z0 (zl (AV.p 0 0)) T.e)))) (z1 (rl 9 c) (z1 (iv (13 : Int)) (z0 (z1 (rl 5 n0) T.e (zl (AV.b false))) (z0 (zl (iv (13 : Int))) (zl (AV.b false)))) (z1 (AV.b (decide (Int.ofNat i < Int.ofNat N))) (z1 (AV.p 3 3) T.e (zl (AV.b v))) (z1 (kb KK i 2) (zl (AV.b false)) T.e))) (z0 (z0 (z1 (rl 7 (addN n0 1)) (zl (AV.b false)) (zl (AV.b false))) (z0 (zl (iv (KZ i))) (zl (iv (Int.ofNat i + 1))))) (z1 (inv i) (z1 (kb KK i 1) (zl (AV.b true)) (zl (rl 7 (addN n0 1)))) (z0 (zl (AV.p 8 0)) T.e))))) (z0 (z1 (AV.p 8 0) (z1 (rl 7 (addN n0 1)) (z0 (z1 (rl 2 n0) (zl (kb KK i 4)) (zl (iv 0))) (z0 (zl (AV.b false)) (zl (AV.b false)))) (z1 (iv (Int.ofNat i + 1)) (z1 (AV.p 1 0) T.e (zl (rl 2 n0))) (z1 (kb KK i 2) (zl (iv 0)) T.e))) (z1 (iv 0) (z0 (z1 (AV.l 6 0 1 1 1 true) (zl (iv (13 : Int))) (zl (AV.b false))) (z0 (zl (AV.p 3 1)) (zl (rl 9 c)))) (z1 (AV.agg [iv (KK i), iv (KZ i), AV.b (TT i), wv BL BB i, wr LN LM LB i]) (z1 (iv (13 : Int)) (zl (AV.p 0 0)) (zl (AV.sv 1 c (recF m2 b2)))) (z0 (zl (AV.tup [AV.p 8 0, AV.sv 1 c (recF m2 b2), iv 0])) T.e)))) (z1 (inv i) (z1 (AV.p 8 0) (z0 (z1 (AV.p 3 3) T.e (zl (AV.b false))) (z0 (zl (AV.b false)) (zl (AV.p 8 0)))) (z1 (inv i) (z1 (wv BL BB i) T.e (zl (AV.b !v))) (z0 (zl (AV.tup [AV.p 8 0, AV.sv 1 c (recF m2 b2), iv 0])) T.e))) (z0 (z1 (AV.sv 5 N (nvF KK KZ TT BL BB LN LM LB)) (z1 (AV.p 3 0) T.e (zl (AV.b false))) (z0 (zl (AV.p 3 2)) T.e)) (z1 (AV.b (decide ((200 : Int) < Int.ofNat i))) (z1 (kb KK i 1) (zl (iv (13 : Int))) (zl (AV.b true))) (z1 (kb KK i 4) (zl (AV.sv 1 c (recF m2 b2))) T.e)))))) { tree := z1 (SS.o s2) (z1 (JS.o j1) (z1 (AObj.cells 40 5 [iv 0, iv 0, AV.b false, AV.l0, AV.l0] (z1 (iv (KK i)) (z1 (iv (KZ i)) (zl (wv BL BB i)) T.e) (z1 (AV.b (TT i)) (zl (wr LN LM LB i)) T.e))) (zl (AObj.rows 38 1 (addN n0 1) (recF mT bT))) T.e) (z0 (zl (AObj.rows 38 1 c (recF m2 b2))) T.e)) (z1 (AObj.rows 38 1 n0 (recF m0 b0)) (z0 (zl (JS.o j2)) T.e) (zl (AObj.cells 38 1 [] (zl (wv BL BB i))))), next := 10, log := [9, 7, 8, 0, 1, 0, 7, 5, 6, 5, 4, 4, 3, 3] }) Orc.z) := by kernel_rfl
theorem nvR1_vc (s1 : SS) (j1 : JS) (K : Res → Orc → Prop) : nvRun s j n0 m0 b0 N i KK KZ TT BL BB LN LM LB (Orc.t (Orc.f (Orc.t (Orc.c (Orc.cal [] (rl 0 (LN i)) [Upd.set (AObj.rows 38 1 (LN i) (recF (LM i) (LB i)))] (Orc.cal [0, 1, 10] (iv 0) [Upd.set (SS.o s1), Upd.set (JS.o j1), Upd.gone] (Orc.c (Orc.inl (Orc.c (Orc.f (Orc.cal [0] (AV.b false) [Upd.keep] (Orc.c (Orc.c Orc.z))))))))))))) K = nvPre n0 N i (decide (KK i = (1 : Int)) = true ∧ True ∧ (True ∧ True ∧ 0 + LN i ≤ 140737488355328 ∧ (3 * (0 + LN i) + 1536) * 24 ≤ 562949953421312) ∧ True ∧ CT 15 [wr LN LM LB i] [] (rl 0 (LN i)) [Upd.set (AObj.rows 38 1 (LN i) (recF (LM i) (LB i)))] ∧ CT 14 [AV.p 1 0, rl 2 (LN i)] [some (SS.o s), some (JS.o j), some (AObj.rows 38 1 (LN i) (recF (LM i) (LB i)))] (iv 0) [Upd.set (SS.o s1), Upd.set (JS.o j1), Upd.gone] ∧ True ∧ True ∧ (!decide (Int.ofNat (JS.recs j1) = Int.ofNat (LN i))) = false ∧ CT 32 [AV.p 0 0] [some (SS.o s1)] (AV.b false) [Upd.keep] ∧ True ∧ rg (Int.ofNat i + 1) ∧ K (Res.st XO.nrm (z0 (z0 (z1 (AV.p 0 0) (z1 (AV.p 3 0) (z0 (zl (AV.l 4 0 0 0 1 true)) (z1 (AV.l 8 0 0 0 1 true) (zl (AV.b false)) T.e)) (z1 (inv N) (z1 (iv (KK i)) (zl (AV.p 1 0)) T.e) (zl (iv 0)))) (z0 (z0 (zl (wv BL BB i)) (zl (AV.p 1 0))) (z1 (AV.pv 5 (nvF KK KZ TT BL BB LN LM LB i)) (z0 (zl (AV.b !decide (Int.ofNat (JS.recs j1) = Int.ofNat (LN i)))) T.e) T.e))) (z1 (rl 9 (LN i)) (z1 (iv 0) (z0 (zl (rl 5 n0)) (z1 (wr LN LM LB i) (zl (iv 0)) T.e)) (z1 (AV.b (decide (Int.ofNat i < Int.ofNat N))) (z0 (zl (rl 9 (LN i))) T.e) T.e)) (z0 (z0 (z1 (rl 7 (addN n0 1)) (zl (AV.b true)) T.e) (z1 (wr LN LM LB i) T.e (zl (iv (Int.ofNat i + 1))))) (z1 (inv i) (z1 (kb KK i 1) (zl (AV.b false)) T.e) T.e)))) (z0 (z1 (AV.p 1 0) (z1 (rl 9 (LN i)) (z0 (zl (rl 2 n0)) (z1 (AV.p 3 4) (zl (AV.b false)) T.e)) (z1 (iv (Int.ofNat i + 1)) (z0 (zl (inv (JS.recs j1))) T.e) T.e)) (z0 (z0 (z1 (AV.l 6 0 1 1 1 true) (zl (iv 0)) T.e) (zl (AV.p 3 4))) (z1 (AV.agg [iv (KK i), iv (KZ i), AV.b (TT i), wv BL BB i, wr LN LM LB i]) (z0 (zl (AV.p 0 0)) T.e) T.e))) (z1 (inv i) (z0 (z0 (zl (AV.p 3 3)) (z1 (rl 9 (LN i)) (zl (AV.b true)) T.e)) (z1 (inv i) (z0 (zl (inv (LN i))) T.e) T.e)) (z0 (z1 (AV.sv 5 N (nvF KK KZ TT BL BB LN LM LB)) (z1 (AV.p 3 0) (zl (rl 9 (LN i))) T.e) (zl (rl 10 (LN i)))) (z1 (AV.b (decide ((200 : Int) < Int.ofNat i))) (z1 (kb KK i 1) (zl (iv 0)) T.e) T.e))))) { tree := z1 (SS.o s1) (z1 (JS.o j1) (z1 (AObj.cells 40 5 [iv 0, iv 0, AV.b false, AV.l0, AV.l0] (z1 (iv (KK i)) (z1 (iv (KZ i)) (zl (wv BL BB i)) T.e) (z1 (AV.b (TT i)) (zl (wr LN LM LB i)) T.e))) (zl (AObj.rows 38 1 (addN n0 1) (appZ n0 (recF m0 b0) (listF 1 [CV.sv 1 (BL i) (byF (BB i))] 1)))) T.e) (z0 (zl (AObj.rows 38 1 (LN i) (recF (LM i) (LB i)))) T.e)) (z1 (AObj.rows 38 1 n0 (recF m0 b0)) (z0 (z0 T.e T.e) T.e) (z1 (AObj.cells 38 1 [] (zl (wv BL BB i))) (z0 T.e T.e) T.e)), next := 11, log := [10, 1, 0, 10, 9, 8, 8, 7, 5, 6, 5, 4, 4, 3, 3] }) Orc.z) := by kernel_rfl
theorem nvR2_vc (e : Int) (K : Res → Orc → Prop) : nvRun s j n0 m0 b0 N i KK KZ TT BL BB LN LM LB (Orc.t (Orc.f (Orc.t (Orc.c (Orc.cal [] (rl 0 (LN i)) [Upd.set (AObj.rows 38 1 (LN i) (recF (LM i) (LB i)))] (Orc.cal [0, 1, 10] (iv e) [Upd.keep, Upd.keep, Upd.gone] (Orc.f (Orc.cal [0] (AV.b false) [Upd.keep] (Orc.s Orc.z (Orc.t Orc.z)))))))))) K = nvPre n0 N i (decide (KK i = (1 : Int)) = true ∧ True ∧ (True ∧ True ∧ 0 + LN i ≤ 140737488355328 ∧ (3 * (0 + LN i) + 1536) * 24 ≤ 562949953421312) ∧ True ∧ CT 15 [wr LN LM LB i] [] (rl 0 (LN i)) [Upd.set (AObj.rows 38 1 (LN i) (recF (LM i) (LB i)))] ∧ CT 14 [AV.p 1 0, rl 2 (LN i)] [some (SS.o s), some (JS.o j), some (AObj.rows 38 1 (LN i) (recF (LM i) (LB i)))] (iv e) [Upd.keep, Upd.keep, Upd.gone] ∧ decide (e = (0 : Int)) = false ∧ CT 32 [AV.p 0 0] [some (SS.o s)] (AV.b false) [Upd.keep] ∧ True ∧ ((!false == decide (e = (13 : Int))) = true → K (Res.st XO.ret (z0 (z0 (z1 (AV.p 0 0) (z1 (AV.p 3 0) (z0 (zl (AV.l 4 0 0 0 1 true)) (z1 (AV.l 8 0 0 0 1 true) (zl (AV.b (decide (e = (13 : Int))))) T.e)) (z1 (inv N) (zl (iv (KK i))) (zl (iv e)))) (z0 (z0 (zl (wv BL BB i)) (zl (AV.p 1 0))) (zl (AV.pv 5 (nvF KK KZ TT BL BB LN LM LB i))))) (z1 (rl 2 n0) (z1 (iv e) (z0 (zl (rl 5 n0)) (zl (wr LN LM LB i))) (zl (AV.b (decide (Int.ofNat i < Int.ofNat N))))) (z0 (z0 (z1 (rl 7 (addN n0 1)) (zl (AV.b (decide (e = (0 : Int))))) T.e) (zl (wr LN LM LB i))) (z1 (inv i) (z1 (kb KK i 1) (zl (AV.b false)) T.e) T.e)))) (z1 (AV.b false) (z1 (AV.p 1 0) (z1 (rl 9 (LN i)) (z0 (zl (rl 2 n0)) (z1 (AV.p 3 4) (zl (AV.b !false == decide (e = (13 : Int)))) T.e)) (zl (inv i))) (z0 (z0 (z1 (AV.l 6 0 1 1 1 true) (zl (iv e)) T.e) (zl (AV.p 3 4))) (z1 (AV.agg [iv (KK i), iv (KZ i), AV.b (TT i), wv BL BB i, wr LN LM LB i]) (z0 (zl (AV.p 0 0)) T.e) T.e))) (z1 (inv i) (z0 (z0 (zl (AV.p 3 3)) (zl (rl 9 (LN i)))) (zl (inv i))) (z0 (z1 (AV.sv 5 N (nvF KK KZ TT BL BB LN LM LB)) (zl (AV.p 3 0)) (zl (rl 10 (LN i)))) (z1 (AV.b (decide ((200 : Int) < Int.ofNat i))) (z1 (kb KK i 1) (zl (iv e)) T.e) T.e))))) { tree := z1 (SS.o s) (z1 (JS.o j) (z1 (AObj.cells 40 5 [iv 0, iv 0, AV.b false, AV.l0, AV.l0] (z1 (iv (KK i)) (z1 (iv (KZ i)) (zl (wv BL BB i)) T.e) (z1 (AV.b (TT i)) (zl (wr LN LM LB i)) T.e))) (zl (AObj.rows 38 1 (addN n0 1) (appZ n0 (recF m0 b0) (listF 1 [CV.sv 1 (BL i) (byF (BB i))] 1)))) T.e) (z0 (zl (AObj.rows 38 1 (LN i) (recF (LM i) (LB i)))) T.e)) (z1 (AObj.rows 38 1 n0 (recF m0 b0)) (z0 (z0 T.e T.e) T.e) (z1 (AObj.cells 38 1 [] (zl (wv BL BB i))) (z0 T.e T.e) T.e)), next := 11, log := [10, 10, 9, 8, 8, 7, 5, 6, 5, 4, 4, 3, 3] }) Orc.z) ∧ ((!false == decide (e = (13 : Int))) = false → (!decide (e = (13 : Int))) = true ∧ rg (Int.ofNat i + 1) ∧ K (Res.st XO.nrm (z0 (z0 (z1 (AV.p 0 0) (z1 (AV.p 3 0) (z0 (zl (AV.l 4 0 0 0 1 true)) (z1 (AV.l 8 0 0 0 1 true) (zl (AV.b (decide (e = (13 : Int))))) T.e)) (z1 (inv N) (zl (iv (KK i))) (zl (iv e)))) (z0 (z0 (zl (wv BL BB i)) (zl (AV.p 1 0))) (zl (AV.pv 5 (nvF KK KZ TT BL BB LN LM LB i))))) (z1 (rl 2 n0) (z1 (iv e) (z0 (zl (rl 5 n0)) (z1 (wr LN LM LB i) (zl (iv e)) T.e)) (zl (AV.b (decide (Int.ofNat i < Int.ofNat N))))) (z0 (z0 (z1 (rl 7 (addN n0 1)) (zl (AV.b (decide (e = (0 : Int))))) T.e) (z1 (wr LN LM LB i) T.e (zl (iv (Int.ofNat i + 1))))) (z1 (inv i) (z1 (kb KK i 1) (zl (AV.b false)) T.e) T.e)))) (z0 (z1 (AV.p 1 0) (z1 (rl 9 (LN i)) (z0 (zl (rl 2 n0)) (z1 (AV.p 3 4) (zl (AV.b !false == decide (e = (13 : Int)))) T.e)) (zl (iv (Int.ofNat i + 1)))) (z0 (z0 (z1 (AV.l 6 0 1 1 1 true) (zl (iv e)) T.e) (zl (AV.p 3 4))) (z1 (AV.agg [iv (KK i), iv (KZ i), AV.b (TT i), wv BL BB i, wr LN LM LB i]) (z0 (zl (AV.p 0 0)) T.e) T.e))) (z1 (inv i) (z0 (z0 (zl (AV.p 3 3)) (z1 (rl 9 (LN i)) (zl (AV.b !decide (e = (13 : Int)))) T.e)) (zl (inv i))) (z0 (z1 (AV.sv 5 N (nvF KK KZ TT BL BB LN LM LB)) (zl (AV.p 3 0)) (zl (rl 10 (LN i)))) (z1 (AV.b (decide ((200 : Int) < Int.ofNat i))) (z1 (kb KK i 1) (zl (iv e)) T.e) T.e))))) { tree := z1 (SS.o s) (z1 (JS.o j) (z1 (AObj.cells 40 5 [iv 0, iv 0, AV.b false, AV.l0, AV.l0] (z1 (iv (KK i)) (z1 (iv (KZ i)) (zl (wv BL BB i)) T.e) (z1 (AV.b (TT i)) (zl (wr LN LM LB i)) T.e))) (zl (AObj.rows 38 1 (addN n0 1) (appZ n0 (recF m0 b0) (listF 1 [CV.sv 1 (BL i) (byF (BB i))] 1)))) T.e) (z0 (zl (AObj.rows 38 1 (LN i) (recF (LM i) (LB i)))) T.e)) (z1 (AObj.rows 38 1 n0 (recF m0 b0)) (z0 (z0 T.e T.e) T.e) (z1 (AObj.cells 38 1 [] (zl (wv BL BB i))) (z0 T.e T.e) T.e)), next := 11, log := [10, 10, 9, 8, 8, 7, 5, 6, 5, 4, 4, 3, 3] }) Orc.z)) := by kernel_rfl
theorem nvR3_vc (s1 : SS) (j1 : JS) (s2 : SS) (j2 : JS) (c : Nat) (m2 : Nat → Nat) (b2 : Nat → Nat → Nat) (v : Bool) (K : Res → Orc → Prop) : nvRun s j n0 m0 b0 N i KK KZ TT BL BB LN LM LB (Orc.t (Orc.f (Orc.t (Orc.c (Orc.cal [] (rl 0 (LN i)) [Upd.set (AObj.rows 38 1 (LN i) (recF (LM i) (LB i)))] (Orc.cal [0, 1, 10] (iv (13 : Int)) [Upd.set (SS.o s1), Upd.set (JS.o j1), Upd.gone] (Orc.c (Orc.cal [0] (AV.b true) [Upd.keep] (Orc.c (Orc.c (Orc.cal [0] (iv 0) [Upd.set (SS.o s2)] (Orc.c (Orc.cal [0] (AV.tup [AV.p 1 0, AV.sv 1 c (recF m2 b2), iv 0]) [Upd.keep, Upd.set (JS.o j2)] (Orc.c (Orc.c (Orc.c (Orc.c (Orc.c (Orc.c (Orc.cal [2] (AV.b v) [Upd.keep] (Orc.c (Orc.c (Orc.f (Orc.f (Orc.f (Orc.f (Orc.c (Orc.f (Orc.c (Orc.c (Orc.cal [] (rl 0 c) [Upd.set (AObj.rows 38 1 c (recF m2 b2))] Orc.z))))))))))))))))))))))))))))))) K = nvPre n0 N i (decide (KK i = (1 : Int)) = true ∧ True ∧ (True ∧ True ∧ 0 + LN i ≤ 140737488355328 ∧ (3 * (0 + LN i) + 1536) * 24 ≤ 562949953421312) ∧ True ∧ CT 15 [wr LN LM LB i] [] (rl 0 (LN i)) [Upd.set (AObj.rows 38 1 (LN i) (recF (LM i) (LB i)))] ∧ CT 14 [AV.p 1 0, rl 2 (LN i)] [some (SS.o s), some (JS.o j), some (AObj.rows 38 1 (LN i) (recF (LM i) (LB i)))] (iv (13 : Int)) [Upd.set (SS.o s1), Upd.set (JS.o j1), Upd.gone] ∧ CT 32 [AV.p 0 0] [some (SS.o s1)] (AV.b true) [Upd.keep] ∧ True ∧ True ∧ True ∧ CT 21 [AV.p 0 0, iv (KZ i), AV.b (TT i)] [some (SS.o s1)] (iv 0) [Upd.set (SS.o s2)] ∧ CT 10 [AV.p 0 0] [some (SS.o s2)] (AV.tup [AV.p 1 0, AV.sv 1 c (recF m2 b2), iv 0]) [Upd.keep, Upd.set (JS.o j2)] ∧ True ∧ CT 23 [AV.sv 1 c (recF m2 b2), rl 0 n0] [some (AObj.rows 38 1 n0 (recF m0 b0))] (AV.b v) [Upd.keep] ∧ True ∧ (!v) = false ∧ (!v) = false ∧ (!v) = false ∧ (!v) = false ∧ (!v) = false ∧ CT 15 [AV.sv 1 c (recF m2 b2)] [] (rl 0 c) [Upd.set (AObj.rows 38 1 c (recF m2 b2))] ∧ rg (Int.ofNat i + 1) ∧ K (Res.st XO.nrm (z0 (z0 (z1 (AV.p 0 0) (z1 (AV.p 3 0) (z0 (z1 (AV.l 4 0 0 0 1 true) T.e (zl (iv 0))) (z1 (AV.l 8 0 0 0 1 true) (zl (AV.b true)) (zl (AV.tup [])))) (z1 (inv N) (z1 (iv (KK i)) T.e (zl (AV.sv 1 c (recF m2 b2)))) (z1 (iv (13 : Int)) (zl (AV.b (TT i))) T.e))) (z1 (AV.sv 1 c (recF m2 b2)) (z0 (z1 (wv BL BB i) T.e (zl (AV.p 11 0))) (z1 (AV.p 1 0) (zl (AV.p 0 0)) (zl (AV.sv 1 c (recF m2 b2))))) (z1 (AV.pv 5 (nvF KK KZ TT BL BB LN LM LB i)) (z0 T.e (zl (AV.b !v))) (z0 (zl (AV.p 0 0)) T.e)))) (z1 (rl 12 c) (z1 (iv (13 : Int)) (z0 (z1 (rl 5 n0) T.e (zl (AV.b false))) (z1 (wr LN LM LB i) (zl (iv (13 : Int))) (zl (AV.b false)))) (z1 (AV.b (decide (Int.ofNat i < Int.ofNat N))) (z0 T.e (zl (AV.b v))) (z0 (zl (AV.b false)) T.e))) (z0 (z0 (z1 (rl 7 (addN n0 1)) (zl (AV.b false)) (zl (AV.b false))) (z1 (wr LN LM LB i) (zl (iv (KZ i))) (zl (iv (Int.ofNat i + 1))))) (z1 (inv i) (z1 (kb KK i 1) (zl (AV.b true)) (zl (AV.tup []))) (z0 (zl (AV.p 11 0)) T.e))))) (z0 (z1 (AV.p 11 0) (z1 (rl 9 (LN i)) (z0 (z1 (rl 2 n0) T.e (zl (iv 0))) (z1 (AV.p 3 4) (zl (AV.b false)) (zl (AV.b false)))) (z1 (iv (Int.ofNat i + 1)) (z0 T.e (zl (rl 2 n0))) (z0 (zl (iv 0)) T.e))) (z1 (iv 0) (z0 (z1 (AV.l 6 0 1 1 1 true) (zl (iv (13 : Int))) (zl (AV.b false))) (z1 (AV.p 3 4) (zl (AV.p 3 1)) (zl (rl 12 c)))) (z1 (AV.agg [iv (KK i), iv (KZ i), AV.b (TT i), wv BL BB i, wr LN LM LB i]) (z0 (zl (AV.p 0 0)) (zl (AV.tup []))) (z0 (zl (AV.tup [AV.p 11 0, AV.sv 1 c (recF m2 b2), iv 0])) T.e)))) (z1 (inv i) (z1 (AV.p 11 0) (z0 (z1 (AV.p 3 3) T.e (zl (AV.b false))) (z1 (rl 9 (LN i)) (zl (AV.b false)) (zl (AV.p 11 0)))) (z1 (inv i) (z0 T.e (zl (AV.b !v))) (z0 (zl (AV.tup [AV.p 11 0, AV.sv 1 c (recF m2 b2), iv 0])) T.e))) (z0 (z1 (AV.sv 5 N (nvF KK KZ TT BL BB LN LM LB)) (z1 (AV.p 3 0) T.e (zl (AV.b false))) (z1 (rl 10 (LN i)) (zl (AV.p 3 2)) T.e)) (z1 (AV.b (decide ((200 : Int) < Int.ofNat i))) (z1 (kb KK i 1) (zl (iv (13 : Int))) (zl (AV.tup []))) (z0 (zl (AV.sv 1 c (recF m2 b2))) T.e)))))) { tree := z1 (SS.o s2) (z1 (JS.o j1) (z1 (AObj.cells 40 5 [iv 0, iv 0, AV.b false, AV.l0, AV.l0] (z1 (iv (KK i)) (z1 (iv (KZ i)) (zl (wv BL BB i)) T.e) (z1 (AV.b (TT i)) (zl (wr LN LM LB i)) T.e))) (zl (AObj.rows 38 1 (addN n0 1) (appZ n0 (recF m0 b0) (listF 1 [CV.sv 1 (BL i) (byF (BB i))] 1)))) (zl (JS.o j2))) (z0 (zl (AObj.rows 38 1 (LN i) (recF (LM i) (LB i)))) T.e)) (z1 (AObj.rows 38 1 n0 (recF m0 b0)) (z0 (z0 T.e T.e) (zl (AObj.rows 38 1 c (recF m2 b2)))) (z1 (AObj.cells 38 1 [] (zl (wv BL BB i))) (z0 T.e T.e) T.e)), next := 13, log := [12, 11, 0, 10, 1, 0, 10, 9, 8, 8, 7, 5, 6, 5, 4, 4, 3, 3] }) Orc.z) := by kernel_rfl
theorem nvR4_vc (s1 : SS) (j1 : JS) (s2 : SS) (j2 : JS) (c : Nat) (m2 : Nat → Nat) (b2 : Nat → Nat → Nat) (v : Bool) (mT : Nat → Nat) (bT : Nat → Nat → Nat) (K : Res → Orc → Prop) : nvRun s j n0 m0 b0 N i KK KZ TT BL BB LN LM LB (Orc.t (Orc.f (Orc.t (Orc.c (Orc.cal [] (rl 0 (LN i)) [Upd.set (AObj.rows 38 1 (LN i) (recF (LM i) (LB i)))] (Orc.cal [0, 1, 10] (iv (13 : Int)) [Upd.set (SS.o s1), Upd.set (JS.o j1), Upd.gone] (Orc.c (Orc.cal [0] (AV.b true) [Upd.keep] (Orc.c (Orc.c (Orc.cal [0] (iv 0) [Upd.set (SS.o s2)] (Orc.c (Orc.cal [0] (AV.tup [AV.p 1 0, AV.sv 1 c (recF m2 b2), iv 0]) [Upd.keep, Upd.set (JS.o j2)] (Orc.c (Orc.c (Orc.c (Orc.c (Orc.c (Orc.c (Orc.cal [2] (AV.b v) [Upd.keep] (Orc.c (Orc.c (Orc.t (Orc.t (Orc.t (Orc.cal [9] (AV.b true) [Upd.set (AObj.rows 38 1 (LN i) (recF mT bT))] (Orc.t (Orc.c (Orc.t (Orc.c (Orc.c (Orc.cal [] (rl 0 c) [Upd.set (AObj.rows 38 1 c (recF m2 b2))] Orc.z)))))))))))))))))))))))))))))))) K = nvPre n0 N i (decide (KK i = (1 : Int)) = true ∧ True ∧ (True ∧ True ∧ 0 + LN i ≤ 140737488355328 ∧ (3 * (0 + LN i) + 1536) * 24 ≤ 562949953421312) ∧ True ∧ CT 15 [wr LN LM LB i] [] (rl 0 (LN i)) [Upd.set (AObj.rows 38 1 (LN i) (recF (LM i) (LB i)))] ∧ CT 14 [AV.p 1 0, rl 2 (LN i)] [some (SS.o s), some (JS.o j), some (AObj.rows 38 1 (LN i) (recF (LM i) (LB i)))] (iv (13 : Int)) [Upd.set (SS.o s1), Upd.set (JS.o j1), Upd.gone] ∧ CT 32 [AV.p 0 0] [some (SS.o s1)] (AV.b true) [Upd.keep] ∧ True ∧ True ∧ True ∧ CT 21 [AV.p 0 0, iv (KZ i), AV.b (TT i)] [some (SS.o s1)] (iv 0) [Upd.set (SS.o s2)] ∧ CT 10 [AV.p 0 0] [some (SS.o s2)] (AV.tup [AV.p 1 0, AV.sv 1 c (recF m2 b2), iv 0]) [Upd.keep, Upd.set (JS.o j2)] ∧ True ∧ CT 23 [AV.sv 1 c (recF m2 b2), rl 0 n0] [some (AObj.rows 38 1 n0 (recF m0 b0))] (AV.b v) [Upd.keep] ∧ True ∧ (!v) = true ∧ (!v) = true ∧ (!v) = true ∧ CT 23 [AV.sv 1 c (recF m2 b2), rl 0 (LN i)] [some (AObj.rows 38 1 (LN i) (recF (LM i) (LB i)))] (AV.b true) [Upd.set (AObj.rows 38 1 (LN i) (recF mT bT))] ∧ (!v) = true ∧ True ∧ (!v) = true ∧ CT 15 [AV.sv 1 c (recF m2 b2)] [] (rl 0 c) [Upd.set (AObj.rows 38 1 c (recF m2 b2))] ∧ rg (Int.ofNat i + 1) ∧ K (Res.st XO.nrm (z0 (z0 (z1 (AV.p 0 0) (z1 (AV.p 3 0) (z0 (z1 (AV.l 4 0 0 0 1 true) T.e (zl (iv 0))) (z1 (AV.l 8 0 0 0 1 true) (zl (AV.b true)) (zl (AV.b false)))) (z1 (inv N) (z1 (iv (KK i)) T.e (zl (AV.sv 1 c (recF m2 b2)))) (z1 (iv (13 : Int)) (zl (AV.b (TT i))) T.e))) (z1 (AV.sv 1 c (recF m2 b2)) (z0 (z1 (wv BL BB i) T.e (zl (AV.p 11 0))) (z1 (AV.p 1 0) (zl (AV.p 0 0)) (zl (AV.sv 1 c (recF m2 b2))))) (z1 (AV.pv 5 (nvF KK KZ TT BL BB LN LM LB i)) (z0 T.e (zl (AV.b !v))) (z0 (zl (AV.p 0 0)) T.e)))) (z1 (rl 12 c) (z1 (iv (13 : Int)) (z0 (z1 (rl 5 n0) T.e (zl (AV.b false))) (z1 (wr LN LM LB i) (zl (iv (13 : Int))) (zl (AV.b false)))) (z1 (AV.b (decide (Int.ofNat i < Int.ofNat N))) (z0 T.e (zl (AV.b v))) (z0 (zl (AV.b false)) T.e))) (z0 (z0 (z1 (rl 7 (addN n0 1)) (zl (AV.b false)) (zl (AV.b false))) (z1 (wr LN LM LB i) (zl (iv (KZ i))) (zl (iv (Int.ofNat i + 1))))) (z1 (inv i) (z1 (kb KK i 1) (zl (AV.b true)) (zl (rl 9 (LN i)))) (z0 (zl (AV.p 11 0)) T.e))))) (z0 (z1 (AV.p 11 0) (z1 (rl 9 (LN i)) (z0 (z1 (rl 2 n0) T.e (zl (iv 0))) (z1 (AV.p 3 4) (zl (AV.b false)) (zl (AV.b false)))) (z1 (iv (Int.ofNat i + 1)) (z0 T.e (zl (rl 2 n0))) (z0 (zl (iv 0)) T.e))) (z1 (iv 0) (z0 (z1 (AV.l 6 0 1 1 1 true) (zl (iv (13 : Int))) (zl (AV.b false))) (z1 (AV.p 3 4) (zl (AV.p 3 1)) (zl (rl 12 c)))) (z1 (AV.agg [iv (KK i), iv (KZ i), AV.b (TT i), wv BL BB i, wr LN LM LB i]) (z0 (zl (AV.p 0 0)) (zl (AV.sv 1 c (recF m2 b2)))) (z0 (zl (AV.tup [AV.p 11 0, AV.sv 1 c (recF m2 b2), iv 0])) T.e)))) (z1 (inv i) (z1 (AV.p 11 0) (z0 (z1 (AV.p 3 3) T.e (zl (AV.b false))) (z1 (rl 9 (LN i)) (zl (AV.b false)) (zl (AV.p 11 0)))) (z1 (inv i) (z0 T.e (zl (AV.b !v))) (z0 (zl (AV.tup [AV.p 11 0, AV.sv 1 c (recF m2 b2), iv 0])) T.e))) (z0 (z1 (AV.sv 5 N (nvF KK KZ TT BL BB LN LM LB)) (z1 (AV.p 3 0) T.e (zl (AV.b false))) (z1 (rl 10 (LN i)) (zl (AV.p 3 2)) T.e)) (z1 (AV.b (decide ((200 : Int) < Int.ofNat i))) (z1 (kb KK i 1) (zl (iv (13 : Int))) (zl (AV.b true))) (z0 (zl (AV.sv 1 c (recF m2 b2))) T.e)))))) { tree := z1 (SS.o s2) (z1 (JS.o j1) (z1 (AObj.cells 40 5 [iv 0, iv 0, AV.b false, AV.l0, AV.l0] (z1 (iv (KK i)) (z1 (iv (KZ i)) (zl (wv BL BB i)) T.e) (z1 (AV.b (TT i)) (zl (wr LN LM LB i)) T.e))) (zl (AObj.rows 38 1 (addN n0 1) (appZ n0 (recF m0 b0) (listF 1 [CV.sv 1 (BL i) (byF (BB i))] 1)))) (zl (JS.o j2))) (z0 (zl (AObj.rows 38 1 (LN i) (recF mT bT))) T.e)) (z1 (AObj.rows 38 1 n0 (recF m0 b0)) (z0 (z0 T.e T.e) (zl (AObj.rows 38 1 c (recF m2 b2)))) (z1 (AObj.cells 38 1 [] (zl (wv BL BB i))) (z0 T.e T.e) T.e)), next := 13, log := [12, 9, 11, 0, 10, 1, 0, 10, 9, 8, 8, 7, 5, 6, 5, 4, 4, 3, 3] }) Orc.z) := by kernel_rfl
theorem nvA_vc (s1 : SS) (K : Res → Orc → Prop) : nvRun s j n0 m0 b0 N i KK KZ TT BL BB LN LM LB (Orc.t (Orc.f (Orc.f (Orc.t (Orc.cal [0] (AV.tup []) [Upd.set (SS.o s1)] Orc.z))))) K = nvPre n0 N i (decide (KK i = (1 : Int)) = false ∧ decide (KK i = (2 : Int)) = true ∧ True ∧ CT 17 [AV.p 0 0, iv (KZ i)] [some (SS.o s)] (AV.tup []) [Upd.set (SS.o s1)] ∧ rg (Int.ofNat i + 1) ∧ K (Res.st XO.nrm (z0 (z0 (z1 (AV.p 0 0) (z1 (AV.p 3 0) (z0 (zl (AV.l 4 0 0 0 1 true)) T.e) (z1 (inv N) (zl (iv (KK i))) T.e)) (z0 (z0 (zl (wv BL BB i)) T.e) (z1 (AV.pv 5 (nvF KK KZ TT BL BB LN LM LB i)) T.e (zl (AV.p 3 1))))) (z1 (rl 2 n0) (z1 (iv 0) (z0 (zl (rl 5 n0)) T.e) (z1 (AV.b (decide (Int.ofNat i < Int.ofNat N))) T.e (zl (kb KK i 2)))) (z0 (z0 (zl (rl 7 (addN n0 1))) (z0 T.e (zl (iv (Int.ofNat i + 1))))) (z1 (inv i) (zl (kb KK i 1)) (zl (AV.tup [])))))) (z0 (z1 (AV.p 1 0) (z1 (rl 7 (addN n0 1)) (z0 (zl (rl 2 n0)) T.e) (z1 (iv (Int.ofNat i + 1)) T.e (zl (kb KK i 2)))) (z0 (z0 (zl (AV.l 6 0 1 1 1 true)) T.e) (z1 (AV.agg [iv (KK i), iv (KZ i), AV.b (TT i), wv BL BB i, wr LN LM LB i]) T.e (zl (iv (KZ i)))))) (z1 (inv i) (z0 (z0 (zl (AV.p 3 3)) T.e) (z1 (inv i) T.e (zl (AV.p 0 0)))) (z0 (z1 (AV.sv 5 N (nvF KK KZ TT BL BB LN LM LB)) (zl (AV.p 3 0)) T.e) (z1 (AV.b (decide ((200 : Int) < Int.ofNat i))) (zl (kb KK i 1)) T.e))))) { tree := z1 (SS.o s1) (z1 (JS.o j) (z1 (AObj.cells 40 5 [iv 0, iv 0, AV.b false, AV.l0, AV.l0] (z1 (iv (KK i)) (z1 (iv (KZ i)) (zl (wv BL BB i)) T.e) (z1 (AV.b (TT i)) (zl (wr LN LM LB i)) T.e))) (zl (AObj.rows 38 1 (addN n0 1) (appZ n0 (recF m0 b0) (listF 1 [CV.sv 1 (BL i) (byF (BB i))] 1)))) T.e) (z0 T.e T.e)) (z1 (AObj.rows 38 1 n0 (recF m0 b0)) (z0 T.e T.e) (zl (AObj.cells 38 1 [] (zl (wv BL BB i))))), next := 8, log := [0, 7, 5, 6, 5, 4, 4, 3, 3] }) Orc.z) := by kernel_rfl
theorem nvF3_vc (s1 : SS) (s2 : SS) (j2 : JS) (c : Nat) (m2 : Nat → Nat) (b2 : Nat → Nat → Nat) (v : Bool) (K : Res → Orc → Prop) : nvRun s j n0 m0 b0 N i KK KZ TT BL BB LN LM LB (Orc.t (Orc.f (Orc.f (Orc.f (Orc.t (Orc.t (Orc.cal [0] (AV.tup []) [Upd.set (SS.o s1)] (Orc.c (Orc.cal [0] (AV.b true) [Upd.keep] (Orc.c (Orc.c (Orc.cal [0] (iv 0) [Upd.set (SS.o s2)] (Orc.c (Orc.cal [0] (AV.tup [AV.p 1 0, AV.sv 1 c (recF m2 b2), iv 0]) [Upd.keep, Upd.set (JS.o j2)] (Orc.c (Orc.c (Orc.c (Orc.c (Orc.c (Orc.c (Orc.cal [2] (AV.b v) [Upd.keep] (Orc.c (Orc.c (Orc.f (Orc.f (Orc.f (Orc.f (Orc.c (Orc.f (Orc.c (Orc.c (Orc.cal [] (rl 0 c) [Upd.set (AObj.rows 38 1 c (recF m2 b2))] Orc.z)))))))))))))))))))))))))))))))) K = nvPre n0 N i (decide (KK i = (1 : Int)) = false ∧ decide (KK i = (2 : Int)) = false ∧ decide (KK i = (3 : Int)) = true ∧ decide (KK i = (3 : Int)) = true ∧ CT 19 [AV.p 0 0] [some (SS.o s)] (AV.tup []) [Upd.set (SS.o s1)] ∧ CT 32 [AV.p 0 0] [some (SS.o s1)] (AV.b true) [Upd.keep] ∧ True ∧ True ∧ True ∧ CT 21 [AV.p 0 0, iv (KZ i), AV.b (TT i)] [some (SS.o s1)] (iv 0) [Upd.set (SS.o s2)] ∧ CT 10 [AV.p 0 0] [some (SS.o s2)] (AV.tup [AV.p 1 0, AV.sv 1 c (recF m2 b2), iv 0]) [Upd.keep, Upd.set (JS.o j2)] ∧ True ∧ CT 23 [AV.sv 1 c (recF m2 b2), rl 0 n0] [some (AObj.rows 38 1 n0 (recF m0 b0))] (AV.b v) [Upd.keep] ∧ True ∧ (!v) = false ∧ (!v) = false ∧ (!v) = false ∧ (!v) = false ∧ (!v) = false ∧ CT 15 [AV.sv 1 c (recF m2 b2)] [] (rl 0 c) [Upd.set (AObj.rows 38 1 c (recF m2 b2))] ∧ rg (Int.ofNat i + 1) ∧ K (Res.st XO.nrm (z0 (z0 (z1 (AV.p 0 0) (z1 (AV.p 3 0) (z0 (z1 (AV.l 4 0 0 0 1 true) (zl (kb KK i 3)) (zl (iv 0))) (z0 (zl (AV.b true)) (zl (AV.tup [])))) (z1 (inv N) (z1 (iv (KK i)) T.e (zl (AV.sv 1 c (recF m2 b2)))) (z0 (zl (AV.b (TT i))) T.e))) (z1 (AV.sv 1 c (recF m2 b2)) (z0 (z1 (wv BL BB i) (zl (rl 2 n0)) (zl (AV.p 8 0))) (z0 (zl (AV.p 0 0)) (zl (AV.sv 1 c (recF m2 b2))))) (z1 (AV.pv 5 (nvF KK KZ TT BL BB LN LM LB i)) (z0 T.e (zl (AV.b !v))) (z0 (zl (AV.p 0 0)) T.e)))) (z1 (rl 9 c) (z1 (iv (13 : Int)) (z0 (z1 (rl 5 n0) (zl (AV.p 0 0)) (zl (AV.b false))) (z0 (zl (iv (13 : Int))) (zl (AV.b false)))) (z1 (AV.b (decide (Int.ofNat i < Int.ofNat N))) (z0 T.e (zl (AV.b v))) (z1 (kb KK i 2) (zl (AV.b false)) T.e))) (z0 (z0 (z1 (rl 7 (addN n0 1)) (zl (AV.b false)) (zl (AV.b false))) (z0 (zl (iv (KZ i))) (zl (iv (Int.ofNat i + 1))))) (z1 (inv i) (z1 (kb KK i 1) (zl (AV.b true)) (zl (AV.tup []))) (z0 (zl (AV.p 8 0)) T.e))))) (z0 (z1 (AV.p 8 0) (z1 (rl 2 n0) (z0 (z1 (rl 2 n0) T.e (zl (iv 0))) (z0 (zl (AV.b false)) (zl (AV.b false)))) (z1 (iv (Int.ofNat i + 1)) (z0 T.e (zl (rl 2 n0))) (z1 (kb KK i 2) (zl (iv 0)) T.e))) (z1 (iv 0) (z0 (z1 (AV.l 6 0 1 1 1 true) (zl (iv (13 : Int))) (zl (AV.b false))) (z0 (zl (AV.p 3 1)) (zl (rl 9 c)))) (z1 (AV.agg [iv (KK i), iv (KZ i), AV.b (TT i), wv BL BB i, wr LN LM LB i]) (z0 (zl (AV.p 0 0)) (zl (AV.tup []))) (z0 (zl (AV.tup [AV.p 8 0, AV.sv 1 c (recF m2 b2), iv 0])) T.e)))) (z1 (inv i) (z1 (AV.p 8 0) (z0 (z1 (AV.p 3 3) (zl (AV.tup [])) (zl (AV.b false))) (z0 (zl (AV.b false)) (zl (AV.p 8 0)))) (z1 (inv i) (z0 T.e (zl (AV.b !v))) (z0 (zl (AV.tup [AV.p 8 0, AV.sv 1 c (recF m2 b2), iv 0])) T.e))) (z0 (z1 (AV.sv 5 N (nvF KK KZ TT BL BB LN LM LB)) (z1 (AV.p 3 0) T.e (zl (AV.b false))) (z0 (zl (AV.p 3 2)) T.e)) (z1 (AV.b (decide ((200 : Int) < Int.ofNat i))) (z1 (kb KK i 1) (zl (iv (13 : Int))) (zl (AV.tup []))) (z1 (kb KK i 3) (zl (AV.sv 1 c (recF m2 b2))) T.e)))))) { tree := z1 (SS.o s2) (z1 (JS.o j) (z1 (AObj.cells 40 5 [iv 0, iv 0, AV.b false, AV.l0, AV.l0] (z1 (iv (KK i)) (z1 (iv (KZ i)) (zl (wv BL BB i)) T.e) (z1 (AV.b (TT i)) (zl (wr LN LM LB i)) T.e))) (zl (AObj.rows 38 1 (addN n0 1) (appZ n0 (recF m0 b0) (listF 1 [CV.sv 1 (BL i) (byF (BB i))] 1)))) T.e) (z0 (zl (AObj.rows 38 1 c (recF m2 b2))) T.e)) (z1 (AObj.rows 38 1 n0 (recF m0 b0)) (z0 (zl (JS.o j2)) T.e) (zl (AObj.cells 38 1 [] (zl (wv BL BB i))))), next := 10, log := [9, 8, 0, 0, 7, 5, 6, 5, 4, 4, 3, 3] }) Orc.z) := by kernel_rfl
theorem nvF4_vc (s1 : SS) (s2 : SS) (j2 : JS) (c : Nat) (m2 : Nat → Nat) (b2 : Nat → Nat → Nat) (v : Bool) (K : Res → Orc → Prop) : nvRun s j n0 m0 b0 N i KK KZ TT BL BB LN LM LB (Orc.t (Orc.f (Orc.f (Orc.f (Orc.f (Orc.t (Orc.cal [0] (AV.tup []) [Upd.set (SS.o s1)] (Orc.c (Orc.cal [0] (AV.b true) [Upd.keep] (Orc.c (Orc.c (Orc.cal [0] (iv 0) [Upd.set (SS.o s2)] (Orc.c (Orc.cal [0] (AV.tup [AV.p 1 0, AV.sv 1 c (recF m2 b2), iv 0]) [Upd.keep, Upd.set (JS.o j2)] (Orc.c (Orc.c (Orc.c (Orc.c (Orc.c (Orc.c (Orc.cal [2] (AV.b v) [Upd.keep] (Orc.c (Orc.c (Orc.f (Orc.f (Orc.f (Orc.f (Orc.c (Orc.f (Orc.c (Orc.c (Orc.cal [] (rl 0 c) [Upd.set (AObj.rows 38 1 c (recF m2 b2))] Orc.z)))))))))))))))))))))))))))))))) K = nvPre n0 N i (decide (KK i = (1 : Int)) = false ∧ decide (KK i = (2 : Int)) = false ∧ decide (KK i = (3 : Int)) = false ∧ decide (KK i = (4 : Int)) = true ∧ CT 19 [AV.p 0 0] [some (SS.o s)] (AV.tup []) [Upd.set (SS.o s1)] ∧ CT 32 [AV.p 0 0] [some (SS.o s1)] (AV.b true) [Upd.keep] ∧ True ∧ True ∧ True ∧ CT 21 [AV.p 0 0, iv (KZ i), AV.b (TT i)] [some (SS.o s1)] (iv 0) [Upd.set (SS.o s2)] ∧ CT 10 [AV.p 0 0] [some (SS.o s2)] (AV.tup [AV.p 1 0, AV.sv 1 c (recF m2 b2), iv 0]) [Upd.keep, Upd.set (JS.o j2)] ∧ True ∧ CT 23 [AV.sv 1 c (recF m2 b2), rl 0 n0] [some (AObj.rows 38 1 n0 (recF m0 b0))] (AV.b v) [Upd.keep] ∧ True ∧ (!v) = false ∧ (!v) = false ∧ (!v) = false ∧ (!v) = false ∧ (!v) = false ∧ CT 15 [AV.sv 1 c (recF m2 b2)] [] (rl 0 c) [Upd.set (AObj.rows 38 1 c (recF m2 b2))] ∧ rg (Int.ofNat i + 1) ∧ K (Res.st XO.nrm (z0 (z0 (z1 (AV.p 0 0) (z1 (AV.p 3 0) (z0 (z1 (AV.l 4 0 0 0 1 true) (zl (kb KK i 3)) (zl (iv 0))) (z0 (zl (AV.b true)) (zl (AV.tup [])))) (z1 (inv N) (z1 (iv (KK i)) T.e (zl (AV.sv 1 c (recF m2 b2)))) (z0 (zl (AV.b (TT i))) T.e))) (z1 (AV.sv 1 c (recF m2 b2)) (z0 (z1 (wv BL BB i) (zl (rl 2 n0)) (zl (AV.p 8 0))) (z0 (zl (AV.p 0 0)) (zl (AV.sv 1 c (recF m2 b2))))) (z1 (AV.pv 5 (nvF KK KZ TT BL BB LN LM LB i)) (z0 T.e (zl (AV.b !v))) (z0 (zl (AV.p 0 0)) T.e)))) (z1 (rl 9 c) (z1 (iv (13 : Int)) (z0 (z1 (rl 5 n0) (zl (AV.p 0 0)) (zl (AV.b false))) (z0 (zl (iv (13 : Int))) (zl (AV.b false)))) (z1 (AV.b (decide (Int.ofNat i < Int.ofNat N))) (z0 T.e (zl (AV.b v))) (z1 (kb KK i 2) (zl (AV.b false)) T.e))) (z0 (z0 (z1 (rl 7 (addN n0 1)) (zl (AV.b false)) (zl (AV.b false))) (z0 (zl (iv (KZ i))) (zl (iv (Int.ofNat i + 1))))) (z1 (inv i) (z1 (kb KK i 1) (zl (AV.b true)) (zl (AV.tup []))) (z0 (zl (AV.p 8 0)) T.e))))) (z0 (z1 (AV.p 8 0) (z1 (rl 2 n0) (z0 (z1 (rl 2 n0) (zl (kb KK i 4)) (zl (iv 0))) (z0 (zl (AV.b false)) (zl (AV.b false)))) (z1 (iv (Int.ofNat i + 1)) (z0 T.e (zl (rl 2 n0))) (z1 (kb KK i 2) (zl (iv 0)) T.e))) (z1 (iv 0) (z0 (z1 (AV.l 6 0 1 1 1 true) (zl (iv (13 : Int))) (zl (AV.b false))) (z0 (zl (AV.p 3 1)) (zl (rl 9 c)))) (z1 (AV.agg [iv (KK i), iv (KZ i), AV.b (TT i), wv BL BB i, wr LN LM LB i]) (z0 (zl (AV.p 0 0)) (zl (AV.tup []))) (z0 (zl (AV.tup [AV.p 8 0, AV.sv 1 c (recF m2 b2), iv 0])) T.e)))) (z1 (inv i) (z1 (AV.p 8 0) (z0 (z1 (AV.p 3 3) (zl (AV.tup [])) (zl (AV.b false))) (z0 (zl (AV.b false)) (zl (AV.p 8 0)))) (z1 (inv i) (z0 T.e (zl (AV.b !v))) (z0 (zl (AV.tup [AV.p 8 0, AV.sv 1 c (recF m2 b2), iv 0])) T.e))) (z0 (z1 (AV.sv 5 N (nvF KK KZ TT BL BB LN LM LB)) (z1 (AV.p 3 0) T.e (zl (AV.b false))) (z0 (zl (AV.p 3 2)) T.e)) (z1 (AV.b (decide ((200 : Int) < Int.ofNat i))) (z1 (kb KK i 1) (zl (iv (13 : Int))) (zl (AV.tup []))) (z1 (kb KK i 4) (zl (AV.sv 1 c (recF m2 b2))) T.e)))))) { tree := z1 (SS.o s2) (z1 (JS.o j) (z1 (AObj.cells 40 5 [iv 0, iv 0, AV.b false, AV.l0, AV.l0] (z1 (iv (KK i)) (z1 (iv (KZ i)) (zl (wv BL BB i)) T.e) (z1 (AV.b (TT i)) (zl (wr LN LM LB i)) T.e))) (zl (AObj.rows 38 1 (addN n0 1) (appZ n0 (recF m0 b0) (listF 1 [CV.sv 1 (BL i) (byF (BB i))] 1)))) T.e) (z0 (zl (AObj.rows 38 1 c (recF m2 b2))) T.e)) (z1 (AObj.rows 38 1 n0 (recF m0 b0)) (z0 (zl (JS.o j2)) T.e) (zl (AObj.cells 38 1 [] (zl (wv BL BB i))))), next := 10, log := [9, 8, 0, 0, 7, 5, 6, 5, 4, 4, 3, 3] }) Orc.z) := by kernel_rfl
theorem nvX_vc  (K : Res → Orc → Prop) : nvRun s j n0 m0 b0 N i KK KZ TT BL BB LN LM LB (Orc.t (Orc.t Orc.z)) K = (decide (Int.ofNat i < Int.ofNat N) = true ∧ ((0 : Int) ≤ Int.ofNat i ∧ Int.ofNat i < ↑N) ∧ True ∧ decide ((200 : Int) < Int.ofNat i) = true ∧ K (Res.st (XO.exit 0) (z0 (z0 (z1 (AV.p 0 0) (z1 (AV.p 3 0) T.e (zl (inv N))) (z0 T.e (zl (AV.pv 5 (nvF KK KZ TT BL BB LN LM LB i))))) (z1 (rl 2 n0) (z0 T.e (zl (AV.b (decide (Int.ofNat i < Int.ofNat N))))) (z0 T.e (zl (inv i))))) (z0 (z1 (AV.p 1 0) (z0 T.e (zl (inv i))) (z0 T.e (zl (AV.agg [iv (KK i), iv (KZ i), AV.b (TT i), wv BL BB i, wr LN LM LB i])))) (z1 (inv i) (z0 T.e (zl (inv i))) (z0 (zl (AV.sv 5 N (nvF KK KZ TT BL BB LN LM LB))) (zl (AV.b (decide ((200 : Int) < Int.ofNat i)))))))) { tree := z1 (SS.o s) (z1 (JS.o j) (zl (AObj.cells 40 5 [iv 0, iv 0, AV.b false, AV.l0, AV.l0] (z1 (iv (KK i)) (z1 (iv (KZ i)) (zl (wv BL BB i)) T.e) (z1 (AV.b (TT i)) (zl (wr LN LM LB i)) T.e)))) T.e) (zl (AObj.rows 38 1 n0 (recF m0 b0))), next := 4, log := [3, 3] }) Orc.z) := by kernel_rfl
theorem nvY_vc  (K : Res → Orc → Prop) : nvRun s j n0 m0 b0 N i KK KZ TT BL BB LN LM LB (Orc.f Orc.z) K = (decide (Int.ofNat i < Int.ofNat N) = false ∧ K (Res.st (XO.exit 0) (z0 (z0 (z1 (AV.p 0 0) (z0 T.e (zl (inv N))) T.e) (z1 (rl 2 n0) (z0 T.e (zl (AV.b (decide (Int.ofNat i < Int.ofNat N))))) T.e)) (z0 (z1 (AV.p 1 0) (z0 T.e (zl (inv i))) T.e) (z0 T.e (z0 (zl (AV.sv 5 N (nvF KK KZ TT BL BB LN LM LB))) T.e)))) { tree := z1 (SS.o s) (zl (JS.o j)) (zl (AObj.rows 38 1 n0 (recF m0 b0))), next := 3, log := [] }) Orc.z) := by kernel_rfl
theorem nvM_vc (s : SS) (s1 : SS) (s2 : SS) (j2 : JS) (c : Nat) (m2 : Nat → Nat) (b2 : Nat → Nat → Nat) (mT : Nat → Nat) (bT : Nat → Nat → Nat) (s0 : SS) (j0 : JS) (nz : Nat) (mz : Nat → Nat) (bz : Nat → Nat → Nat) (N : Nat) (KK KZ : Nat → Int) (TT : Nat → Bool) (BL : Nat → Nat) (BB : Nat → Nat → Nat) (LN : Nat → Nat) (LM : Nat → Nat → Nat) (LB : Nat → Nat → Nat → Nat) (K : Res → Orc → Prop) : runK Tryd.prog 1000000 (.call 6 [.sv 5 N (nvF KK KZ TT BL BB LN LM LB)] (mkH [])) (Orc.cal [] (AV.b true) [] (Orc.c (Orc.cal [] (AV.tup [AV.p 0 0, AV.p 1 0]) [Upd.set (SS.o s0), Upd.set (JS.o j0)] (Orc.lop [0, 1] [3, 4, 5, 22, 23, 24] 1 (XO.exit 0) [(3, AV.p 0 0), (5, rl 2 nz)] [some (SS.o s), none, some (AObj.rows 38 1 nz (recF mz bz))] (Orc.cal [0] (AV.tup []) [Upd.set (SS.o s1)] (Orc.cal [0] (iv 0) [Upd.set (SS.o s2)] (Orc.cal [0] (AV.tup [AV.p 1 0, AV.sv 1 c (recF m2 b2), iv 0]) [Upd.keep, Upd.set (JS.o j2)] (Orc.c (Orc.c (Orc.c (Orc.cal [3] (AV.b true) [Upd.set (AObj.rows 38 1 nz (recF mT bT))] (Orc.c Orc.z)))))))))))) K = (CT 11 [] [] (AV.b true) [] ∧ True ∧ CT 37 [] [] (AV.tup [AV.p 0 0, AV.p 1 0]) [Upd.set (SS.o s0), Upd.set (JS.o j0)] ∧ LDoes Tryd.prog (loopAt Tryd.prog 6 0) 135 1 (mkT [(3, AV.p 0 0), (4, AV.p 1 0), (5, AV.l0), (22, AV.sv 5 N (nvF KK KZ TT BL BB LN LM LB)), (23, inv N), (24, iv 0)]) [some (SS.o s0), some (JS.o j0)] (XO.exit 0) (mkT [(3, AV.p 0 0), (5, rl 2 nz)]) [some (SS.o s), none, some (AObj.rows 38 1 nz (recF mz bz))] ∧ CT 19 [AV.p 0 0] [some (SS.o s)] (AV.tup []) [Upd.set (SS.o s1)] ∧ CT 21 [AV.p 0 0, iv 0, AV.b false] [some (SS.o s1)] (iv 0) [Upd.set (SS.o s2)] ∧ CT 10 [AV.p 0 0] [some (SS.o s2)] (AV.tup [AV.p 1 0, AV.sv 1 c (recF m2 b2), iv 0]) [Upd.keep, Upd.set (JS.o j2)] ∧ CT 23 [AV.sv 1 c (recF m2 b2), rl 0 nz] [some (AObj.rows 38 1 nz (recF mz bz))] (AV.b true) [Upd.set (AObj.rows 38 1 nz (recF mT bT))] ∧ K (Res.rv (AV.b true) { tree := z1 (SS.o s2) (z0 (zl (AObj.rows 38 1 nz (recF mT bT))) T.e) (z0 (zl (JS.o j2)) T.e), next := 5, log := [3, 4, 0, 0, 3, 2, 1, 0, 1, 0] }) Orc.z) := by kernel_rfl
end
theorem rewriteWorn_con (s : SS) (j : JS) (n : Nat) (m : Nat → Nat) (b : Nat → Nat → Nat) (hd : j.dead = false) (hl : ∀ i, i < n → m i ≤ 1128) (hs : sumP m n 0 ≤ 60) (ha : j.area ≤ 1) (on : s.off = false) (h122 : 122 ≤ s.n) (h512 : s.n ≤ 512) (hB : Byt s) (w : 1073741824 ≤ j.gen ∨ 1073741824 < nxV s j) :
    Con Tryd.prog 14 [.p 1 0, .sv 1 n (recF m b)] [some s.o, some j.o] (.i .i64 15) [.keep, .keep] := by
  have hn60 := sumP_ge m n 0
  have ft := fitOk_con 60 n m b (by omega) hl (by simp; omega)
  have nx : Con Tryd.prog 51 [.p 1 0] [some s.o, some j.o] (.tup [.i .i64 (Int.ofNat 0), .i .i64 15]) [.keep, .keep] := by
    by_cases c : 1073741824 ≤ j.gen
    · exact nextWorn_con s j c
    · have k := next_con s j (by omega) ha on h122 h512 hB
      rw [bf (show ¬ nxV s j ≤ 1073741824 by rcases w with w | w <;> omega), cond_false] at k
      exact k
  exact con_of_run [] [] ((rwD_vc s j 0 15 (Int.ofNat (sumP m n 0)) 0 n m b hd rfl rfl _).mpr (by repeat' first | exact trivial | refine And.intro ?_ ?_ | assumption | exact nt (by assumption) | exact nf (by assumption) | exact nnt (by assumption) | exact nnf (by assumption) | (decide; done) | exact ⟨_, _, rfl, ret_k (by kernel_rfl)⟩))
theorem rwRow {S0 : SS} {J0 : JS} {n : Nat} {m : Nat → Nat} {b : Nat → Nat → Nat} {v : AV} {S1 : SS} {J1 : JS} (hv : ren (nameIn [0, 1] 3) v = v) (hv2 : embV [0, 1] (mkH [some S0.o, some J0.o, none]) v = v)
    (k0 : Con Tryd.prog 14 [.p 1 0, .sv 1 n (recF m b)] [some S0.o, some J0.o] v [.set S1.o, .set J1.o]) :
    Con Tryd.prog 14 [.p 1 0, .lr 2 1 0 n false] [some S0.o, some J0.o, some (.rows 38 1 n (recF m b))] v [.set S1.o, .set J1.o, .gone] := by
  have k1 : Con Tryd.prog 14 [.p 1 0, .sv 1 n (recF m b)] [some S0.o, some J0.o, none] v [.set S1.o, .set J1.o, .gone] :=
    k0.more [0, 1] (by kernel_rfl) (hasAll_of (by kernel_rfl) (by kernel_rfl)) (by kernel_rfl) (by kernel_rfl) hv2 (by kernel_rfl)
  exact k1.thaw 2 (e := 38) (sz := 1) (n := n) (f := recF m b) rfl ⟨.inl rfl, .inl rfl, rfl, trivial⟩ ⟨.inl rfl, .inr ⟨by kernel_rfl, ⟨rfl, by omega⟩, rfl⟩, trivial⟩ rfl
section
variable {s : SS} {j : JS} {mm n : Nat} {m : Nat → Nat} {b : Nat → Nat → Nat}
theorem JI.mono (h : JI s j mm n m b) {mm' : Nat} (hm : mm ≤ mm') : JI s j mm' n m b := { h with okm := h.okm.mono hm }
theorem JI.arm (h : JI s j mm n m b) {k : Int} (hk : k ≤ 9223372036854775807) : JI (s.arm k) j mm n m b :=
  { on := h.on, P := h.P, hn := h.hn, byt := h.byt.arm k, okm := h.okm.arm hk, dead := h.dead, area := h.area, g1 := h.g1, g2 := h.g2, hd := h.hd, ha := h.ha, ho := h.ho, recs := h.recs, room := h.room, fit := h.fit, len := h.len, parts := h.parts, last := h.last }
theorem JI.rowCW (h : JI s j mm n m b) : ∀ t i, t < n → i < 1 → CW (recF (Jn.opM s j.area) (Jn.opB s j.area) t i) (recF m b t i) := by
  intro t i ht hi
  show CW (.sv 1 (Jn.opM s j.area t) (byF (Jn.opB s j.area t))) (.sv 1 (m t) (byF (b t)))
  rw [h.opM ht]
  refine CW.sv fun x y hx hy => .of ?_
  show CV.i .u8 (Int.ofNat (Jn.opB s j.area t x)) = .i .u8 (Int.ofNat (b t x))
  rw [h.opB ht hx]
theorem JI.same_t (h : JI s j mm n m b) : sameB n n (Jn.opM s j.area) m (Jn.opB s j.area) b = true :=
  sameB_of rfl fun i hi => ⟨h.opM hi, fun t ht => h.opB hi (by rw [← h.opM hi]; exact ht)⟩
theorem JI.ownA (h : JI s j mm n m b) : Con Tryd.prog 15 [.sv 1 n (recF (Jn.opM s j.area) (Jn.opB s j.area))] [] (.lr 0 1 0 n false) [.set (.rows 38 1 n (recF (Jn.opM s j.area) (Jn.opB s j.area)))] :=
  jownA_con n _ _ (by have := h.few; omega) fun i hi => by rw [h.opM hi]; have := h.len i hi; omega
end
theorem rev_con {S : SS} {mm : Nat} (off : S.off = true) (ok : OkM S mm) (hm : mm ≤ 1073741824) (kk : Int) (tt : Bool) : Con Tryd.prog 21 [.p 0 0, .i .i64 kk, .b tt] [some S.o] (.i .i64 0) [.set (S.revived kk tt).o] := by
  have k := revive_con S kk tt (by have := ok.P; omega) (fun q hq => by have := ok.at_ q hq; have := ok.n; omega)
  rw [show S.revE = 0 from by unfold SS.revE; rw [off]; rfl] at k
  exact k
theorem offT_con {S : SS} {x : Bool} (h : S.off = x) : Con Tryd.prog 32 [.p 0 0] [some S.o] (.b x) [.keep] := by
  have k := off2_con S
  rw [h] at k
  exact k
open Classical in
noncomputable def apN (r : RS) (L : Nat) (bs : Nat → Nat) (kk : Int) (tt : Bool) : RS :=
  if L ≤ 1128 then
    if npF L ≤ 60 - sumP r.m r.n 0 then
      if apE r.j (60 - sumP r.m r.n 0) r.s L bs = 0 then ⟨apS r.j (60 - sumP r.m r.n 0) r.s L bs, r.j.more L, r.n + 1, mS r.n r.m L, bS r.n r.b bs⟩
      else if ∃ mm, JI ((apS r.j (60 - sumP r.m r.n 0) r.s L bs).revived kk tt) r.j mm r.n r.m r.b then ⟨(apS r.j (60 - sumP r.m r.n 0) r.s L bs).revived kk tt, r.j, r.n, r.m, r.b⟩
      else ⟨(apS r.j (60 - sumP r.m r.n 0) r.s L bs).revived kk tt, r.j.more L, r.n + 1, mS r.n r.m L, bS r.n r.b bs⟩
    else r
  else r
open Classical in
noncomputable def rwN (r : RS) (n' : Nat) (m' : Nat → Nat) (b' : Nat → Nat → Nat) (kk : Int) (tt : Bool) : RS :=
  if ∀ i, i < n' → m' i ≤ 1128 then
    if sumP m' n' 0 ≤ 60 then
      if r.j.gen < 1073741824 ∧ nxV r.s r.j ≤ 1073741824 then
        if rwE r.s r.j n' m' b' = 0 then
          if nmE (rwS r.s r.j n' m' b') (nxV r.s r.j) (1 - r.j.area) = 0 then ⟨nmS (rwS r.s r.j n' m' b') (nxV r.s r.j) (1 - r.j.area), rwJ r.s r.j n' m', n', m', b'⟩
          else if ∃ mm, JI ((nmS (rwS r.s r.j n' m' b') (nxV r.s r.j) (1 - r.j.area)).revived kk tt) r.j mm r.n r.m r.b then ⟨(nmS (rwS r.s r.j n' m' b') (nxV r.s r.j) (1 - r.j.area)).revived kk tt, r.j, r.n, r.m, r.b⟩
          else ⟨(nmS (rwS r.s r.j n' m' b') (nxV r.s r.j) (1 - r.j.area)).revived kk tt, rwJ r.s r.j n' m', n', m', b'⟩
        else ⟨(rwS r.s r.j n' m' b').revived kk tt, r.j, r.n, r.m, r.b⟩
      else r
    else r
  else r
noncomputable def nst (r : RS) (kk kz : Int) (tt : Bool) (L : Nat) (bs : Nat → Nat) (n' : Nat) (m' : Nat → Nat) (b' : Nat → Nat → Nat) : RS :=
  if kk = 1 then rwN r n' m' b' kz tt else if kk = 2 then ⟨r.s.arm kz, r.j, r.n, r.m, r.b⟩ else if kk = 3 then ⟨r.s.fail.revived kz tt, r.j, r.n, r.m, r.b⟩ else if kk = 4 then ⟨r.s.fail.revived kz tt, r.j, r.n, r.m, r.b⟩ else apN r L bs kz tt
noncomputable def nrun (KK KZ : Nat → Int) (TT : Nat → Bool) (BL : Nat → Nat) (BB : Nat → Nat → Nat) (LN : Nat → Nat) (LM : Nat → Nat → Nat) (LB : Nat → Nat → Nat → Nat) : Nat → RS
  | 0 => ⟨nS0, nJ0, 0, fun _ => 0, fun _ _ => 0⟩
  | i + 1 => nst (nrun KK KZ TT BL BB LN LM LB i) (KK i) (KZ i) (TT i) (BL i) (BB i) (LN i) (LM i) (LB i)
end Go.Proofs.Jn
namespace Go.Proofs.Jn
open Go Go.Sim Go.Proofs Go.Proofs.Cd Go.Proofs.St Go.Proofs.Cl Go.Proofs.YtpoedikibkhmcaaDoor
theorem apN_JI {r : RS} {mm L : Nat} {bs : Nat → Nat} (h : JI r.s r.j mm r.n r.m r.b) (hb : ∀ t, bs t < 256) (kk : Int) (tt : Bool) : JI (apN r L bs kk tt).s (apN r L bs kk tt).j (mm + 62) (apN r L bs kk tt).n (apN r L bs kk tt).m (apN r L bs kk tt).b := by
  unfold apN
  by_cases c1 : L ≤ 1128
  · rw [if_pos c1]
    have h24 := npF_24 c1
    by_cases c2 : npF L ≤ 60 - sumP r.m r.n 0
    · rw [if_pos c2]
      by_cases c3 : apE r.j (60 - sumP r.m r.n 0) r.s L bs = 0
      · rw [if_pos c3]; exact (h.append c1 hb c2 c3).mono (by omega)
      · rw [if_neg c3]
        rcases (h.appendF c1 hb c2 c3 kk tt).2 with q | q
        · rw [if_pos ⟨_, q⟩]; exact q.mono (by omega)
        · by_cases c4 : ∃ mm, JI ((apS r.j (60 - sumP r.m r.n 0) r.s L bs).revived kk tt) r.j mm r.n r.m r.b
          · rw [if_pos c4]
            obtain ⟨_, q'⟩ := c4
            exact { q' with okm := q.okm.mono (by omega) }
          · rw [if_neg c4]; exact q.mono (by omega)
    · rw [if_neg c2]; exact h.mono (by omega)
  · rw [if_neg c1]; exact h.mono (by omega)
theorem rwN_JI {r : RS} {mm n' : Nat} {m' : Nat → Nat} {b' : Nat → Nat → Nat} (h : JI r.s r.j mm r.n r.m r.b) (hb : ∀ i t, b' i t < 256) (kk : Int) (tt : Bool) : JI (rwN r n' m' b' kk tt).s (rwN r n' m' b' kk tt).j (mm + 62) (rwN r n' m' b' kk tt).n (rwN r n' m' b' kk tt).m (rwN r n' m' b' kk tt).b := by
  unfold rwN
  by_cases c1 : ∀ i, i < n' → m' i ≤ 1128
  · rw [if_pos c1]
    by_cases c2 : sumP m' n' 0 ≤ 60
    · rw [if_pos c2]
      by_cases c3 : r.j.gen < 1073741824 ∧ nxV r.s r.j ≤ 1073741824
      · rw [if_pos c3]
        by_cases c4 : rwE r.s r.j n' m' b' = 0
        · rw [if_pos c4]
          by_cases c5 : nmE (rwS r.s r.j n' m' b') (nxV r.s r.j) (1 - r.j.area) = 0
          · rw [if_pos c5]; exact (h.rewrite c1 c2 hb c3.2 c4 c5).mono (by omega)
          · rw [if_neg c5]
            rcases (h.rewriteF2 c1 c2 hb c3.2 c4 c5 kk tt).2 with q | q
            · rw [if_pos ⟨_, q⟩]; exact q.mono (by omega)
            · by_cases c6 : ∃ mm, JI ((nmS (rwS r.s r.j n' m' b') (nxV r.s r.j) (1 - r.j.area)).revived kk tt) r.j mm r.n r.m r.b
              · rw [if_pos c6]
                obtain ⟨_, q'⟩ := c6
                exact { q' with okm := q.okm.mono (by omega) }
              · rw [if_neg c6]; exact q.mono (by omega)
        · rw [if_neg c4]; exact (h.rewriteF1 c2 hb c4 kk tt).2.mono (by omega)
      · rw [if_neg c3]; exact h.mono (by omega)
    · rw [if_neg c2]; exact h.mono (by omega)
  · rw [if_neg c1]; exact h.mono (by omega)
theorem nst_JI {r : RS} {mm L n' : Nat} {bs : Nat → Nat} {m' : Nat → Nat} {b' : Nat → Nat → Nat} (h : JI r.s r.j mm r.n r.m r.b) {kk kz : Int} {tt : Bool} (hk : kz ≤ 9223372036854775807) (hb : ∀ t, bs t < 256) (hb' : ∀ i t, b' i t < 256) :
    JI (nst r kk kz tt L bs n' m' b').s (nst r kk kz tt L bs n' m' b').j (mm + 62) (nst r kk kz tt L bs n' m' b').n (nst r kk kz tt L bs n' m' b').m (nst r kk kz tt L bs n' m' b').b := by
  unfold nst
  by_cases c1 : kk = 1
  · rw [if_pos c1]; exact rwN_JI h hb' kz tt
  rw [if_neg c1]
  by_cases c2 : kk = 2
  · rw [if_pos c2]; exact (h.arm hk).mono (by omega)
  rw [if_neg c2]
  by_cases c3 : kk = 3
  · rw [if_pos c3]; exact (h.idle kz tt).mono (by omega)
  rw [if_neg c3]
  by_cases c4 : kk = 4
  · rw [if_pos c4]; exact (h.idle kz tt).mono (by omega)
  rw [if_neg c4]
  exact apN_JI h hb kz tt
theorem nrun_JI (KK KZ : Nat → Int) (TT : Nat → Bool) (BL : Nat → Nat) (BB : Nat → Nat → Nat) (LN : Nat → Nat) (LM : Nat → Nat → Nat) (LB : Nat → Nat → Nat → Nat) (hKZ : ∀ i, KZ i ≤ 9223372036854775807) (hBB : ∀ i t, BB i t < 256) (hLB : ∀ i r t, LB i r t < 256) : ∀ i, JI (nrun KK KZ TT BL BB LN LM LB i).s (nrun KK KZ TT BL BB LN LM LB i).j (1 + 62 * i) (nrun KK KZ TT BL BB LN LM LB i).n (nrun KK KZ TT BL BB LN LM LB i).m (nrun KK KZ TT BL BB LN LM LB i).b
  | 0 => nJI
  | i + 1 => by
    have h := nst_JI (kk := KK i) (tt := TT i) (L := BL i) (n' := LN i) (m' := LM i) (nrun_JI KK KZ TT BL BB LN LM LB hKZ hBB hLB i) (hKZ i) (hBB i) (hLB i)
    rw [show 1 + 62 * (i + 1) = 1 + 62 * i + 62 by omega]
    exact h
theorem thenCW (n0 L : Nat) (m0 : Nat → Nat) (b0 : Nat → Nat → Nat) (bs : Nat → Nat) : ∀ t i, t < n0 + 1 → i < 1 → CW (appZ n0 (recF m0 b0) (listF 1 [CV.sv 1 L (byF bs)] 1) t i) (recF (mS n0 m0 L) (bS n0 b0 bs) t i) := by
  intro t i ht hi
  obtain rfl : i = 0 := by omega
  refine (appZ_CW _ _ _ _ _).trans ?_
  by_cases hc : t < n0
  · rw [lt_ hc, cond_true]
    show CW (.sv 1 (m0 t) (byF (b0 t))) (.sv 1 (mS n0 m0 L t) (byF (bS n0 b0 bs t)))
    rw [mS_lt hc, bS_lt hc]; exact .refl _
  · rw [lf hc, cond_false]
    have : t = n0 := by omega
    subst this
    rw [Nat.sub_self]
    show CW (.sv 1 L (byF bs)) (.sv 1 (mS t m0 L t) (byF (bS t b0 bs t)))
    rw [mS_eq, bS_eq]; exact .refl _
theorem thenSame {T : SS} {J : JS} {mm n0 L : Nat} {m0 : Nat → Nat} {b0 : Nat → Nat → Nat} {bs : Nat → Nat} (hT : JI T J mm (n0 + 1) (mS n0 m0 L) (bS n0 b0 bs)) : Con Tryd.prog 23 [.sv 1 (n0 + 1) (recF (opM T J.area) (opB T J.area)), .lr 0 1 0 (addN n0 1) false] [some (.rows 38 1 (addN n0 1) (appZ n0 (recF m0 b0) (listF 1 [CV.sv 1 L (byF bs)] 1)))] (.b true) [.set (.rows 38 1 (addN n0 1) (recF (mS n0 m0 L) (bS n0 b0 bs)))] := by
  rw [addN_eq]
  have k := jsame_con (n0 + 1) (n0 + 1) (opM T J.area) (mS n0 m0 L) (opB T J.area) (bS n0 b0 bs) (by have := hT.few; omega)
  rw [hT.same_t] at k
  exact k.ovl ⟨.rowsW (thenCW n0 L m0 b0 bs), trivial⟩ rfl
noncomputable def nvI (R : Nat → RS) (N : Nat) (KK KZ : Nat → Int) (TT : Nat → Bool) (BL : Nat → Nat) (BB : Nat → Nat → Nat) (LN : Nat → Nat) (LM : Nat → Nat → Nat) (LB : Nat → Nat → Nat → Nat) (i : Nat) : List (Nat × AV) × List (Option AObj) :=
  ([(3, .p 0 0), (4, .p 1 0), (5, .lr 2 1 0 (R i).n false), (22, .sv 5 N (nvF KK KZ TT BL BB LN LM LB)), (23, .i .i64 (Int.ofNat N)), (24, .i .i64 (Int.ofNat i))], [some (R i).s.o, some (R i).j.o, some (.rows 38 1 (R i).n (recF (R i).m (R i).b))])
def NG (R : Nat → RS) (N : Nat) (KK KZ : Nat → Int) (TT : Nat → Bool) (BL : Nat → Nat) (BB : Nat → Nat → Nat) (LN : Nat → Nat) (LM : Nat → Nat → Nat) (LB : Nat → Nat → Nat → Nat) (x : XO) (l' : List (Nat × AV)) (objs' : List (Option AObj)) (i : Nat) : Prop := ∃ f o, runK Tryd.prog f (.code (loopAt Tryd.prog 6 0) 135 (mkT (nvI R N KK KZ TT BL BB LN LM LB i).1) (mkH (nvI R N KK KZ TT BL BB LN LM LB i).2)) o fun r _ => RoundV 1 (nvI R N KK KZ TT BL BB LN LM LB) (fun i => N - i) (fun i => i ≤ N ∧ i ≤ 201) x l' objs' i r
structure NvH (R : Nat → RS) (N : Nat) (KK KZ : Nat → Int) (TT : Nat → Bool) (BL : Nat → Nat) (BB : Nat → Nat → Nat) (LN : Nat → Nat) (LM : Nat → Nat → Nat) (LB : Nat → Nat → Nat → Nat) (i : Nat) : Prop where
  h1 : decide (Int.ofNat i < Int.ofNat N) = true
  h2 : decide ((200 : Int) < Int.ofNat i) = false
  lt : i < N ∧ i < 201
  bi : (0 : Int) ≤ Int.ofNat i ∧ Int.ofNat i < (N : Int)
  ov : (-9223372036854775808 : Int) ≤ Int.ofNat i + (1 : Int) ∧ Int.ofNat i + (1 : Int) ≤ (9223372036854775807 : Int)
  c1 : True ∧ 0 + (R i).n ≤ (R i).n ∧ 0 + (R i).n ≤ 140737488355328 ∧ (3 * (0 + (R i).n) + 1536) * 24 ≤ 562949953421312
  c2 : 0 + (R i).n ≤ (R i).n ∧ True ∧ (R i).n + 1 ≤ 140737488355328 ∧ (3 * ((R i).n + 1) + 1536) * 24 ≤ 562949953421312
  c3 : True ∧ True ∧ 0 + LN i ≤ 140737488355328 ∧ (3 * (0 + LN i) + 1536) * 24 ≤ 562949953421312
  hBL : ∀ i, BL i ≤ 140737488351232
  hLN : ∀ i, LN i ≤ 5864062014634
  hLM : ∀ i r, LM i r ≤ 140737488351232
section
variable {R : Nat → RS} {N : Nat} {KK KZ : Nat → Int} {TT : Nat → Bool} {BL : Nat → Nat} {BB : Nat → Nat → Nat} {LN : Nat → Nat} {LM : Nat → Nat → Nat} {LB : Nat → Nat → Nat → Nat} {x : XO} {l' : List (Nat × AV)} {objs' : List (Option AObj)} {i : Nat}
theorem nvDno (H : NvH R N KK KZ TT BL BB LN LM LB i) (k1 : decide (KK i = 1) = false) (k2 : decide (KK i = 2) = false) (k3 : decide (KK i = 3) = false) (k4 : decide (KK i = 4) = false) {e : Int} (e0 : e ≠ 0) (e13 : e ≠ 13) (kA : Con Tryd.prog 24 [.p 1 0, .sv 1 (BL i) (byF (BB i))] [some (R i).s.o, some (R i).j.o] (.i .i64 e) [.keep, .keep]) (on : (R i).s.off = false) (er : R (i + 1) = R i) : NG R N KK KZ TT BL BB LN LM LB x l' objs' i := by
  obtain ⟨h1, h2, lt, bi, ov, c1, c2, c3, hBL, hLN, hLM⟩ := H
  have h3 : decide (e = 0) = false := decide_eq_false e0
  have h4 : decide (e = 13) = false := decide_eq_false e13
  have h5 : (!false == decide (e = 13)) = false := by rw [h4]; rfl
  have h6 : (!decide (e = 13)) = true := by rw [h4]; rfl
  have kO := offT_con on
  refine ⟨_, _, (nvD2_vc (R i).s (R i).j (R i).n (R i).m (R i).b N i KK KZ TT BL BB LN LM LB e _).mpr ⟨h1, bi, trivial, h2, c1, trivial, c2, trivial, k1, k2, k3, k4, trivial, jown_con _ _ (hBL i), kA, h3, kO, trivial, fun a => absurd (a.symm.trans h5) (by decide), fun _ => ⟨h6, ov, .inl ⟨i + 1, [0, 1, 2], [], _, _, nvL N i KK KZ TT BL BB LN LM LB (R i).n, [some (R i).s.o, some (R i).j.o, some (.rows 38 1 (R i).n (recF (R i).m (R i).b))], by omega, by show N - (i + 1) < N - i; omega, rfl, st_k [0, 1, 2] (by kernel_rfl), ?_, ?_⟩⟩⟩⟩
  · show TVL _ (nvI R N KK KZ TT BL BB LN LM LB (i + 1)).1
    unfold nvI; rw [er]; exact .refl _
  · show OVL _ (nvI R N KK KZ TT BL BB LN LM LB (i + 1)).2
    unfold nvI; rw [er]; exact OVL.refl _
theorem nvDpow (H : NvH R N KK KZ TT BL BB LN LM LB i) (k1 : decide (KK i = 1) = false) (k2 : decide (KK i = 2) = false) (k3 : decide (KK i = 3) = false) (k4 : decide (KK i = 4) = false) {S : SS} {J1 : JS} {mm mS' n' : Nat} {J : JS} {m' mT : Nat → Nat} {b' bT : Nat → Nat → Nat} (kA : Con Tryd.prog 24 [.p 1 0, .sv 1 (BL i) (byF (BB i))] [some (R i).s.o, some (R i).j.o] (.i .i64 13) [.set S.o, .set J1.o]) (off : S.off = true) (okS : OkM S mS') (hmS : mS' ≤ 1073741824) (hT : JI (S.revived (KZ i) (TT i)) J mm n' m' b')
    (er : R (i + 1) = ⟨S.revived (KZ i) (TT i), J, n', m', b'⟩) (kT : sameB n' (R i).n (opM (S.revived (KZ i) (TT i)) J.area) (R i).m (opB (S.revived (KZ i) (TT i)) J.area) (R i).b = false → Con Tryd.prog 23 [.sv 1 n' (recF (opM (S.revived (KZ i) (TT i)) J.area) (opB (S.revived (KZ i) (TT i)) J.area)), .lr 0 1 0 (addN (R i).n 1) false] [some (.rows 38 1 (addN (R i).n 1) (appZ (R i).n (recF (R i).m (R i).b) (listF 1 [CV.sv 1 (BL i) (byF (BB i))] 1)))] (.b true) [.set (.rows 38 1 (addN (R i).n 1) (recF mT bT))]) : NG R N KK KZ TT BL BB LN LM LB x l' objs' i := by
  obtain ⟨h1, h2, lt, bi, ov, c1, c2, c3, hBL, hLN, hLM⟩ := H
  have kO := offT_con off
  have kV := rev_con off okS hmS (KZ i) (TT i)
  generalize S.revived (KZ i) (TT i) = T at hT er kT kV
  have kS := jsame_con n' (R i).n (opM T J.area) (R i).m (opB T J.area) (R i).b (by have := hT.few; omega)
  cases v : sameB n' (R i).n (opM T J.area) (R i).m (opB T J.area) (R i).b with
  | true =>
    rw [v] at kS
    have hv : (!true) = false := rfl
    refine ⟨_, _, (nvD3_vc (R i).s (R i).j (R i).n (R i).m (R i).b N i KK KZ TT BL BB LN LM LB S J1 T J n' (opM T J.area) (opB T J.area) true _).mpr ⟨h1, bi, trivial, h2, c1, trivial, c2, trivial, k1, k2, k3, k4, trivial, jown_con _ _ (hBL i), kA, kO, trivial, trivial, trivial, kV, hT.open_con, trivial, kS, trivial, hv, hv, hv, hv, hv, hT.ownA, ov, .inl ⟨i + 1, [0, 8, 9], [], _, _, nvL N i KK KZ TT BL BB LN LM LB n', [some T.o, some J.o, some (.rows 38 1 n' (recF (opM T J.area) (opB T J.area)))], by omega, by show N - (i + 1) < N - i; omega, rfl, st_k [0, 8, 9] (by kernel_rfl), ?_, ?_⟩⟩⟩
    · show TVL _ (nvI R N KK KZ TT BL BB LN LM LB (i + 1)).1
      unfold nvI; rw [er]; exact .refl _
    · show OVL _ (nvI R N KK KZ TT BL BB LN LM LB (i + 1)).2
      unfold nvI; rw [er]; exact ⟨.refl _, .refl _, .rowsW hT.rowCW, trivial⟩
  | false =>
    rw [v] at kS
    have kT := kT v
    have hv : (!false) = true := rfl
    refine ⟨_, _, (nvD4_vc (R i).s (R i).j (R i).n (R i).m (R i).b N i KK KZ TT BL BB LN LM LB S J1 T J n' (opM T J.area) (opB T J.area) false mT bT _).mpr ⟨h1, bi, trivial, h2, c1, trivial, c2, trivial, k1, k2, k3, k4, trivial, jown_con _ _ (hBL i), kA, kO, trivial, trivial, trivial, kV, hT.open_con, trivial, kS, trivial, hv, hv, hv, kT, hv, trivial, hv, hT.ownA, ov, .inl ⟨i + 1, [0, 8, 9], [], _, _, nvL N i KK KZ TT BL BB LN LM LB n', [some T.o, some J.o, some (.rows 38 1 n' (recF (opM T J.area) (opB T J.area)))], by omega, by show N - (i + 1) < N - i; omega, rfl, st_k [0, 8, 9] (by kernel_rfl), ?_, ?_⟩⟩⟩
    · show TVL _ (nvI R N KK KZ TT BL BB LN LM LB (i + 1)).1
      unfold nvI; rw [er]; exact .refl _
    · show OVL _ (nvI R N KK KZ TT BL BB LN LM LB (i + 1)).2
      unfold nvI; rw [er]; exact ⟨.refl _, .refl _, .rowsW hT.rowCW, trivial⟩
theorem nvRno (H : NvH R N KK KZ TT BL BB LN LM LB i) (k1 : decide (KK i = 1) = true) {e : Int} (e0 : e ≠ 0) (e13 : e ≠ 13) (kR : Con Tryd.prog 14 [.p 1 0, .lr 2 1 0 (LN i) false] [some (R i).s.o, some (R i).j.o, some (.rows 38 1 (LN i) (recF (LM i) (LB i)))] (.i .i64 e) [.keep, .keep, .gone]) (on : (R i).s.off = false) (er : R (i + 1) = R i) : NG R N KK KZ TT BL BB LN LM LB x l' objs' i := by
  obtain ⟨h1, h2, lt, bi, ov, c1, c2, c3, hBL, hLN, hLM⟩ := H
  have h3 : decide (e = 0) = false := decide_eq_false e0
  have h4 : decide (e = 13) = false := decide_eq_false e13
  have h5 : (!false == decide (e = 13)) = false := by rw [h4]; rfl
  have h6 : (!decide (e = 13)) = true := by rw [h4]; rfl
  have kO := offT_con on
  refine ⟨_, _, (nvR2_vc (R i).s (R i).j (R i).n (R i).m (R i).b N i KK KZ TT BL BB LN LM LB e _).mpr ⟨h1, bi, trivial, h2, c1, trivial, c2, trivial, k1, trivial, c3, trivial, jownA_con _ _ _ (hLN i) (fun r _ => hLM i r), kR, h3, kO, trivial, fun a => absurd (a.symm.trans h5) (by decide), fun _ => ⟨h6, ov, .inl ⟨i + 1, [0, 1, 2], [], _, _, nvL N i KK KZ TT BL BB LN LM LB (R i).n, [some (R i).s.o, some (R i).j.o, some (.rows 38 1 (R i).n (recF (R i).m (R i).b))], by omega, by show N - (i + 1) < N - i; omega, rfl, st_k [0, 1, 2] (by kernel_rfl), ?_, ?_⟩⟩⟩⟩
  · show TVL _ (nvI R N KK KZ TT BL BB LN LM LB (i + 1)).1
    unfold nvI; rw [er]; exact .refl _
  · show OVL _ (nvI R N KK KZ TT BL BB LN LM LB (i + 1)).2
    unfold nvI; rw [er]; exact OVL.refl _
theorem nvRpow (H : NvH R N KK KZ TT BL BB LN LM LB i) (k1 : decide (KK i = 1) = true) {S : SS} {J1 : JS} {mm mS' n' : Nat} {J : JS} {m' mT : Nat → Nat} {b' bT : Nat → Nat → Nat} (kR : Con Tryd.prog 14 [.p 1 0, .lr 2 1 0 (LN i) false] [some (R i).s.o, some (R i).j.o, some (.rows 38 1 (LN i) (recF (LM i) (LB i)))] (.i .i64 13) [.set S.o, .set J1.o, .gone]) (off : S.off = true) (okS : OkM S mS') (hmS : mS' ≤ 1073741824) (hT : JI (S.revived (KZ i) (TT i)) J mm n' m' b')
    (er : R (i + 1) = ⟨S.revived (KZ i) (TT i), J, n', m', b'⟩) (kT : sameB n' (R i).n (opM (S.revived (KZ i) (TT i)) J.area) (R i).m (opB (S.revived (KZ i) (TT i)) J.area) (R i).b = false → Con Tryd.prog 23 [.sv 1 n' (recF (opM (S.revived (KZ i) (TT i)) J.area) (opB (S.revived (KZ i) (TT i)) J.area)), .lr 0 1 0 (LN i) false] [some (.rows 38 1 (LN i) (recF (LM i) (LB i)))] (.b true) [.set (.rows 38 1 (LN i) (recF mT bT))]) : NG R N KK KZ TT BL BB LN LM LB x l' objs' i := by
  obtain ⟨h1, h2, lt, bi, ov, c1, c2, c3, hBL, hLN, hLM⟩ := H
  have kO := offT_con off
  have kV := rev_con off okS hmS (KZ i) (TT i)
  generalize S.revived (KZ i) (TT i) = T at hT er kT kV
  have kS := jsame_con n' (R i).n (opM T J.area) (R i).m (opB T J.area) (R i).b (by have := hT.few; omega)
  cases v : sameB n' (R i).n (opM T J.area) (R i).m (opB T J.area) (R i).b with
  | true =>
    rw [v] at kS
    have hv : (!true) = false := rfl
    refine ⟨_, _, (nvR3_vc (R i).s (R i).j (R i).n (R i).m (R i).b N i KK KZ TT BL BB LN LM LB S J1 T J n' (opM T J.area) (opB T J.area) true _).mpr ⟨h1, bi, trivial, h2, c1, trivial, c2, trivial, k1, trivial, c3, trivial, jownA_con _ _ _ (hLN i) (fun r _ => hLM i r), kR, kO, trivial, trivial, trivial, kV, hT.open_con, trivial, kS, trivial, hv, hv, hv, hv, hv, hT.ownA, ov, .inl ⟨i + 1, [0, 11, 12], [], _, _, nvL N i KK KZ TT BL BB LN LM LB n', [some T.o, some J.o, some (.rows 38 1 n' (recF (opM T J.area) (opB T J.area)))], by omega, by show N - (i + 1) < N - i; omega, rfl, st_k [0, 11, 12] (by kernel_rfl), ?_, ?_⟩⟩⟩
    · show TVL _ (nvI R N KK KZ TT BL BB LN LM LB (i + 1)).1
      unfold nvI; rw [er]; exact .refl _
    · show OVL _ (nvI R N KK KZ TT BL BB LN LM LB (i + 1)).2
      unfold nvI; rw [er]; exact ⟨.refl _, .refl _, .rowsW hT.rowCW, trivial⟩
  | false =>
    rw [v] at kS
    have kT := kT v
    have hv : (!false) = true := rfl
    refine ⟨_, _, (nvR4_vc (R i).s (R i).j (R i).n (R i).m (R i).b N i KK KZ TT BL BB LN LM LB S J1 T J n' (opM T J.area) (opB T J.area) false mT bT _).mpr ⟨h1, bi, trivial, h2, c1, trivial, c2, trivial, k1, trivial, c3, trivial, jownA_con _ _ _ (hLN i) (fun r _ => hLM i r), kR, kO, trivial, trivial, trivial, kV, hT.open_con, trivial, kS, trivial, hv, hv, hv, kT, hv, trivial, hv, hT.ownA, ov, .inl ⟨i + 1, [0, 11, 12], [], _, _, nvL N i KK KZ TT BL BB LN LM LB n', [some T.o, some J.o, some (.rows 38 1 n' (recF (opM T J.area) (opB T J.area)))], by omega, by show N - (i + 1) < N - i; omega, rfl, st_k [0, 11, 12] (by kernel_rfl), ?_, ?_⟩⟩⟩
    · show TVL _ (nvI R N KK KZ TT BL BB LN LM LB (i + 1)).1
      unfold nvI; rw [er]; exact .refl _
    · show OVL _ (nvI R N KK KZ TT BL BB LN LM LB (i + 1)).2
      unfold nvI; rw [er]; exact ⟨.refl _, .refl _, .rowsW hT.rowCW, trivial⟩
theorem nvDok (H : NvH R N KK KZ TT BL BB LN LM LB i) (k1 : decide (KK i = 1) = false) (k2 : decide (KK i = 2) = false) (k3 : decide (KK i = 3) = false) (k4 : decide (KK i = 4) = false) {S : SS} {J : JS} (kA : Con Tryd.prog 24 [.p 1 0, .sv 1 (BL i) (byF (BB i))] [some (R i).s.o, some (R i).j.o] (.i .i64 0) [.set S.o, .set J.o]) (on : S.off = false) (hr : J.recs = (R i).n + 1) (er : R (i + 1) = ⟨S, J, (R i).n + 1, mS (R i).n (R i).m (BL i), bS (R i).n (R i).b (BB i)⟩) : NG R N KK KZ TT BL BB LN LM LB x l' objs' i := by
  obtain ⟨h1, h2, lt, bi, ov, c1, c2, c3, hBL, hLN, hLM⟩ := H
  have h3 : (!decide (Int.ofNat J.recs = Int.ofNat (addN (R i).n 1))) = false := by rw [addN_eq, hr]; simp
  have kO := offT_con on
  refine ⟨_, _, (nvD1_vc (R i).s (R i).j (R i).n (R i).m (R i).b N i KK KZ TT BL BB LN LM LB S J _).mpr ⟨h1, bi, trivial, h2, c1, trivial, c2, trivial, k1, k2, k3, k4, trivial, jown_con _ _ (hBL i), kA, trivial, trivial, h3, kO, trivial, ov, .inl ⟨i + 1, [0, 1, 7], [], _, _, nvL N i KK KZ TT BL BB LN LM LB (addN (R i).n 1), [some S.o, some J.o, some (.rows 38 1 (addN (R i).n 1) (appZ (R i).n (recF (R i).m (R i).b) (listF 1 [CV.sv 1 (BL i) (byF (BB i))] 1)))], by omega, by show N - (i + 1) < N - i; omega, rfl, st_k [0, 1, 7] (by kernel_rfl), ?_, ?_⟩⟩⟩
  · show TVL _ (nvI R N KK KZ TT BL BB LN LM LB (i + 1)).1
    unfold nvI; rw [er]; rw [addN_eq]; exact .refl _
  · show OVL _ (nvI R N KK KZ TT BL BB LN LM LB (i + 1)).2
    unfold nvI; rw [er]; rw [addN_eq]; exact ⟨.refl _, .refl _, .rowsW (thenCW _ _ _ _ _), trivial⟩
theorem nvRok (H : NvH R N KK KZ TT BL BB LN LM LB i) (k1 : decide (KK i = 1) = true) {S : SS} {J : JS} (kR : Con Tryd.prog 14 [.p 1 0, .lr 2 1 0 (LN i) false] [some (R i).s.o, some (R i).j.o, some (.rows 38 1 (LN i) (recF (LM i) (LB i)))] (.i .i64 0) [.set S.o, .set J.o, .gone]) (on : S.off = false) (hr : J.recs = LN i) (er : R (i + 1) = ⟨S, J, LN i, LM i, LB i⟩) : NG R N KK KZ TT BL BB LN LM LB x l' objs' i := by
  obtain ⟨h1, h2, lt, bi, ov, c1, c2, c3, hBL, hLN, hLM⟩ := H
  have h3 : (!decide (Int.ofNat J.recs = Int.ofNat (LN i))) = false := by rw [hr]; simp
  have kO := offT_con on
  refine ⟨_, _, (nvR1_vc (R i).s (R i).j (R i).n (R i).m (R i).b N i KK KZ TT BL BB LN LM LB S J _).mpr ⟨h1, bi, trivial, h2, c1, trivial, c2, trivial, k1, trivial, c3, trivial, jownA_con _ _ _ (hLN i) (fun r _ => hLM i r), kR, trivial, trivial, h3, kO, trivial, ov, .inl ⟨i + 1, [0, 1, 9], [], _, _, nvL N i KK KZ TT BL BB LN LM LB (LN i), [some S.o, some J.o, some (.rows 38 1 (LN i) (recF (LM i) (LB i)))], by omega, by show N - (i + 1) < N - i; omega, rfl, st_k [0, 1, 9] (by kernel_rfl), ?_, ?_⟩⟩⟩
  · show TVL _ (nvI R N KK KZ TT BL BB LN LM LB (i + 1)).1
    unfold nvI; rw [er]; exact .refl _
  · show OVL _ (nvI R N KK KZ TT BL BB LN LM LB (i + 1)).2
    unfold nvI; rw [er]; exact OVL.refl _
theorem nvArm (H : NvH R N KK KZ TT BL BB LN LM LB i) (k1 : decide (KK i = 1) = false) (k2 : decide (KK i = 2) = true) (er : R (i + 1) = ⟨(R i).s.arm (KZ i), (R i).j, (R i).n, (R i).m, (R i).b⟩) : NG R N KK KZ TT BL BB LN LM LB x l' objs' i := by
  obtain ⟨h1, h2, lt, bi, ov, c1, c2, c3, hBL, hLN, hLM⟩ := H
  refine ⟨_, _, (nvA_vc (R i).s (R i).j (R i).n (R i).m (R i).b N i KK KZ TT BL BB LN LM LB ((R i).s.arm (KZ i)) _).mpr ⟨h1, bi, trivial, h2, c1, trivial, c2, trivial, k1, k2, trivial, arm2_con _ _, ov, .inl ⟨i + 1, [0, 1, 2], [], _, _, nvL N i KK KZ TT BL BB LN LM LB (R i).n, [some ((R i).s.arm (KZ i)).o, some (R i).j.o, some (.rows 38 1 (R i).n (recF (R i).m (R i).b))], by omega, by show N - (i + 1) < N - i; omega, rfl, st_k [0, 1, 2] (by kernel_rfl), ?_, ?_⟩⟩⟩
  · show TVL _ (nvI R N KK KZ TT BL BB LN LM LB (i + 1)).1
    unfold nvI; rw [er]; exact .refl _
  · show OVL _ (nvI R N KK KZ TT BL BB LN LM LB (i + 1)).2
    unfold nvI; rw [er]; exact OVL.refl _
theorem nvFail3 (H : NvH R N KK KZ TT BL BB LN LM LB i) (k1 : decide (KK i = 1) = false) (k2 : decide (KK i = 2) = false) (k3 : decide (KK i = 3) = true) {mm : Nat} (hmm : mm ≤ 1073741824) (ok : OkM (R i).s mm) (hT : JI ((R i).s.fail.revived (KZ i) (TT i)) (R i).j mm (R i).n (R i).m (R i).b) (er : R (i + 1) = ⟨(R i).s.fail.revived (KZ i) (TT i), (R i).j, (R i).n, (R i).m, (R i).b⟩) : NG R N KK KZ TT BL BB LN LM LB x l' objs' i := by
  obtain ⟨h1, h2, lt, bi, ov, c1, c2, c3, hBL, hLN, hLM⟩ := H
  have kO := offT_con (S := (R i).s.fail) (x := true) rfl
  have kV := rev_con (S := (R i).s.fail) rfl ok.fail hmm (KZ i) (TT i)
  generalize (R i).s.fail.revived (KZ i) (TT i) = T at hT er kV
  have kS := jsame_con (R i).n (R i).n (opM T (R i).j.area) (R i).m (opB T (R i).j.area) (R i).b (by have := hT.few; omega)
  rw [hT.same_t] at kS
  have hv : (!true) = false := rfl
  refine ⟨_, _, (nvF3_vc (R i).s (R i).j (R i).n (R i).m (R i).b N i KK KZ TT BL BB LN LM LB (R i).s.fail T (R i).j (R i).n (opM T (R i).j.area) (opB T (R i).j.area) true _).mpr ⟨h1, bi, trivial, h2, c1, trivial, c2, trivial, k1, k2, k3, k3, fail2_con _, kO, trivial, trivial, trivial, kV, hT.open_con, trivial, kS, trivial, hv, hv, hv, hv, hv, hT.ownA, ov, .inl ⟨i + 1, [0, 8, 9], [], _, _, nvL N i KK KZ TT BL BB LN LM LB (R i).n, [some T.o, some (R i).j.o, some (.rows 38 1 (R i).n (recF (opM T (R i).j.area) (opB T (R i).j.area)))], by omega, by show N - (i + 1) < N - i; omega, rfl, st_k [0, 8, 9] (by kernel_rfl), ?_, ?_⟩⟩⟩
  · show TVL _ (nvI R N KK KZ TT BL BB LN LM LB (i + 1)).1
    unfold nvI; rw [er]; exact .refl _
  · show OVL _ (nvI R N KK KZ TT BL BB LN LM LB (i + 1)).2
    unfold nvI; rw [er]; exact ⟨.refl _, .refl _, .rowsW hT.rowCW, trivial⟩
theorem nvFail4 (H : NvH R N KK KZ TT BL BB LN LM LB i) (k1 : decide (KK i = 1) = false) (k2 : decide (KK i = 2) = false) (k3 : decide (KK i = 3) = false) (k4 : decide (KK i = 4) = true) {mm : Nat} (hmm : mm ≤ 1073741824) (ok : OkM (R i).s mm) (hT : JI ((R i).s.fail.revived (KZ i) (TT i)) (R i).j mm (R i).n (R i).m (R i).b) (er : R (i + 1) = ⟨(R i).s.fail.revived (KZ i) (TT i), (R i).j, (R i).n, (R i).m, (R i).b⟩) : NG R N KK KZ TT BL BB LN LM LB x l' objs' i := by
  obtain ⟨h1, h2, lt, bi, ov, c1, c2, c3, hBL, hLN, hLM⟩ := H
  have kO := offT_con (S := (R i).s.fail) (x := true) rfl
  have kV := rev_con (S := (R i).s.fail) rfl ok.fail hmm (KZ i) (TT i)
  generalize (R i).s.fail.revived (KZ i) (TT i) = T at hT er kV
  have kS := jsame_con (R i).n (R i).n (opM T (R i).j.area) (R i).m (opB T (R i).j.area) (R i).b (by have := hT.few; omega)
  rw [hT.same_t] at kS
  have hv : (!true) = false := rfl
  refine ⟨_, _, (nvF4_vc (R i).s (R i).j (R i).n (R i).m (R i).b N i KK KZ TT BL BB LN LM LB (R i).s.fail T (R i).j (R i).n (opM T (R i).j.area) (opB T (R i).j.area) true _).mpr ⟨h1, bi, trivial, h2, c1, trivial, c2, trivial, k1, k2, k3, k4, fail2_con _, kO, trivial, trivial, trivial, kV, hT.open_con, trivial, kS, trivial, hv, hv, hv, hv, hv, hT.ownA, ov, .inl ⟨i + 1, [0, 8, 9], [], _, _, nvL N i KK KZ TT BL BB LN LM LB (R i).n, [some T.o, some (R i).j.o, some (.rows 38 1 (R i).n (recF (opM T (R i).j.area) (opB T (R i).j.area)))], by omega, by show N - (i + 1) < N - i; omega, rfl, st_k [0, 8, 9] (by kernel_rfl), ?_, ?_⟩⟩⟩
  · show TVL _ (nvI R N KK KZ TT BL BB LN LM LB (i + 1)).1
    unfold nvI; rw [er]; exact .refl _
  · show OVL _ (nvI R N KK KZ TT BL BB LN LM LB (i + 1)).2
    unfold nvI; rw [er]; exact ⟨.refl _, .refl _, .rowsW hT.rowCW, trivial⟩
end
theorem keep2 {f : Nat} {pargs : List AV} {v : AV} {s : SS} {j : JS} (k : Con Tryd.prog f pargs [some s.o, some j.o] v [.keep, .keep]) : Con Tryd.prog f pargs [some s.o, some j.o] v [.set s.o, .set j.o] := k.post (VW.refl _) (OVL.refl _)
theorem rwRowK {s : SS} {j : JS} {n : Nat} {m : Nat → Nat} {b : Nat → Nat → Nat} {e : Int} (k : Con Tryd.prog 14 [.p 1 0, .sv 1 n (recF m b)] [some s.o, some j.o] (.i .i64 e) [.keep, .keep]) :
    Con Tryd.prog 14 [.p 1 0, .lr 2 1 0 n false] [some s.o, some j.o, some (.rows 38 1 n (recF m b))] (.i .i64 e) [.keep, .keep, .gone] :=
  (rwRow (by kernel_rfl) (by kernel_rfl) (keep2 k)).post (VW.refl _) (OVL.refl _)
section
variable {R : Nat → RS} {N : Nat} {KK KZ : Nat → Int} {TT : Nat → Bool} {BL : Nat → Nat} {BB : Nat → Nat → Nat} {LN : Nat → Nat} {LM : Nat → Nat → Nat} {LB : Nat → Nat → Nat → Nat} {x : XO} {l' : List (Nat × AV)} {objs' : List (Option AObj)} {i : Nat}
theorem nvD (H : NvH R N KK KZ TT BL BB LN LM LB i) (k1 : decide (KK i = 1) = false) (k2 : decide (KK i = 2) = false) (k3 : decide (KK i = 3) = false) (k4 : decide (KK i = 4) = false) (hBB : ∀ t, BB i t < 256) (h : JI (R i).s (R i).j (1 + 62 * i) (R i).n (R i).m (R i).b)
    (es : R (i + 1) = apN (R i) (BL i) (BB i) (KZ i) (TT i)) : NG R N KK KZ TT BL BB LN LM LB x l' objs' i := by
  have hi := H.lt
  unfold apN at es
  by_cases c1 : BL i ≤ 1128
  · rw [if_pos c1] at es
    have h24 := npF_24 c1
    by_cases c2 : npF (BL i) ≤ 60 - sumP (R i).m (R i).n 0
    · rw [if_pos c2] at es
      have kA := append_con (R i).j (60 - sumP (R i).m (R i).n 0) (R i).s (BL i) (1 + 62 * i) (BB i) h.dead h.rm (by omega) h.area (by rw [h.recs]; have := h.few; omega) h.okm (by omega) h.hn hBB c1 c2
      by_cases c3 : apE (R i).j (60 - sumP (R i).m (R i).n 0) (R i).s (BL i) (BB i) = 0
      · rw [if_pos c3] at es
        rw [decide_eq_true c3, cond_true, cond_true] at kA
        have hq := h.append c1 hBB c2 c3
        exact nvDok H k1 k2 k3 k4 (J := (R i).j.more (BL i)) kA hq.on hq.recs es
      · rw [if_neg c3] at es
        rw [decide_eq_false c3, cond_false, cond_false] at kA
        obtain ⟨off, hor⟩ := h.appendF c1 hBB c2 c3 (KZ i) (TT i)
        have okS : OkM (apS (R i).j (60 - sumP (R i).m (R i).n 0) (R i).s (BL i) (BB i)) (1 + 62 * i + sumP (fun _ => BL i) 1 0) := (cmtS_ok _ _ 1 _ (fun _ => BL i) (fun _ => BB i) (R i).s _ h.okm (by rw [h.apQ, sumP1]; have := h.hn; have := h.area; have := h.fit; omega)).1
        rw [sumP1] at okS
        by_cases c4 : ∃ mm, JI ((apS (R i).j (60 - sumP (R i).m (R i).n 0) (R i).s (BL i) (BB i)).revived (KZ i) (TT i)) (R i).j mm (R i).n (R i).m (R i).b
        · rw [if_pos c4] at es
          obtain ⟨_, hT⟩ := c4
          exact nvDpow (mT := fun _ => 0) (bT := fun _ _ => 0) H k1 k2 k3 k4 kA off okS (by omega) hT es fun v => absurd (hT.same_t.symm.trans v) (by decide)
        · rw [if_neg c4] at es
          rcases hor with q | q
          · exact absurd ⟨_, q⟩ c4
          · exact nvDpow H k1 k2 k3 k4 kA off okS (by omega) q es fun _ => thenSame q
    · rw [if_neg c2] at es
      exact nvDno H k1 k2 k3 k4 (by decide) (by decide) (appendSpace_con (R i).j (R i).s (BL i) (BB i) h.dead c1 (by rw [h.rm]; simp; omega)) h.on es
  · rw [if_neg c1] at es
    exact nvDno H k1 k2 k3 k4 (by decide) (by decide) (appendRange_con (R i).j (R i).s (BL i) (BB i) h.dead (by omega)) h.on es
theorem nvR (H : NvH R N KK KZ TT BL BB LN LM LB i) (k1 : decide (KK i = 1) = true) (hLB : ∀ r t, LB i r t < 256) (h : JI (R i).s (R i).j (1 + 62 * i) (R i).n (R i).m (R i).b)
    (es : R (i + 1) = rwN (R i) (LN i) (LM i) (LB i) (KZ i) (TT i)) : NG R N KK KZ TT BL BB LN LM LB x l' objs' i := by
  have hi := H.lt
  have hLN := H.hLN i
  have har := h.area
  have hsn := h.hn
  unfold rwN at es
  by_cases c1 : ∀ r, r < LN i → LM i r ≤ 1128
  · rw [if_pos c1] at es
    by_cases c2 : sumP (LM i) (LN i) 0 ≤ 60
    · rw [if_pos c2] at es
      by_cases c3 : (R i).j.gen < 1073741824 ∧ nxV (R i).s (R i).j ≤ 1073741824
      · rw [if_pos c3] at es
        have k := rewrite_con (R i).s (R i).j (LN i) (1 + 62 * i) (LM i) (LB i) h.dead c1 c2 c3.1 c3.2 h.area h.on h.hn h.byt h.okm (by omega) hLB
        have ok1 := (cmtS_ok (nxV (R i).s (R i).j) 0 (LN i) _ (LM i) (LB i) (R i).s (2 + (1 - (R i).j.area) * 60) h.okm (by omega))
        by_cases c4 : rwE (R i).s (R i).j (LN i) (LM i) (LB i) = 0
        · rw [if_pos c4] at es
          rw [decide_eq_true c4, cond_true, cond_true, cond_true] at k
          have ok2 : OkM (nmS (rwS (R i).s (R i).j (LN i) (LM i) (LB i)) (nxV (R i).s (R i).j) (1 - (R i).j.area)) (1 + 62 * i + sumP (LM i) (LN i) 0 + sumP (fun _ => 1) 1 0) := (cmtS_ok (nxV (R i).s (R i).j) 0 1 _ (fun _ => 1) (fun _ _ => (1 - (R i).j.area) % 256) _ (nxV (R i).s (R i).j % 2) ok1.1 (by rw [sumP1, one_parts 0]; have := ok1.2; omega)).1
          rw [sumP1, one_parts 0] at ok2
          by_cases c5 : nmE (rwS (R i).s (R i).j (LN i) (LM i) (LB i)) (nxV (R i).s (R i).j) (1 - (R i).j.area) = 0
          · rw [if_pos c5] at es
            rw [decide_eq_true c5, cond_true, cond_true] at k
            have hq := h.rewrite c1 c2 hLB c3.2 c4 c5
            exact nvRok H k1 (rwRow (by kernel_rfl) (by kernel_rfl) k) hq.on rfl es
          · rw [if_neg c5] at es
            rw [decide_eq_false c5, cond_false, cond_false] at k
            obtain ⟨off, hor⟩ := h.rewriteF2 c1 c2 hLB c3.2 c4 c5 (KZ i) (TT i)
            have kR := rwRow (J1 := ⟨(R i).j.gen, (R i).j.area, (R i).j.recs, (R i).j.room, true⟩) (by kernel_rfl) (by kernel_rfl) k
            by_cases c6 : ∃ mm, JI ((nmS (rwS (R i).s (R i).j (LN i) (LM i) (LB i)) (nxV (R i).s (R i).j) (1 - (R i).j.area)).revived (KZ i) (TT i)) (R i).j mm (R i).n (R i).m (R i).b
            · rw [if_pos c6] at es
              obtain ⟨_, hT⟩ := c6
              exact nvRpow (mT := fun _ => 0) (bT := fun _ _ => 0) H k1 kR off ok2 (by omega) hT es fun v => absurd (hT.same_t.symm.trans v) (by decide)
            · rw [if_neg c6] at es
              rcases hor with q | q
              · exact absurd ⟨_, q⟩ c6
              · refine nvRpow (mT := LM i) (bT := LB i) H k1 kR off ok2 (by omega) q es fun _ => ?_
                have kk := jsame_con (LN i) (LN i) (opM ((nmS (rwS (R i).s (R i).j (LN i) (LM i) (LB i)) (nxV (R i).s (R i).j) (1 - (R i).j.area)).revived (KZ i) (TT i)) (rwJ (R i).s (R i).j (LN i) (LM i)).area) (LM i) (opB ((nmS (rwS (R i).s (R i).j (LN i) (LM i) (LB i)) (nxV (R i).s (R i).j) (1 - (R i).j.area)).revived (KZ i) (TT i)) (rwJ (R i).s (R i).j (LN i) (LM i)).area) (LB i) hLN
                rw [q.same_t] at kk
                exact kk.post (VW.refl _) (OVL.refl _)
        · rw [if_neg c4] at es
          rw [decide_eq_false c4, cond_false, cond_false, cond_false] at k
          obtain ⟨off, hT⟩ := h.rewriteF1 c2 hLB c4 (KZ i) (TT i)
          exact nvRpow (mT := fun _ => 0) (bT := fun _ _ => 0) H k1 (rwRow (J1 := ⟨(R i).j.gen, (R i).j.area, (R i).j.recs, (R i).j.room, true⟩) (by kernel_rfl) (by kernel_rfl) k) off ok1.1 (by omega) hT es fun v => absurd (hT.same_t.symm.trans v) (by decide)
      · rw [if_neg c3] at es
        exact nvRno H k1 (by decide) (by decide) (rwRowK (rewriteWorn_con (R i).s (R i).j (LN i) (LM i) (LB i) h.dead c1 c2 h.area h.on h.hn h.okm.n h.byt (by omega))) h.on es
    · rw [if_neg c2] at es
      exact nvRno H k1 (by decide) (by decide) (rwRowK (rewriteSpace_con (R i).s (R i).j (LN i) (LM i) (LB i) h.dead (by omega) c1 (by omega))) h.on es
  · rw [if_neg c1] at es
    obtain ⟨q, a, bad, good⟩ : ∃ q, q < LN i ∧ 1128 < LM i q ∧ ∀ r, r < q → LM i r ≤ 1128 := by
      have key : ∀ n, (¬ ∀ r, r < n → LM i r ≤ 1128) → ∃ q, q < n ∧ 1128 < LM i q ∧ ∀ r, r < q → LM i r ≤ 1128 := by
        intro n
        induction n with
        | zero => exact fun h => absurd (fun r hr => absurd hr (by omega)) h
        | succ n ih =>
          intro hn
          by_cases c : ∀ r, r < n → LM i r ≤ 1128
          · exact ⟨n, by omega, by
              rcases Nat.lt_or_ge 1128 (LM i n) with h | h
              · exact h
              · exact absurd (fun r hr => by
                  by_cases e : r = n
                  · subst e; exact h
                  · exact c r (by omega)) hn, c⟩
          · obtain ⟨q, a, b, d⟩ := ih c
            exact ⟨q, by omega, b, d⟩
      exact key _ c1
    exact nvRno H k1 (by decide) (by decide) (rwRowK (rewriteRange_con (R i).s (R i).j (LN i) q (LM i) (LB i) h.dead (by omega) a bad good)) h.on es
end
theorem never_lp (N : Nat) (KK KZ : Nat → Int) (TT : Nat → Bool) (BL : Nat → Nat) (BB : Nat → Nat → Nat) (LN : Nat → Nat) (LM : Nat → Nat → Nat) (LB : Nat → Nat → Nat → Nat) (hN : N ≤ 1152921504606846976) (hKZ : ∀ i, KZ i ≤ 9223372036854775807) (hBL : ∀ i, BL i ≤ 140737488351232) (hBB : ∀ i t, BB i t < 256) (hLN : ∀ i, LN i ≤ 5864062014634) (hLM : ∀ i r, LM i r ≤ 140737488351232) (hLB : ∀ i r t, LB i r t < 256) (R : Nat → RS) (hR0 : R 0 = ⟨nS0, nJ0, 0, fun _ => 0, fun _ _ => 0⟩) (hRs : ∀ i, R (i + 1) = nst (R i) (KK i) (KZ i) (TT i) (BL i) (BB i) (LN i) (LM i) (LB i)) (hJI : ∀ i, JI (R i).s (R i).j (1 + 62 * i) (R i).n (R i).m (R i).b) :
    LDoes Tryd.prog (loopAt Tryd.prog 6 0) 135 1 (mkT [(3, .p 0 0), (4, .p 1 0), (5, .l0), (22, .sv 5 N (nvF KK KZ TT BL BB LN LM LB)), (23, .i .i64 (Int.ofNat N)), (24, .i .i64 0)]) [some nS0.o, some nJ0.o] (.exit 0) (mkT [(3, .p 0 0), (5, .lr 2 1 0 (R (min N 201)).n false)]) [some (R (min N 201)).s.o, none, some (.rows 38 1 (R (min N 201)).n (recF (R (min N 201)).m (R (min N 201)).b))] := by
  have key := loop_indV (P := Tryd.prog) (c := loopAt Tryd.prog 6 0) (n := 135) (b := 1) (x := .exit 0) (l' := [(3, .p 0 0), (5, .lr 2 1 0 (R (min N 201)).n false)]) (objs' := [some (R (min N 201)).s.o, none, some (.rows 38 1 (R (min N 201)).n (recF (R (min N 201)).m (R (min N 201)).b))]) (D := Nat)
    (nvI R N KK KZ TT BL BB LN LM LB) (fun i => N - i) (fun i => i ≤ N ∧ i ≤ 201) (fun i hi => ?_) 0 ⟨Nat.zero_le _, Nat.zero_le _⟩
  · unfold nvI at key
    simp only [hR0] at key
    exact key.weak ⟨rfl, .inl rfl, rfl, .inl rfl, rfl, .inr ⟨rfl, .inl ⟨2, 1, 0, false, rfl⟩⟩, rfl, .inl rfl, rfl, .inl rfl, rfl, .inl rfl, trivial⟩ ⟨.refl _, .refl _, by intro o ho; simp at ho; subst ho; exact ⟨_, rfl, rfl⟩⟩
  refine ⟨by show 1 ≤ 3; decide, ?_⟩
  show NG R N KK KZ TT BL BB LN LM LB (.exit 0) _ _ i
  by_cases e1 : i = N
  · have h1 : decide (Int.ofNat i < Int.ofNat N) = false := by simp; omega
    rw [show min N 201 = i by omega]
    exact ⟨_, _, (nvY_vc (R i).s (R i).j (R i).n (R i).m (R i).b N i KK KZ TT BL BB LN LM LB _).mpr ⟨h1, .inr ⟨[0, 1, 2], [], _, _, _, [some (R i).s.o, none, some (.rows 38 1 (R i).n (recF (R i).m (R i).b))], rfl, by simp, st_k [0, 1, 2] (by kernel_rfl), TVL.refl _, OVL.refl _⟩⟩⟩
  have h1 : decide (Int.ofNat i < Int.ofNat N) = true := by simp; omega
  have bi : (0 : Int) ≤ Int.ofNat i ∧ Int.ofNat i < (N : Int) := ⟨by simp, by simp; omega⟩
  by_cases e2 : i = 201
  · have h2 : decide ((200 : Int) < Int.ofNat i) = true := by simp; omega
    rw [show min N 201 = i by omega]
    exact ⟨_, _, (nvX_vc (R i).s (R i).j (R i).n (R i).m (R i).b N i KK KZ TT BL BB LN LM LB _).mpr ⟨h1, bi, trivial, h2, .inr ⟨[0, 1, 2], [], _, _, _, [some (R i).s.o, none, some (.rows 38 1 (R i).n (recF (R i).m (R i).b))], rfl, by simp, st_k [0, 1, 2] (by kernel_rfl), TVL.refl _, OVL.refl _⟩⟩⟩
  have h := hJI i
  have hfew := h.few
  have hrl := hLN i
  have H : NvH R N KK KZ TT BL BB LN LM LB i := ⟨h1, by simp; omega, ⟨by omega, by omega⟩, bi, ⟨by simp <;> omega, by simp <;> omega⟩, ⟨trivial, by omega, by omega, by omega⟩, ⟨by omega, trivial, by omega, by omega⟩, ⟨trivial, trivial, by omega, by omega⟩, hBL, hLN, hLM⟩
  have es := hRs i
  unfold nst at es
  by_cases q1 : KK i = 1
  · rw [if_pos q1] at es
    exact nvR H (decide_eq_true q1) (hLB i) h es
  rw [if_neg q1] at es
  by_cases q2 : KK i = 2
  · rw [if_pos q2] at es
    exact nvArm H (decide_eq_false q1) (decide_eq_true q2) es
  rw [if_neg q2] at es
  by_cases q3 : KK i = 3
  · rw [if_pos q3] at es
    exact nvFail3 H (decide_eq_false q1) (decide_eq_false q2) (decide_eq_true q3) (by omega) h.okm (h.idle (KZ i) (TT i)) es
  rw [if_neg q3] at es
  by_cases q4 : KK i = 4
  · rw [if_pos q4] at es
    exact nvFail4 H (decide_eq_false q1) (decide_eq_false q2) (decide_eq_false q3) (decide_eq_true q4) (by omega) h.okm (h.idle (KZ i) (TT i)) es
  rw [if_neg q4] at es
  exact nvD H (decide_eq_false q1) (decide_eq_false q2) (decide_eq_false q3) (decide_eq_false q4) (hBB i) h es
theorem never_law (N : Nat) (KK KZ : Nat → Int) (TT : Nat → Bool) (BL : Nat → Nat) (BB : Nat → Nat → Nat) (LN : Nat → Nat) (LM : Nat → Nat → Nat) (LB : Nat → Nat → Nat → Nat) (hN : N ≤ 1152921504606846976) (hKZ : ∀ i, KZ i ≤ 9223372036854775807) (hBL : ∀ i, BL i ≤ 140737488351232) (hBB : ∀ i t, BB i t < 256) (hLN : ∀ i, LN i ≤ 5864062014634) (hLM : ∀ i r, LM i r ≤ 140737488351232) (hLB : ∀ i r t, LB i r t < 256) : Con Tryd.prog 6 [.sv 5 N (nvF KK KZ TT BL BB LN LM LB)] [] (.b true) [] := by
  have hJI := nrun_JI KK KZ TT BL BB LN LM LB hKZ hBB hLB
  have lp := never_lp N KK KZ TT BL BB LN LM LB hN hKZ hBL hBB hLN hLM hLB (nrun KK KZ TT BL BB LN LM LB) rfl (fun _ => rfl) hJI
  have h := hJI (min N 201)
  generalize nrun KK KZ TT BL BB LN LM LB (min N 201) = R at lp h
  have hT := h.idle 0 false
  have kV := rev_con (S := R.s.fail) rfl h.okm.fail (by omega) 0 false
  have kF := fail2_con R.s
  generalize R.s.fail.revived 0 false = T at hT kV
  have kS := jsame_con R.n R.n (opM T R.j.area) R.m (opB T R.j.area) R.b (by have := h.few; omega)
  rw [hT.same_t] at kS
  exact con_of_run [] [] ((nvM_vc R.s R.s.fail T R.j R.n (opM T R.j.area) (opB T R.j.area) R.m R.b nS0 nJ0 R.n R.m R.b N KK KZ TT BL BB LN LM LB _).mpr ⟨awake_con, trivial, jbegin_con, lp, kF, kV, hT.open_con, kS.post (VW.refl _) (OVL.refl _), _, _, rfl, ret_k (by kernel_rfl)⟩)
end Go.Proofs.Jn
