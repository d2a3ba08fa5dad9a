/- Runs over unknown values, told by the kernel: part JqA. -/
import Derived.Test.YtpoedikibkhmcaaDoorJpA
set_option linter.unusedSimpArgs false
set_option linter.unusedVariables false
set_option maxRecDepth 20000
namespace Go.Proofs.Jn
open Go Go.Sim Go.Proofs Go.Proofs.Cd Go.Proofs.St Go.Proofs.Cl Go.Proofs.YtpoedikibkhmcaaDoor
theorem jown_vc (L : Nat) (f : Nat → Nat → CV) (K : Res → Orc → Prop) : runK Tryd.prog 1000000 (.call 25 [.sv 1 L f] (mkH [])) (Orc.s Orc.z Orc.z) K = (((1 = 1 ∧ 0 + L ≤ L) ∧ True
  ∧ True ∧ 0 + L ≤ 140737488355328 ∧ (3 * (0 + L) + 1536) * 1 ≤ 562949953421312) ∧ K (Res.rv (AV.sv 1 L f) { tree := T.n none (T.n none T.e T.e) T.e, next := 2, log := [1, 1, 0, 0] })
  Orc.z) := by kernel_rfl
theorem jrA_vc (s : SS) (j : JS) (s1 : SS) (j1 : JS) (N L i : Nat) (Z : Nat → Int) (bs : Nat → Nat) (rm : Int) (h1 : decide (Int.ofNat i < Int.ofNat N) = true) (h2 : decide ((100 :
  Int) < Int.ofNat i) = false) (h3 : decide ((pZ (Z (Int.toNat (Int.ofNat i)))) ≤ rm) = true) (h4 : (!decide (j1.room = rm - (pZ (Z (Int.toNat (Int.ofNat i)))))) = false) (K : Res →
  Orc → Prop) : runK Tryd.prog 1000000 (.code (loopAt Tryd.prog 7 0) 102 (mkT [(1, .sv 1 L (byF bs)), (5, .p 0 0), (6, .p 1 0), (7, .i .i64 rm), (19, .sv 1 N (fun i _ => .i .i64 (Z
  i))), (20, .i .i64 (Int.ofNat N)), (21, .i .i64 (Int.ofNat i))]) (mkH [some s.o, some j.o])) (Orc.t (Orc.f (Orc.m (Orc.cal [0, 1] (AV.i IntKind.i64 (0 : Int)) [Upd.set (SS.o s1),
  Upd.set (JS.o j1)] (Orc.s (Orc.t (Orc.t (Orc.c (Orc.c (Orc.t (Orc.c (Orc.f (Orc.c (Orc.c (Orc.inl (Orc.c (Orc.f Orc.z)))))))))))) (Orc.f (Orc.f (Orc.f (Orc.t (Orc.c
  Orc.z)))))))))) K = (decide (Int.ofNat i < Int.ofNat N) = true ∧ ((0 : Int) ≤ Int.ofNat i ∧ Int.ofNat i < ↑N) ∧ True ∧ decide ((100 : Int) < Int.ofNat i) = false ∧
  ((-9223372036854775808 : Int) ≤ (clZ (Z i)) + (46 : Int) ∧ (clZ (Z i)) + (46 : Int) ≤ (9223372036854775807 : Int)) ∧ ((47 : Int) ≠ (0 : Int) ∧ (-9223372036854775808 : Int) ≤
  Int.tdiv ((clZ (Z i)) + (46 : Int)) (47 : Int) ∧ Int.tdiv ((clZ (Z i)) + (46 : Int)) (47 : Int) ≤ (9223372036854775807 : Int)) ∧ ((1 = 1 ∧ 0 + Int.toNat (clZ (Z i)) ≤ Int.toNat
  (clZ (Z i))) ∧ ((0 : Int) ≤ clZ (Z i)) ∧ ((clZ (Z i)) ≤ clZ (Z i)) ∧ (clZ (Z i)) ≤ (1073741824 : Int)) ∧ Con Tryd.prog 24 [AV.p 1 0, AV.sv 1 (Int.toNat (clZ (Z i))) fun x j =>
  List.getD [CV.i IntKind.u8 (0 : Int)] j CV.p0] [some (SS.o s), some (JS.o j)] (AV.i IntKind.i64 (0 : Int)) [Upd.set (SS.o s1), Upd.set (JS.o j1)] ∧ True ∧ ((!!true == decide ((pZ
  (Z i)) ≤ rm)) = true → (!!true == decide ((pZ (Z i)) ≤ rm)) = true ∧ (!!true == decide ((pZ (Z i)) ≤ rm)) = true ∧ (!!true == decide ((pZ (Z i)) ≤ rm)) = true ∧ (!true == decide
  ((pZ (Z i)) ≤ rm)) = false ∧ (((-9223372036854775808 : Int) ≤ rm - pZ (Z i)) ∧ (rm - pZ (Z i)) ≤ (9223372036854775807 : Int)) ∧ True ∧ True ∧ (!decide (JS.room j1 = rm - pZ (Z
  i))) = false ∧ ((-9223372036854775808 : Int) ≤ Int.ofNat i + (1 : Int) ∧ Int.ofNat i + (1 : Int) ≤ (9223372036854775807 : Int)) ∧ K (Res.st XO.nrm (T.n none (T.n (some (AV.sv 1 L
  (byF bs))) (T.n none (T.n (some (AV.i IntKind.i64 (rm - pZ (Z i)))) (T.n none (T.n (some (AV.i IntKind.i64 (clZ (Z i)))) T.e T.e) (T.n (some (AV.b false)) T.e T.e)) (T.n (some
  (AV.i IntKind.i64 (Int.ofNat i))) (T.n (some (AV.i IntKind.i64 (0 : Int))) T.e T.e) (T.n (some (AV.i IntKind.i64 rm)) T.e T.e))) (T.n (some (AV.i IntKind.i64 (0 : Int))) (T.n
  (some (AV.sv 1 N fun i x => CV.i IntKind.i64 (Z i))) (T.n (some (AV.p 1 0)) T.e T.e) (T.n (some (AV.b false)) T.e T.e)) (T.n (some (AV.b (decide ((100 : Int) < Int.ofNat i))))
  (T.n (some (AV.b (decide ((pZ (Z i)) ≤ rm)))) T.e T.e) (T.n (some (AV.i IntKind.i64 (JS.room j1))) T.e T.e)))) (T.n (some (AV.p 0 0)) (T.n (some (AV.i IntKind.i64 (clZ (Z i))))
  (T.n none (T.n (some (AV.i IntKind.i64 (Int.tdiv ((clZ (Z i)) + (46 : Int)) (47 : Int)))) T.e T.e) (T.n (some (AV.tup [])) T.e T.e)) (T.n (some (AV.i IntKind.i64 (Z i))) (T.n
  (some (AV.i IntKind.i64 (pZ (Z i)))) T.e T.e) (T.n (some (AV.i IntKind.i64 (rm - pZ (Z i)))) T.e T.e))) (T.n none (T.n (some (AV.i IntKind.i64 (Int.ofNat i + (1 : Int)))) (T.n
  (some (AV.sv 1 (Int.toNat (clZ (Z i))) fun x j => List.getD [CV.i IntKind.u8 (0 : Int)] j CV.p0)) T.e T.e) (T.n (some (AV.i IntKind.i64 (0 : Int))) T.e T.e)) (T.n (some (AV.i
  IntKind.i64 (if (0 : Int) > Z i then (0 : Int) else Z i))) (T.n (some (AV.b !true == decide ((pZ (Z i)) ≤ rm))) T.e T.e) (T.n (some (AV.b !decide (JS.room j1 = rm - pZ (Z i))))
  T.e T.e))))) (T.n none (T.n none (T.n (some (AV.i IntKind.i64 (Int.ofNat i))) (T.n none (T.n (some (AV.i IntKind.i64 ((clZ (Z i)) + (46 : Int)))) T.e T.e) (T.n (some (AV.b false))
  T.e T.e)) (T.n (some (AV.pv 1 fun c => CV.i IntKind.i64 (Z i))) (T.n (some (AV.b true)) T.e T.e) (T.n (some (AV.i IntKind.i64 (pZ (Z i)))) T.e T.e))) (T.n none (T.n (some (AV.i
  IntKind.i64 (Int.ofNat N))) (T.n (some (AV.i IntKind.i64 (clZ (Z i)))) T.e T.e) (T.n (some (AV.b false)) T.e T.e)) (T.n (some (AV.i IntKind.i64 (Z i))) (T.n (some (AV.b !true ==
  decide ((pZ (Z i)) ≤ rm))) T.e T.e) (T.n (some (AV.i IntKind.i64 (rm - pZ (Z i)))) T.e T.e)))) (T.n (some (AV.p 1 0)) (T.n (some (AV.i IntKind.i64 (pZ (Z i)))) (T.n none (T.n
  (some (AV.i IntKind.i64 (pZ (Z i)))) T.e T.e) (T.n (some (AV.tup [])) T.e T.e)) (T.n (some (AV.i IntKind.i64 (Int.ofNat i))) (T.n (some (AV.i IntKind.i64 rm)) T.e T.e) (T.n (some
  (AV.p 1 0)) T.e T.e))) (T.n none (T.n (some (AV.b (decide (Int.ofNat i < Int.ofNat N)))) (T.n (some (AV.i IntKind.i64 (0 : Int))) T.e T.e) (T.n (some (AV.b true)) T.e T.e)) (T.n
  (some (AV.i IntKind.i64 (clZ (Z i)))) (T.n (some (AV.i IntKind.i64 (0 : Int))) T.e T.e) (T.n (some (AV.i IntKind.i64 (Int.ofNat i + (1 : Int)))) T.e T.e)))))) { tree := T.n (some (AObj.segs 77 33799 [{ st := 0, sz := 1, n := 1, f := oneF (CV.i IntKind.i64 (Int.ofNat (SS.n s1))) }, { st := 1, sz := 65, n := 512, f := durF (SS.dur s1) (SS.torn s1) }, { st := 33281, sz := 1, n := 1, f := oneF (CV.opv (pB (SS.P s1)) 66 (pW (SS.P s1))) }, { st := 33282, sz := 1, n := 512, f := latF (lB (SS.P s1)) (lW (SS.P s1)) }, { st := 33794, sz := 5, n := 1, f := tailF (Int.ofNat (List.length (SS.P s1))) (Int.ofNat (SS.wr s1)) (SS.off s1) (SS.armed s1) (Int.ofNat (SS.left s1)) }])) (T.n (some (AObj.cells 86 6 [] (T.n (some (AV.p 0 0)) (T.n (some (AV.i IntKind.i64 (Int.ofNat (JS.gen j1)))) (T.n (some (AV.i IntKind.i64 (Int.ofNat (JS.recs j1)))) T.e T.e) (T.n (some (AV.b (JS.dead j1))) T.e T.e)) (T.n (some (AV.i IntKind.i64 (Int.ofNat (JS.area j1)))) (T.n (some (AV.i IntKind.i64 (JS.room j1))) T.e T.e) T.e)))) T.e T.e) (T.n none T.e T.e), next := 3, log := [1, 0, 2, 2] })
  Orc.z) ∧ ((!!true == decide ((pZ (Z i)) ≤ rm)) = false → (!!true == decide ((pZ (Z i)) ≤ rm)) = false ∧ (!!true == decide ((pZ (Z i)) ≤ rm)) = false ∧ (!!true == decide ((pZ (Z
  i)) ≤ rm)) = false ∧ (!true == decide ((pZ (Z i)) ≤ rm)) = true ∧ K (Res.st XO.ret (T.n none (T.n (some (AV.sv 1 L (byF bs))) (T.n none (T.n (some (AV.i IntKind.i64 rm)) (T.n none
  (T.n (some (AV.i IntKind.i64 (clZ (Z i)))) T.e T.e) (T.n (some (AV.tup [])) T.e T.e)) (T.n (some (AV.i IntKind.i64 (Int.ofNat i))) (T.n (some (AV.i IntKind.i64 (0 : Int))) T.e
  T.e) T.e)) (T.n (some (AV.i IntKind.i64 (0 : Int))) (T.n (some (AV.sv 1 N fun i x => CV.i IntKind.i64 (Z i))) (T.n (some (AV.p 1 0)) T.e T.e) (T.n (some (AV.tup [])) T.e T.e))
  (T.n (some (AV.b (decide ((100 : Int) < Int.ofNat i)))) (T.n (some (AV.b (decide ((pZ (Z i)) ≤ rm)))) T.e T.e) T.e))) (T.n (some (AV.p 0 0)) (T.n (some (AV.i IntKind.i64 (clZ (Z
  i)))) (T.n none (T.n (some (AV.i IntKind.i64 (Int.tdiv ((clZ (Z i)) + (46 : Int)) (47 : Int)))) T.e T.e) (T.n (some (AV.tup [])) T.e T.e)) (T.n (some (AV.i IntKind.i64 (Z i)))
  (T.n (some (AV.i IntKind.i64 (pZ (Z i)))) T.e T.e) T.e)) (T.n none (T.n (some (AV.i IntKind.i64 (Int.ofNat i))) (T.n (some (AV.sv 1 (Int.toNat (clZ (Z i))) fun x j => List.getD
  [CV.i IntKind.u8 (0 : Int)] j CV.p0)) T.e T.e) T.e) (T.n (some (AV.i IntKind.i64 (if (0 : Int) > Z i then (0 : Int) else Z i))) (T.n (some (AV.b !true == decide ((pZ (Z i)) ≤
  rm))) T.e T.e) T.e)))) (T.n none (T.n (some (AV.b false)) (T.n (some (AV.i IntKind.i64 (Int.ofNat i))) (T.n none (T.n (some (AV.i IntKind.i64 ((clZ (Z i)) + (46 : Int)))) T.e T.e)
  (T.n (some (AV.tup [])) T.e T.e)) (T.n (some (AV.pv 1 fun c => CV.i IntKind.i64 (Z i))) (T.n (some (AV.b true)) T.e T.e) T.e)) (T.n none (T.n (some (AV.i IntKind.i64 (Int.ofNat
  N))) (T.n (some (AV.i IntKind.i64 (clZ (Z i)))) T.e T.e) (T.n (some (AV.b true)) T.e T.e)) (T.n (some (AV.i IntKind.i64 (Z i))) (T.n (some (AV.b !true == decide ((pZ (Z i)) ≤
  rm))) T.e T.e) T.e))) (T.n (some (AV.p 1 0)) (T.n (some (AV.i IntKind.i64 (pZ (Z i)))) (T.n none (T.n (some (AV.i IntKind.i64 (pZ (Z i)))) T.e T.e) (T.n (some (AV.tup [])) T.e
  T.e)) (T.n (some (AV.i IntKind.i64 (Int.ofNat i))) (T.n (some (AV.i IntKind.i64 rm)) T.e T.e) T.e)) (T.n none (T.n (some (AV.b (decide (Int.ofNat i < Int.ofNat N)))) (T.n (some
  (AV.i IntKind.i64 (0 : Int))) T.e T.e) T.e) (T.n (some (AV.i IntKind.i64 (clZ (Z i)))) (T.n (some (AV.tup [])) T.e T.e) T.e))))) { tree := T.n (some (AObj.segs 77 33799 [{ st := 0, sz := 1, n := 1, f := oneF (CV.i IntKind.i64 (Int.ofNat (SS.n s1))) }, { st := 1, sz := 65, n := 512, f := durF (SS.dur s1) (SS.torn s1) }, { st := 33281, sz := 1, n := 1, f := oneF (CV.opv (pB (SS.P s1)) 66 (pW (SS.P s1))) }, { st := 33282, sz := 1, n := 512, f := latF (lB (SS.P s1)) (lW (SS.P s1)) }, { st := 33794, sz := 5, n := 1, f := tailF (Int.ofNat (List.length (SS.P s1))) (Int.ofNat (SS.wr s1)) (SS.off s1) (SS.armed s1) (Int.ofNat (SS.left s1)) }])) (T.n (some (AObj.cells 86 6 [] (T.n (some (AV.p 0 0)) (T.n (some (AV.i IntKind.i64 (Int.ofNat (JS.gen j1)))) (T.n (some (AV.i IntKind.i64 (Int.ofNat (JS.recs j1)))) T.e T.e) (T.n (some (AV.b (JS.dead j1))) T.e T.e)) (T.n (some (AV.i IntKind.i64 (Int.ofNat (JS.area j1)))) (T.n (some (AV.i IntKind.i64 (JS.room j1))) T.e T.e) T.e)))) T.e T.e) (T.n none T.e T.e), next := 3, log := [1, 0, 2, 2] })
  Orc.z)) := by kernel_rfl
theorem jrB_vc (s : SS) (j : JS) (N L i : Nat) (Z : Nat → Int) (bs : Nat → Nat) (rm : Int) (h1 : decide (Int.ofNat i < Int.ofNat N) = true) (h2 : decide ((100 : Int) < Int.ofNat i)
  = false) (h3 : decide ((pZ (Z (Int.toNat (Int.ofNat i)))) ≤ rm) = false) (h4 : (!decide (j.room = rm)) = false) (K : Res → Orc → Prop) : runK Tryd.prog 1000000 (.code (loopAt
  Tryd.prog 7 0) 102 (mkT [(1, .sv 1 L (byF bs)), (5, .p 0 0), (6, .p 1 0), (7, .i .i64 rm), (19, .sv 1 N (fun i _ => .i .i64 (Z i))), (20, .i .i64 (Int.ofNat N)), (21, .i .i64
  (Int.ofNat i))]) (mkH [some s.o, some j.o])) (Orc.t (Orc.f (Orc.m (Orc.cal [0, 1] (AV.i IntKind.i64 (12 : Int)) [Upd.keep, Upd.keep] (Orc.s (Orc.t (Orc.t (Orc.c (Orc.c (Orc.t
  (Orc.c (Orc.f (Orc.c (Orc.c (Orc.inl (Orc.c (Orc.f Orc.z)))))))))))) (Orc.f (Orc.f (Orc.f (Orc.t (Orc.c Orc.z)))))))))) K = (decide (Int.ofNat i < Int.ofNat N) = true ∧ ((0 : Int)
  ≤ Int.ofNat i ∧ Int.ofNat i < ↑N) ∧ True ∧ decide ((100 : Int) < Int.ofNat i) = false ∧ ((-9223372036854775808 : Int) ≤ (clZ (Z i)) + (46 : Int) ∧ (clZ (Z i)) + (46 : Int) ≤
  (9223372036854775807 : Int)) ∧ ((47 : Int) ≠ (0 : Int) ∧ (-9223372036854775808 : Int) ≤ Int.tdiv ((clZ (Z i)) + (46 : Int)) (47 : Int) ∧ Int.tdiv ((clZ (Z i)) + (46 : Int)) (47 :
  Int) ≤ (9223372036854775807 : Int)) ∧ ((1 = 1 ∧ 0 + Int.toNat (clZ (Z i)) ≤ Int.toNat (clZ (Z i))) ∧ ((0 : Int) ≤ clZ (Z i)) ∧ ((clZ (Z i)) ≤ clZ (Z i)) ∧ (clZ (Z i)) ≤
  (1073741824 : Int)) ∧ Con Tryd.prog 24 [AV.p 1 0, AV.sv 1 (Int.toNat (clZ (Z i))) fun x j => List.getD [CV.i IntKind.u8 (0 : Int)] j CV.p0] [some (SS.o s), some (JS.o j)] (AV.i
  IntKind.i64 (12 : Int)) [Upd.keep, Upd.keep] ∧ True ∧ ((!!false == decide ((pZ (Z i)) ≤ rm)) = true → (!!false == decide ((pZ (Z i)) ≤ rm)) = true ∧ (!!false == decide ((pZ (Z i))
  ≤ rm)) = true ∧ (!!false == decide ((pZ (Z i)) ≤ rm)) = true ∧ (!false == decide ((pZ (Z i)) ≤ rm)) = false ∧ True ∧ True ∧ (!decide (JS.room j = rm)) = false ∧
  ((-9223372036854775808 : Int) ≤ Int.ofNat i + (1 : Int) ∧ Int.ofNat i + (1 : Int) ≤ (9223372036854775807 : Int)) ∧ K (Res.st XO.nrm (T.n none (T.n (some (AV.sv 1 L (byF bs))) (T.n
  none (T.n (some (AV.i IntKind.i64 rm)) (T.n none (T.n (some (AV.i IntKind.i64 (clZ (Z i)))) T.e T.e) (T.n (some (AV.b true)) T.e T.e)) (T.n (some (AV.i IntKind.i64 (Int.ofNat i)))
  (T.n (some (AV.i IntKind.i64 (12 : Int))) T.e T.e) T.e)) (T.n (some (AV.i IntKind.i64 (12 : Int))) (T.n (some (AV.sv 1 N fun i x => CV.i IntKind.i64 (Z i))) (T.n (some (AV.p 1 0))
  T.e T.e) (T.n (some (AV.b false)) T.e T.e)) (T.n (some (AV.b (decide ((100 : Int) < Int.ofNat i)))) (T.n (some (AV.b (decide ((pZ (Z i)) ≤ rm)))) T.e T.e) (T.n (some (AV.i
  IntKind.i64 (JS.room j))) T.e T.e)))) (T.n (some (AV.p 0 0)) (T.n (some (AV.i IntKind.i64 (clZ (Z i)))) (T.n none (T.n (some (AV.i IntKind.i64 (Int.tdiv ((clZ (Z i)) + (46 : Int))
  (47 : Int)))) T.e T.e) (T.n (some (AV.i IntKind.i64 (12 : Int))) T.e T.e)) (T.n (some (AV.i IntKind.i64 (Z i))) (T.n (some (AV.i IntKind.i64 (pZ (Z i)))) T.e T.e) T.e)) (T.n none
  (T.n (some (AV.i IntKind.i64 (Int.ofNat i + (1 : Int)))) (T.n (some (AV.sv 1 (Int.toNat (clZ (Z i))) fun x j => List.getD [CV.i IntKind.u8 (0 : Int)] j CV.p0)) T.e T.e) (T.n (some
  (AV.i IntKind.i64 (12 : Int))) T.e T.e)) (T.n (some (AV.i IntKind.i64 (if (0 : Int) > Z i then (0 : Int) else Z i))) (T.n (some (AV.b !false == decide ((pZ (Z i)) ≤ rm))) T.e T.e)
  (T.n (some (AV.b !decide (JS.room j = rm))) T.e T.e))))) (T.n none (T.n none (T.n (some (AV.i IntKind.i64 (Int.ofNat i))) (T.n none (T.n (some (AV.i IntKind.i64 ((clZ (Z i)) + (46
  : Int)))) T.e T.e) (T.n (some (AV.b true)) T.e T.e)) (T.n (some (AV.pv 1 fun c => CV.i IntKind.i64 (Z i))) (T.n (some (AV.b false)) T.e T.e) T.e)) (T.n none (T.n (some (AV.i
  IntKind.i64 (Int.ofNat N))) (T.n (some (AV.i IntKind.i64 (clZ (Z i)))) T.e T.e) (T.n (some (AV.b false)) T.e T.e)) (T.n (some (AV.i IntKind.i64 (Z i))) (T.n (some (AV.b !false ==
  decide ((pZ (Z i)) ≤ rm))) T.e T.e) (T.n (some (AV.i IntKind.i64 rm)) T.e T.e)))) (T.n (some (AV.p 1 0)) (T.n (some (AV.i IntKind.i64 (pZ (Z i)))) (T.n none (T.n (some (AV.i
  IntKind.i64 (pZ (Z i)))) T.e T.e) (T.n (some (AV.b false)) T.e T.e)) (T.n (some (AV.i IntKind.i64 (Int.ofNat i))) (T.n (some (AV.i IntKind.i64 rm)) T.e T.e) (T.n (some (AV.p 1 0))
  T.e T.e))) (T.n none (T.n (some (AV.b (decide (Int.ofNat i < Int.ofNat N)))) (T.n (some (AV.i IntKind.i64 (12 : Int))) T.e T.e) (T.n (some (AV.b false)) T.e T.e)) (T.n (some (AV.i
  IntKind.i64 (clZ (Z i)))) (T.n (some (AV.i IntKind.i64 (12 : Int))) T.e T.e) (T.n (some (AV.i IntKind.i64 (Int.ofNat i + (1 : Int)))) T.e T.e)))))) { tree := T.n (some (AObj.segs 77 33799 [{ st := 0, sz := 1, n := 1, f := oneF (CV.i IntKind.i64 (Int.ofNat (SS.n s))) }, { st := 1, sz := 65, n := 512, f := durF (SS.dur s) (SS.torn s) }, { st := 33281, sz := 1, n := 1, f := oneF (CV.opv (pB (SS.P s)) 66 (pW (SS.P s))) }, { st := 33282, sz := 1, n := 512, f := latF (lB (SS.P s)) (lW (SS.P s)) }, { st := 33794, sz := 5, n := 1, f := tailF (Int.ofNat (List.length (SS.P s))) (Int.ofNat (SS.wr s)) (SS.off s) (SS.armed s) (Int.ofNat (SS.left s)) }])) (T.n (some (AObj.cells 86 6 [] (T.n (some (AV.p 0 0)) (T.n (some (AV.i IntKind.i64 (Int.ofNat (JS.gen j)))) (T.n (some (AV.i IntKind.i64 (Int.ofNat (JS.recs j)))) T.e T.e) (T.n (some (AV.b (JS.dead j))) T.e T.e)) (T.n (some (AV.i IntKind.i64 (Int.ofNat (JS.area j)))) (T.n (some (AV.i IntKind.i64 (JS.room j))) T.e T.e) T.e)))) T.e T.e) (T.n none T.e T.e), next := 3, log := [2, 2] })
  Orc.z) ∧ ((!!false == decide ((pZ (Z i)) ≤ rm)) = false → (!!false == decide ((pZ (Z i)) ≤ rm)) = false ∧ (!!false == decide ((pZ (Z i)) ≤ rm)) = false ∧ (!!false == decide ((pZ
  (Z i)) ≤ rm)) = false ∧ (!false == decide ((pZ (Z i)) ≤ rm)) = true ∧ K (Res.st XO.ret (T.n none (T.n (some (AV.sv 1 L (byF bs))) (T.n none (T.n (some (AV.i IntKind.i64 rm)) (T.n
  none (T.n (some (AV.i IntKind.i64 (clZ (Z i)))) T.e T.e) (T.n (some (AV.tup [])) T.e T.e)) (T.n (some (AV.i IntKind.i64 (Int.ofNat i))) (T.n (some (AV.i IntKind.i64 (12 : Int)))
  T.e T.e) T.e)) (T.n (some (AV.i IntKind.i64 (12 : Int))) (T.n (some (AV.sv 1 N fun i x => CV.i IntKind.i64 (Z i))) (T.n (some (AV.p 1 0)) T.e T.e) (T.n (some (AV.tup [])) T.e
  T.e)) (T.n (some (AV.b (decide ((100 : Int) < Int.ofNat i)))) (T.n (some (AV.b (decide ((pZ (Z i)) ≤ rm)))) T.e T.e) T.e))) (T.n (some (AV.p 0 0)) (T.n (some (AV.i IntKind.i64
  (clZ (Z i)))) (T.n none (T.n (some (AV.i IntKind.i64 (Int.tdiv ((clZ (Z i)) + (46 : Int)) (47 : Int)))) T.e T.e) (T.n (some (AV.tup [])) T.e T.e)) (T.n (some (AV.i IntKind.i64 (Z
  i))) (T.n (some (AV.i IntKind.i64 (pZ (Z i)))) T.e T.e) T.e)) (T.n none (T.n (some (AV.i IntKind.i64 (Int.ofNat i))) (T.n (some (AV.sv 1 (Int.toNat (clZ (Z i))) fun x j =>
  List.getD [CV.i IntKind.u8 (0 : Int)] j CV.p0)) T.e T.e) T.e) (T.n (some (AV.i IntKind.i64 (if (0 : Int) > Z i then (0 : Int) else Z i))) (T.n (some (AV.b !false == decide ((pZ (Z
  i)) ≤ rm))) T.e T.e) T.e)))) (T.n none (T.n (some (AV.b false)) (T.n (some (AV.i IntKind.i64 (Int.ofNat i))) (T.n none (T.n (some (AV.i IntKind.i64 ((clZ (Z i)) + (46 : Int))))
  T.e T.e) (T.n (some (AV.tup [])) T.e T.e)) (T.n (some (AV.pv 1 fun c => CV.i IntKind.i64 (Z i))) (T.n (some (AV.b false)) T.e T.e) T.e)) (T.n none (T.n (some (AV.i IntKind.i64
  (Int.ofNat N))) (T.n (some (AV.i IntKind.i64 (clZ (Z i)))) T.e T.e) (T.n (some (AV.b true)) T.e T.e)) (T.n (some (AV.i IntKind.i64 (Z i))) (T.n (some (AV.b !false == decide ((pZ
  (Z i)) ≤ rm))) T.e T.e) T.e))) (T.n (some (AV.p 1 0)) (T.n (some (AV.i IntKind.i64 (pZ (Z i)))) (T.n none (T.n (some (AV.i IntKind.i64 (pZ (Z i)))) T.e T.e) (T.n (some (AV.tup
  [])) T.e T.e)) (T.n (some (AV.i IntKind.i64 (Int.ofNat i))) (T.n (some (AV.i IntKind.i64 rm)) T.e T.e) T.e)) (T.n none (T.n (some (AV.b (decide (Int.ofNat i < Int.ofNat N)))) (T.n
  (some (AV.i IntKind.i64 (12 : Int))) T.e T.e) T.e) (T.n (some (AV.i IntKind.i64 (clZ (Z i)))) (T.n (some (AV.tup [])) T.e T.e) T.e))))) { tree := T.n (some (AObj.segs 77 33799 [{ st := 0, sz := 1, n := 1, f := oneF (CV.i IntKind.i64 (Int.ofNat (SS.n s))) }, { st := 1, sz := 65, n := 512, f := durF (SS.dur s) (SS.torn s) }, { st := 33281, sz := 1, n := 1, f := oneF (CV.opv (pB (SS.P s)) 66 (pW (SS.P s))) }, { st := 33282, sz := 1, n := 512, f := latF (lB (SS.P s)) (lW (SS.P s)) }, { st := 33794, sz := 5, n := 1, f := tailF (Int.ofNat (List.length (SS.P s))) (Int.ofNat (SS.wr s)) (SS.off s) (SS.armed s) (Int.ofNat (SS.left s)) }])) (T.n (some (AObj.cells 86 6 [] (T.n (some (AV.p 0 0)) (T.n (some (AV.i IntKind.i64 (Int.ofNat (JS.gen j)))) (T.n (some (AV.i IntKind.i64 (Int.ofNat (JS.recs j)))) T.e T.e) (T.n (some (AV.b (JS.dead j))) T.e T.e)) (T.n (some (AV.i IntKind.i64 (Int.ofNat (JS.area j)))) (T.n (some (AV.i IntKind.i64 (JS.room j))) T.e T.e) T.e)))) T.e T.e) (T.n none T.e T.e), next := 3, log := [2, 2] })
  Orc.z)) := by kernel_rfl
theorem jrX_vc (s : SS) (j : JS) (N L i : Nat) (Z : Nat → Int) (bs : Nat → Nat) (rm : Int) (h1 : decide (Int.ofNat i < Int.ofNat N) = true) (h2 : decide ((100 : Int) < Int.ofNat i)
  = true) (K : Res → Orc → Prop) : runK Tryd.prog 1000000 (.code (loopAt Tryd.prog 7 0) 102 (mkT [(1, .sv 1 L (byF bs)), (5, .p 0 0), (6, .p 1 0), (7, .i .i64 rm), (19, .sv 1 N (fun
  i _ => .i .i64 (Z i))), (20, .i .i64 (Int.ofNat N)), (21, .i .i64 (Int.ofNat i))]) (mkH [some s.o, some j.o])) (Orc.t (Orc.t Orc.z)) K = (decide (Int.ofNat i < Int.ofNat N) = true
  ∧ ((0 : Int) ≤ Int.ofNat i ∧ Int.ofNat i < ↑N) ∧ True ∧ decide ((100 : Int) < Int.ofNat i) = true ∧ K (Res.st (XO.exit 0) (T.n none (T.n (some (AV.sv 1 L (byF bs))) (T.n none (T.n
  (some (AV.i IntKind.i64 rm)) T.e (T.n (some (AV.i IntKind.i64 (Int.ofNat i))) T.e T.e)) (T.n none (T.n (some (AV.sv 1 N fun i x => CV.i IntKind.i64 (Z i))) T.e T.e) (T.n (some
  (AV.b (decide ((100 : Int) < Int.ofNat i)))) T.e T.e))) (T.n (some (AV.p 0 0)) (T.n (some (AV.i IntKind.i64 (Z i))) T.e (T.n (some (AV.i IntKind.i64 (Z i))) T.e T.e)) (T.n none
  (T.n (some (AV.i IntKind.i64 (Int.ofNat i))) T.e T.e) T.e))) (T.n none (T.n none (T.n (some (AV.i IntKind.i64 (Int.ofNat i))) T.e (T.n (some (AV.pv 1 fun c => CV.i IntKind.i64 (Z
  i))) T.e T.e)) (T.n none (T.n (some (AV.i IntKind.i64 (Int.ofNat N))) T.e T.e) T.e)) (T.n (some (AV.p 1 0)) (T.n none T.e (T.n (some (AV.i IntKind.i64 (Int.ofNat i))) T.e T.e))
  (T.n none (T.n (some (AV.b (decide (Int.ofNat i < Int.ofNat N)))) T.e T.e) T.e)))) { tree := T.n (some (AObj.segs 77 33799 [{ st := 0, sz := 1, n := 1, f := oneF (CV.i IntKind.i64 (Int.ofNat (SS.n s))) }, { st := 1, sz := 65, n := 512, f := durF (SS.dur s) (SS.torn s) }, { st := 33281, sz := 1, n := 1, f := oneF (CV.opv (pB (SS.P s)) 66 (pW (SS.P s))) }, { st := 33282, sz := 1, n := 512, f := latF (lB (SS.P s)) (lW (SS.P s)) }, { st := 33794, sz := 5, n := 1, f := tailF (Int.ofNat (List.length (SS.P s))) (Int.ofNat (SS.wr s)) (SS.off s) (SS.armed s) (Int.ofNat (SS.left s)) }])) (T.n (some (AObj.cells 86 6 [] (T.n (some (AV.p 0 0)) (T.n (some (AV.i IntKind.i64 (Int.ofNat (JS.gen j)))) (T.n (some (AV.i IntKind.i64 (Int.ofNat (JS.recs j)))) T.e T.e) (T.n (some (AV.b (JS.dead j))) T.e T.e)) (T.n (some (AV.i IntKind.i64 (Int.ofNat (JS.area j)))) (T.n (some (AV.i IntKind.i64 (JS.room j))) T.e T.e) T.e)))) T.e T.e) T.e, next := 2, log := [] })
  Orc.z) := by kernel_rfl
theorem jrY_vc (s : SS) (j : JS) (N L i : Nat) (Z : Nat → Int) (bs : Nat → Nat) (rm : Int) (h1 : decide (Int.ofNat i < Int.ofNat N) = false) (K : Res → Orc → Prop) : runK Tryd.prog
  1000000 (.code (loopAt Tryd.prog 7 0) 102 (mkT [(1, .sv 1 L (byF bs)), (5, .p 0 0), (6, .p 1 0), (7, .i .i64 rm), (19, .sv 1 N (fun i _ => .i .i64 (Z i))), (20, .i .i64 (Int.ofNat
  N)), (21, .i .i64 (Int.ofNat i))]) (mkH [some s.o, some j.o])) (Orc.f Orc.z) K = (decide (Int.ofNat i < Int.ofNat N) = false ∧ K (Res.st (XO.exit 0) (T.n none (T.n (some (AV.sv 1
  L (byF bs))) (T.n none (T.n (some (AV.i IntKind.i64 rm)) T.e T.e) (T.n none (T.n (some (AV.sv 1 N fun i x => CV.i IntKind.i64 (Z i))) T.e T.e) T.e)) (T.n (some (AV.p 0 0)) T.e
  (T.n none (T.n (some (AV.i IntKind.i64 (Int.ofNat i))) T.e T.e) T.e))) (T.n none (T.n none T.e (T.n none (T.n (some (AV.i IntKind.i64 (Int.ofNat N))) T.e T.e) T.e)) (T.n (some
  (AV.p 1 0)) T.e (T.n none (T.n (some (AV.b (decide (Int.ofNat i < Int.ofNat N)))) T.e T.e) T.e)))) { tree := T.n (some (AObj.segs 77 33799 [{ st := 0, sz := 1, n := 1, f := oneF (CV.i IntKind.i64 (Int.ofNat (SS.n s))) }, { st := 1, sz := 65, n := 512, f := durF (SS.dur s) (SS.torn s) }, { st := 33281, sz := 1, n := 1, f := oneF (CV.opv (pB (SS.P s)) 66 (pW (SS.P s))) }, { st := 33282, sz := 1, n := 512, f := latF (lB (SS.P s)) (lW (SS.P s)) }, { st := 33794, sz := 5, n := 1, f := tailF (Int.ofNat (List.length (SS.P s))) (Int.ofNat (SS.wr s)) (SS.off s) (SS.armed s) (Int.ofNat (SS.left s)) }])) (T.n (some (AObj.cells 86 6 [] (T.n (some (AV.p 0 0)) (T.n (some (AV.i IntKind.i64 (Int.ofNat (JS.gen j)))) (T.n (some (AV.i IntKind.i64 (Int.ofNat (JS.recs j)))) T.e T.e) (T.n (some (AV.b (JS.dead j))) T.e T.e)) (T.n (some (AV.i IntKind.i64 (Int.ofNat (JS.area j)))) (T.n (some (AV.i IntKind.i64 (JS.room j))) T.e T.e) T.e)))) T.e T.e) T.e, next := 2, log := [] })
  Orc.z) := by kernel_rfl
theorem jrM_vc (s : SS) (j : JS) (s0 : SS) (j0 : JS) (N L : Nat) (Z : Nat → Int) (bs : Nat → Nat) (h1 : decide ((1128 : Int) < Int.ofNat L) = true) (K : Res → Orc → Prop) : runK
  Tryd.prog 1000000 (.call 7 [.sv 1 N (fun i _ => .i .i64 (Z i)), .sv 1 L (byF bs)] (mkH [])) (Orc.cal [] (AV.b true) [] (Orc.c (Orc.cal [] (AV.tup [AV.p 0 0, AV.p 1 0]) [Upd.set
  (SS.o s0), Upd.set (JS.o j0)] (Orc.lop [0, 1] [1, 5, 6, 7, 19, 20, 21] 2 (XO.exit 0) [(1, AV.sv 1 L (byF bs)), (5, AV.p 0 0), (6, AV.p 1 0)] [some (SS.o s), some (JS.o j)]
  (Orc.inl (Orc.c (Orc.t (Orc.cal [] (AV.sv 1 L (byF bs)) [] (Orc.cal [0, 1, 2] (AV.i IntKind.i64 (2 : Int)) [Upd.keep, Upd.keep, Upd.gone] (Orc.c (Orc.c (Orc.inl (Orc.c (Orc.c
  (Orc.c (Orc.c Orc.z)))))))))))))))) K = (Con Tryd.prog 11 [] [] (AV.b true) [] ∧ True ∧ Con Tryd.prog 37 [] [] (AV.tup [AV.p 0 0, AV.p 1 0]) [Upd.set (SS.o s0), Upd.set (JS.o j0)]
  ∧ LDoes Tryd.prog (loopAt Tryd.prog 7 0) 102 2 (mkT [(1, AV.sv 1 L (byF bs)), (5, AV.p 0 0), (6, AV.p 1 0), (7, AV.i IntKind.i64 (60 : Int)), (19, AV.sv 1 N fun i x => CV.i
  IntKind.i64 (Z i)), (20, AV.i IntKind.i64 (Int.ofNat N)), (21, AV.i IntKind.i64 (0 : Int))]) [some (SS.o s0), some (JS.o j0)] (XO.exit 0) (mkT [(1, AV.sv 1 L (byF bs)), (5, AV.p 0
  0), (6, AV.p 1 0)]) [some (SS.o s), some (JS.o j)] ∧ True ∧ True ∧ decide ((1128 : Int) < Int.ofNat L) = true ∧ Con Tryd.prog 25 [AV.sv 1 L (byF bs)] [] (AV.sv 1 L (byF bs)) [] ∧
  Con Tryd.prog 14 [AV.p 1 0, AV.l 2 0 1 1 1 true] [some (SS.o s), some (JS.o j), some (cellsO 38 [AV.sv 1 L (byF bs)])] (AV.i IntKind.i64 (2 : Int)) [Upd.keep, Upd.keep, Upd.gone]
  ∧ True ∧ True ∧ K (Res.rv (AV.b (decide (Int.ofNat (JS.gen j) = Int.ofNat (JS.gen j)))) { tree := T.n (some (AObj.segs 77 33799 [{ st := 0, sz := 1, n := 1, f := oneF (CV.i IntKind.i64 (Int.ofNat (SS.n s))) }, { st := 1, sz := 65, n := 512, f := durF (SS.dur s) (SS.torn s) }, { st := 33281, sz := 1, n := 1, f := oneF (CV.opv (pB (SS.P s)) 66 (pW (SS.P s))) }, { st := 33282, sz := 1, n := 512, f := latF (lB (SS.P s)) (lW (SS.P s)) }, { st := 33794, sz := 5, n := 1, f := tailF (Int.ofNat (List.length (SS.P s))) (Int.ofNat (SS.wr s)) (SS.off s) (SS.armed s) (Int.ofNat (SS.left s)) }])) (T.n (some (AObj.cells 86 6 [] (T.n (some (AV.p 0 0)) (T.n (some (AV.i IntKind.i64 (Int.ofNat (JS.gen j)))) (T.n (some (AV.i IntKind.i64 (Int.ofNat (JS.recs j)))) T.e T.e) (T.n (some (AV.b (JS.dead j))) T.e T.e)) (T.n (some (AV.i IntKind.i64 (Int.ofNat (JS.area j)))) (T.n (some (AV.i IntKind.i64 (JS.room j))) T.e T.e) T.e)))) T.e T.e) (T.n none T.e T.e), next := 3, log := [2, 2, 1, 0, 1, 0] })
  Orc.z) := by kernel_rfl
theorem jrN_vc (s : SS) (j : JS) (s1 : SS) (j1 : JS) (s0 : SS) (j0 : JS) (s2 : SS) (j2 : JS) (N L : Nat) (Z : Nat → Int) (bs : Nat → Nat) (h1 : decide ((1128 : Int) < Int.ofNat L)
  = false) (h2 : decide (Int.ofNat j1.recs = 2) = true) (h3 : decide (Int.ofNat j.gen < Int.ofNat j1.gen) = true) (K : Res → Orc → Prop) : runK Tryd.prog 1000000 (.call 7 [.sv 1 N
  (fun i _ => .i .i64 (Z i)), .sv 1 L (byF bs)] (mkH [])) (Orc.cal [] (AV.b true) [] (Orc.c (Orc.cal [] (AV.tup [AV.p 0 0, AV.p 1 0]) [Upd.set (SS.o s0), Upd.set (JS.o j0)] (Orc.lop
  [0, 1] [1, 5, 6, 7, 19, 20, 21] 2 (XO.exit 0) [(1, AV.sv 1 L (byF bs)), (5, AV.p 0 0), (6, AV.p 1 0)] [some (SS.o s), some (JS.o j)] (Orc.inl (Orc.c (Orc.f (Orc.cal [] (AV.sv 1 L
  (byF bs)) [] (Orc.cal [0, 1, 2] (AV.i IntKind.i64 (0 : Int)) [Upd.set (SS.o s1), Upd.set (JS.o j1), Upd.gone] (Orc.c (Orc.c (Orc.inl (Orc.c (Orc.c (Orc.c (Orc.t (Orc.t (Orc.inl
  (Orc.c (Orc.t (Orc.t (Orc.t (Orc.t (Orc.t (Orc.cal [0, 1] (AV.i IntKind.i64 (0 : Int)) [Upd.set (SS.o s2), Upd.set (JS.o j2)] (Orc.t (Orc.t Orc.z))))))))))))))))))))))))))) K =
  (Con Tryd.prog 11 [] [] (AV.b true) [] ∧ True ∧ Con Tryd.prog 37 [] [] (AV.tup [AV.p 0 0, AV.p 1 0]) [Upd.set (SS.o s0), Upd.set (JS.o j0)] ∧ LDoes Tryd.prog (loopAt Tryd.prog 7
  0) 102 2 (mkT [(1, AV.sv 1 L (byF bs)), (5, AV.p 0 0), (6, AV.p 1 0), (7, AV.i IntKind.i64 (60 : Int)), (19, AV.sv 1 N fun i x => CV.i IntKind.i64 (Z i)), (20, AV.i IntKind.i64
  (Int.ofNat N)), (21, AV.i IntKind.i64 (0 : Int))]) [some (SS.o s0), some (JS.o j0)] (XO.exit 0) (mkT [(1, AV.sv 1 L (byF bs)), (5, AV.p 0 0), (6, AV.p 1 0)]) [some (SS.o s), some
  (JS.o j)] ∧ True ∧ True ∧ decide ((1128 : Int) < Int.ofNat L) = false ∧ Con Tryd.prog 25 [AV.sv 1 L (byF bs)] [] (AV.sv 1 L (byF bs)) [] ∧ Con Tryd.prog 14 [AV.p 1 0, AV.l 2 0 2 2
  1 true] [some (SS.o s), some (JS.o j), some (cellsO 38 [AV.sv 1 L (byF bs), AV.l0])] (AV.i IntKind.i64 (0 : Int)) [Upd.set (SS.o s1), Upd.set (JS.o j1), Upd.gone] ∧ True ∧ True ∧
  decide (Int.ofNat (JS.recs j1) = (2 : Int)) = true ∧ decide (Int.ofNat (JS.recs j1) = (2 : Int)) = true ∧ True ∧ True ∧ decide (Int.ofNat (JS.recs j1) = (2 : Int)) = true ∧ decide
  (Int.ofNat (JS.recs j1) = (2 : Int)) = true ∧ decide (Int.ofNat (JS.recs j1) = (2 : Int)) = true ∧ decide (Int.ofNat (JS.gen j) < Int.ofNat (JS.gen j1)) = true ∧ decide (Int.ofNat
  (JS.gen j) < Int.ofNat (JS.gen j1)) = true ∧ Con Tryd.prog 24 [AV.p 1 0, AV.l0] [some (SS.o s1), some (JS.o j1)] (AV.i IntKind.i64 (0 : Int)) [Upd.set (SS.o s2), Upd.set (JS.o
  j2)] ∧ decide (Int.ofNat (JS.gen j) < Int.ofNat (JS.gen j1)) = true ∧ decide (Int.ofNat (JS.gen j) < Int.ofNat (JS.gen j1)) = true ∧ K (Res.rv (AV.b true) { tree := T.n (some (AObj.segs 77 33799 [{ st := 0, sz := 1, n := 1, f := oneF (CV.i IntKind.i64 (Int.ofNat (SS.n s2))) }, { st := 1, sz := 65, n := 512, f := durF (SS.dur s2) (SS.torn s2) }, { st := 33281, sz := 1, n := 1, f := oneF (CV.opv (pB (SS.P s2)) 66 (pW (SS.P s2))) }, { st := 33282, sz := 1, n := 512, f := latF (lB (SS.P s2)) (lW (SS.P s2)) }, { st := 33794, sz := 5, n := 1, f := tailF (Int.ofNat (List.length (SS.P s2))) (Int.ofNat (SS.wr s2)) (SS.off s2) (SS.armed s2) (Int.ofNat (SS.left s2)) }])) (T.n (some (AObj.cells 86 6 [] (T.n (some (AV.p 0 0)) (T.n (some (AV.i IntKind.i64 (Int.ofNat (JS.gen j2)))) (T.n (some (AV.i IntKind.i64 (Int.ofNat (JS.recs j2)))) T.e T.e) (T.n (some (AV.b (JS.dead j2))) T.e T.e)) (T.n (some (AV.i IntKind.i64 (Int.ofNat (JS.area j2)))) (T.n (some (AV.i IntKind.i64 (JS.room j2))) T.e T.e) T.e)))) T.e T.e) (T.n none T.e T.e), next := 3, log := [1, 0, 2, 1, 0, 2, 1, 0, 1, 0] })
  Orc.z) := by kernel_rfl
theorem jown_con (L : Nat) (f : Nat → Nat → CV) (hL : L ≤ 140737488351232) : Con Tryd.prog 25 [.sv 1 L f] [] (.sv 1 L f) [] :=
  con_of_run [] [] ((jown_vc L f _).mpr ⟨⟨⟨rfl, by omega⟩, trivial, trivial, by omega, by omega⟩, _, _, rfl, ret_k (by kernel_rfl)⟩)
theorem clZ_b (z : Int) : 0 ≤ clZ z ∧ clZ z ≤ 1128 := by unfold clZ; split <;> split <;> omega
theorem clZ_n (z : Int) : clZ z = Int.ofNat (clZ z).toNat := by
  have := clZ_b z
  exact (Int.toNat_of_nonneg this.1).symm
theorem clZ_l (z : Int) : (clZ z).toNat ≤ 1128 := by have := clZ_b z; omega
theorem tdiv47 (m : Nat) : Int.tdiv (Int.ofNat m + (46 : Int)) (47 : Int) = Int.ofNat ((m + 46) / 47) := by
  rw [show Int.ofNat m + (46 : Int) = Int.ofNat (m + 46) from rfl]; exact Eq.refl _
theorem pZ_n (z : Int) : pZ z = Int.ofNat (npF (clZ z).toNat) := by
  unfold pZ npF
  rw [show Int.tdiv (clZ z + (46 : Int)) (47 : Int) = Int.ofNat (((clZ z).toNat + 46) / 47) from by rw [← tdiv47, ← clZ_n]]
  generalize ((clZ z).toNat + 46) / 47 = q
  by_cases c : q > 1
  · rw [if_pos c, if_pos (by simp; omega)]
  · rw [if_neg c, if_neg (by simp; omega)]; rfl
structure RS where
  s : SS
  j : JS
  n : Nat
  m : Nat → Nat
  b : Nat → Nat → Nat
noncomputable def rst (r : RS) (L : Nat) : RS := if npF L ≤ 60 - sumP r.m r.n 0 then ⟨apS r.j (60 - sumP r.m r.n 0) r.s L (fun _ => 0), r.j.more L, r.n + 1, mS r.n r.m L, bS r.n r.b fun _ => 0⟩ else r
noncomputable def rrun (Z : Nat → Int) : Nat → RS
  | 0 => ⟨nS0, nJ0, 0, fun _ => 0, fun _ _ => 0⟩
  | i + 1 => rst (rrun Z i) (clZ (Z i)).toNat
theorem rrun_s (Z : Nat → Int) (i : Nat) : rrun Z (i + 1) = rst (rrun Z i) (clZ (Z i)).toNat := rfl
structure RInv (r : RS) (mm : Nat) : Prop where
  ji : JI r.s r.j mm r.n r.m r.b
  c : Calm r.s
  f : Fr r.s
  a : r.j.area = 0
  g : r.j.gen = 1
theorem RInv.step {r : RS} {mm L : Nat} (h : RInv r mm) (hL : L ≤ 1128) : RInv (rst r L) (mm + 24) := by
  unfold rst
  by_cases c : npF L ≤ 60 - sumP r.m r.n 0
  · rw [if_pos c]
    have k := h.ji.appendC h.c (L := L) (bs := fun _ => 0) hL (fun _ => by decide) c
    have h24 := npF_24 hL
    refine ⟨{ k.2.2 with okm := k.2.2.okm.mono (by omega) }, k.2.1, h.ji.appendFr h.c hL (fun _ => by decide) c h.a h.f, h.a, h.g⟩
  · rw [if_neg c]
    exact ⟨{ h.ji with okm := h.ji.okm.mono (by omega) }, h.c, h.f, h.a, h.g⟩
theorem rrun_inv (Z : Nat → Int) : ∀ i, RInv (rrun Z i) (1 + 24 * i)
  | 0 => ⟨nJI, nS0_calm, nS0_fr, rfl, rfl⟩
  | i + 1 => by
    rw [rrun_s, show 1 + 24 * (i + 1) = 1 + 24 * i + 24 by omega]
    exact (rrun_inv Z i).step (clZ_l _)
theorem room_lp (N L : Nat) (Z : Nat → Int) (bs : Nat → Nat) (hN : N ≤ 1152921504606846976) : LDoes Tryd.prog (loopAt Tryd.prog 7 0) 102 2 (mkT [(1, .sv 1 L (byF bs)), (5, .p 0 0), (6, .p 1 0), (7, .i .i64 60), (19, .sv 1 N (fun i _ => .i .i64 (Z i))), (20, .i .i64 (Int.ofNat N)), (21, .i .i64 0)]) [some nS0.o, some nJ0.o] (.exit 0) (mkT [(1, .sv 1 L (byF bs)), (5, .p 0 0), (6, .p 1 0)]) [some (rrun Z (min N 101)).s.o, some (rrun Z (min N 101)).j.o] := by
  refine loop_ind (P := Tryd.prog) (c := loopAt Tryd.prog 7 0) (n := 102) (b := 2) (x := .exit 0) (l' := [(1, .sv 1 L (byF bs)), (5, .p 0 0), (6, .p 1 0)]) (objs' := [some (rrun Z (min N 101)).s.o, some (rrun Z (min N 101)).j.o]) (D := Nat)
    (fun i : Nat => ([(1, .sv 1 L (byF bs)), (5, .p 0 0), (6, .p 1 0), (7, .i .i64 (Int.ofNat (60 - sumP (rrun Z i).m (rrun Z i).n 0))), (19, .sv 1 N (fun i _ => .i .i64 (Z i))), (20, .i .i64 (Int.ofNat N)), (21, .i .i64 (Int.ofNat i))], [some (rrun Z i).s.o, some (rrun Z i).j.o])) (fun i => N - i) (fun i => i ≤ N ∧ i ≤ 101) (fun i hi => ?_) 0 ⟨Nat.zero_le _, Nat.zero_le _⟩
  refine ⟨Nat.le_refl _, ?_⟩
  by_cases e1 : i = N
  · have h1 : decide (Int.ofNat i < Int.ofNat N) = false := by simp; omega
    rw [show min N 101 = i by omega]
    exact ⟨_, _, (jrY_vc (rrun Z i).s (rrun Z i).j N L i Z bs _ h1 _).mpr ⟨h1, .inr ⟨[0, 1], [], _, _, rfl, by simp, st_k [0, 1] (by kernel_rfl)⟩⟩⟩
  have h1 : decide (Int.ofNat i < Int.ofNat N) = true := by simp; omega
  have bi : (0 : Int) ≤ Int.ofNat i ∧ Int.ofNat i < (N : Int) := ⟨by simp, by simp; omega⟩
  by_cases e2 : i = 101
  · have h2 : decide ((100 : Int) < Int.ofNat i) = true := by simp; omega
    rw [show min N 101 = i by omega]
    exact ⟨_, _, (jrX_vc (rrun Z i).s (rrun Z i).j N L i Z bs _ h1 h2 _).mpr ⟨h1, bi, trivial, h2, .inr ⟨[0, 1], [], _, _, rfl, by simp, st_k [0, 1] (by kernel_rfl)⟩⟩⟩
  have h2 : decide ((100 : Int) < Int.ofNat i) = false := by simp; omega
  have inv := rrun_inv Z i
  have es := rrun_s Z i
  have hl := clZ_l (Z i)
  have hz := clZ_b (Z i)
  have hp := pZ_n (Z i)
  have hc := clZ_n (Z i)
  have hfit := inv.ji.fit
  have h24 := npF_24 hl
  have b1 : (-9223372036854775808 : Int) ≤ clZ (Z i) + (46 : Int) ∧ clZ (Z i) + (46 : Int) ≤ (9223372036854775807 : Int) := ⟨by omega, by omega⟩
  have td : Int.tdiv (clZ (Z i) + (46 : Int)) (47 : Int) = Int.ofNat (((clZ (Z i)).toNat + 46) / 47) := by rw [← tdiv47, ← hc]
  have b2 : (47 : Int) ≠ (0 : Int) ∧ (-9223372036854775808 : Int) ≤ Int.tdiv (clZ (Z i) + (46 : Int)) (47 : Int) ∧ Int.tdiv (clZ (Z i) + (46 : Int)) (47 : Int) ≤ (9223372036854775807 : Int) := by
    rw [td]; exact ⟨by decide, by simp; omega, by simp; omega⟩
  have b3 : ((1 = 1 ∧ 0 + Int.toNat (clZ (Z i)) ≤ Int.toNat (clZ (Z i))) ∧ ((0 : Int) ≤ clZ (Z i)) ∧ (clZ (Z i) ≤ clZ (Z i)) ∧ clZ (Z i) ≤ (1073741824 : Int)) := ⟨⟨rfl, by omega⟩, hz.1, Int.le_refl _, by omega⟩
  have ov : (-9223372036854775808 : Int) ≤ Int.ofNat i + (1 : Int) ∧ Int.ofNat i + (1 : Int) ≤ (9223372036854775807 : Int) := ⟨by simp <;> omega, by simp <;> omega⟩
  have hrm := inv.ji.rm
  have pv : ∀ {us : List Upd} {v : AV}, Con Tryd.prog 24 [.p 1 0, .sv 1 (clZ (Z i)).toNat (byF fun _ => 0)] [some (rrun Z i).s.o, some (rrun Z i).j.o] v us → Con Tryd.prog 24 [.p 1 0, .sv 1 (clZ (Z i)).toNat fun x j => List.getD [CV.i IntKind.u8 (0 : Int)] j CV.p0] [some (rrun Z i).s.o, some (rrun Z i).j.o] v us := fun k => k.pre ⟨.refl _, .sv fun i j hi hj => by
    obtain rfl : j = 0 := by omega
    exact Eq.refl _, trivial⟩
  by_cases c : npF (clZ (Z i)).toNat ≤ 60 - sumP (rrun Z i).m (rrun Z i).n 0
  · have h3 : decide (pZ (Z i) ≤ Int.ofNat (60 - sumP (rrun Z i).m (rrun Z i).n 0)) = true := by rw [hp]; exact decide_eq_true (by simp; omega)
    unfold rst at es
    rw [if_pos c] at es
    have er : ((rrun Z i).j.more (clZ (Z i)).toNat).room = Int.ofNat (60 - sumP (rrun Z i).m (rrun Z i).n 0) - pZ (Z i) := by
      show (rrun Z i).j.room - Int.ofNat (npF (clZ (Z i)).toNat) = _
      rw [hrm, hp]
    have h4 : (!decide (((rrun Z i).j.more (clZ (Z i)).toNat).room = Int.ofNat (60 - sumP (rrun Z i).m (rrun Z i).n 0) - pZ (Z i))) = false := by rw [er]; simp
    have k := pv (inv.ji.appendC_con inv.c (L := (clZ (Z i)).toNat) (bs := fun _ => 0) hl (fun _ => by decide) c (by omega))
    have e3 : (!!true == decide (pZ (Z i) ≤ Int.ofNat (60 - sumP (rrun Z i).m (rrun Z i).n 0))) = true := by rw [h3]; rfl
    have e4 : (!true == decide (pZ (Z i) ≤ Int.ofNat (60 - sumP (rrun Z i).m (rrun Z i).n 0))) = false := by rw [h3]; rfl
    have b5 : ((-9223372036854775808 : Int) ≤ Int.ofNat (60 - sumP (rrun Z i).m (rrun Z i).n 0) - pZ (Z i)) ∧ (Int.ofNat (60 - sumP (rrun Z i).m (rrun Z i).n 0) - pZ (Z i)) ≤ (9223372036854775807 : Int) := by rw [hp]; exact ⟨by simp; omega, by simp; omega⟩
    refine ⟨_, _, (jrA_vc (rrun Z i).s (rrun Z i).j (apS (rrun Z i).j (60 - sumP (rrun Z i).m (rrun Z i).n 0) (rrun Z i).s (clZ (Z i)).toNat fun _ => 0) ((rrun Z i).j.more (clZ (Z i)).toNat) N L i Z bs _ h1 h2 h3 h4 _).mpr ⟨h1, bi, trivial, h2, b1, b2, b3, k, trivial, fun _ => ⟨e3, e3, e3, e4, b5, trivial, trivial, h4, ov, .inl ⟨i + 1, [0, 1], [], _, _, by omega, by show N - (i + 1) < N - i; omega, rfl, ?_⟩⟩, fun a => absurd (a.symm.trans e3) (by decide)⟩⟩
    dsimp only
    rw [es]
    dsimp only
    have e5 : Int.ofNat (60 - sumP (mS (rrun Z i).n (rrun Z i).m (clZ (Z i)).toNat) ((rrun Z i).n + 1) 0) = Int.ofNat (60 - sumP (rrun Z i).m (rrun Z i).n 0) - pZ (Z i) := by
      rw [sumP_at, mS_eq, sumP_mS _ _ _ (Nat.le_refl _), hp]; simp; omega
    rw [e5]
    exact st_k [0, 1] (by kernel_rfl)
  · have h3 : decide (pZ (Z i) ≤ Int.ofNat (60 - sumP (rrun Z i).m (rrun Z i).n 0)) = false := by rw [hp]; exact decide_eq_false (by simp; omega)
    unfold rst at es
    rw [if_neg c] at es
    have h4 : (!decide ((rrun Z i).j.room = Int.ofNat (60 - sumP (rrun Z i).m (rrun Z i).n 0))) = false := by rw [hrm]; simp
    have k := pv (appendSpace_con (rrun Z i).j (rrun Z i).s (clZ (Z i)).toNat (fun _ => 0) inv.ji.dead hl (by rw [hrm]; simp; omega))
    have e3 : (!!false == decide (pZ (Z i) ≤ Int.ofNat (60 - sumP (rrun Z i).m (rrun Z i).n 0))) = true := by rw [h3]; rfl
    have e4 : (!false == decide (pZ (Z i) ≤ Int.ofNat (60 - sumP (rrun Z i).m (rrun Z i).n 0))) = false := by rw [h3]; rfl
    refine ⟨_, _, (jrB_vc (rrun Z i).s (rrun Z i).j N L i Z bs _ h1 h2 h3 h4 _).mpr ⟨h1, bi, trivial, h2, b1, b2, b3, k, trivial, fun _ => ⟨e3, e3, e3, e4, trivial, trivial, h4, ov, .inl ⟨i + 1, [0, 1], [], _, _, by omega, by show N - (i + 1) < N - i; omega, rfl, ?_⟩⟩, fun a => absurd (a.symm.trans e3) (by decide)⟩⟩
    dsimp only
    rw [es]
    exact st_k [0, 1] (by kernel_rfl)
def m2 (L : Nat) (i : Nat) : Nat := if i = 0 then L else 0
theorem s2L (L : Nat) : sumP (m2 L) 2 0 = npF L + 1 := by
  rw [sumP_at, sumP_at]
  show 0 + npF L + npF 0 = _
  have : npF 0 = 1 := by unfold npF; rw [if_neg (by decide)]
  rw [this]; omega
theorem own_nil_cw (L : Nat) (bs : Nat → Nat) : ∀ i j, i < 2 → j < 1 → CW (listF 1 [.sv 1 L (byF bs), .sv 1 0 fun _ _ => .p0] 2 i j) (recF (m2 L) (fun _ => bs) i j)
  | 0, 0, _, _ => (zipCV_CW true (.sv 1 L (byF bs)) (.sv 1 0 fun _ _ => .p0)).trans (.refl _)
  | 1, 0, _, _ => (zipCV_CW false (.sv 1 L (byF bs)) (.sv 1 0 fun _ _ => .p0)).trans (CW.sv fun i _ h => absurd h (by omega))
  | _ + 2, _, h, _ => absurd h (by omega)
  | _, _ + 1, _, h => absurd h (by omega)
theorem rwLit2 {S0 S : SS} {J0 J : JS} {L : Nat} {bs : Nat → Nat} (k0 : Con Tryd.prog 14 [.p 1 0, .sv 1 2 (recF (m2 L) fun _ => bs)] [some S0.o, some J0.o] (.i .i64 0) [.set S.o, .set J.o]) :
    Con Tryd.prog 14 [.p 1 0, .l 2 0 2 2 1 true] [some S0.o, some J0.o, some (cellsO 38 [.sv 1 L (byF bs), .l0])] (.i .i64 0) [.set S.o, .set J.o, .gone] := by
  have k1 : Con Tryd.prog 14 [.p 1 0, .sv 1 2 (recF (m2 L) fun _ => bs)] [some S0.o, some J0.o, none] (.i .i64 0) [.set S.o, .set J.o, .gone] :=
    k0.more [0, 1] (by kernel_rfl) (hasAll_of (by kernel_rfl) (by kernel_rfl)) (by kernel_rfl) (by kernel_rfl) (by kernel_rfl) (by kernel_rfl)
  have k2 : Con Tryd.prog 14 [.p 1 0, .sv 1 2 (listF 1 [.sv 1 L (byF bs), .sv 1 0 fun _ _ => .p0] 2)] [some S0.o, some J0.o, none] (.i .i64 0) [.set S.o, .set J.o, .gone] := k1.pre ⟨.refl _, .svW (own_nil_cw L bs), trivial⟩
  exact k2.thawZ 2 (z := .cells 2 [.sv 1 L (byF bs), .sv 1 0 fun _ _ => .p0]) (by kernel_rfl) ⟨.inl rfl, .inl rfl, rfl, trivial⟩ ⟨.inl rfl, .inr ⟨by kernel_rfl, by show 0 + 2 * 1 ≤ 2; decide, rfl⟩, trivial⟩ rfl
theorem rwLit1 {S0 : SS} {J0 : JS} {L : Nat} {bs : Nat → Nat} (k0 : Con Tryd.prog 14 [.p 1 0, .sv 1 1 (recF (fun _ => L) fun _ => bs)] [some S0.o, some J0.o] (.i .i64 2) [.keep, .keep]) :
    Con Tryd.prog 14 [.p 1 0, .l 2 0 1 1 1 true] [some S0.o, some J0.o, some (cellsO 38 [.sv 1 L (byF bs)])] (.i .i64 2) [.keep, .keep, .gone] := by
  have k1 : Con Tryd.prog 14 [.p 1 0, .sv 1 1 (recF (fun _ => L) fun _ => bs)] [some S0.o, some J0.o, none] (.i .i64 2) [.keep, .keep, .gone] :=
    k0.more [0, 1] (by kernel_rfl) (hasAll_of (by kernel_rfl) (by kernel_rfl)) (by kernel_rfl) (by kernel_rfl) (by kernel_rfl) (by kernel_rfl)
  have k2 : Con Tryd.prog 14 [.p 1 0, .sv 1 1 (litL L bs)] [some S0.o, some J0.o, none] (.i .i64 2) [.keep, .keep, .gone] := k1.pre ⟨.refl _, .sv fun i j hi hj => by
    obtain rfl : j = 0 := by omega
    exact Eq.refl _, trivial⟩
  exact k2.thawZ 2 (z := .cells 1 [.sv 1 L (byF bs)]) (by kernel_rfl) ⟨.inl rfl, .inl rfl, rfl, trivial⟩ ⟨.inl rfl, .inr ⟨by kernel_rfl, by show 0 + 1 * 1 ≤ 1; decide, rfl⟩, trivial⟩ rfl
theorem jroom_law (N L : Nat) (Z : Nat → Int) (bs : Nat → Nat) (hN : N ≤ 1152921504606846976) (hL : L ≤ 140737488351232) (hb : ∀ t, bs t < 256) : Con Tryd.prog 7 [.sv 1 N (fun i _ => .i .i64 (Z i)), .sv 1 L (byF bs)] [] (.b true) [] := by
  have inv := rrun_inv Z (min N 101)
  have lp := room_lp N L Z bs hN
  have hm : 1 + 24 * min N 101 ≤ 2500 := by omega
  generalize hR : rrun Z (min N 101) = R at inv lp
  by_cases c : 1128 < L
  · have h1 : decide ((1128 : Int) < Int.ofNat L) = true := by simp; omega
    have k := rwLit1 (rewriteRange_con R.s R.j 1 0 (fun _ => L) (fun _ => bs) inv.ji.dead (by decide) (by decide) c (fun i hi => absurd hi (by omega)))
    have h : Con Tryd.prog 7 [.sv 1 N (fun i _ => .i .i64 (Z i)), .sv 1 L (byF bs)] [] (.b (decide (Int.ofNat R.j.gen = Int.ofNat R.j.gen))) [] :=
      con_of_run [] [] ((jrM_vc R.s R.j nS0 nJ0 N L Z bs h1 _).mpr ⟨awake_con, trivial, jbegin_con, lp, trivial, trivial, h1, jown_con L _ hL, k, trivial, trivial, _, _, rfl, ret_k (by kernel_rfl)⟩)
    rw [decide_eq_true rfl] at h
    exact h
  · have h1 : decide ((1128 : Int) < Int.ofNat L) = false := by simp; omega
    have h24 := npF_24 (m := L) (by omega)
    have hs : sumP (m2 L) 2 0 ≤ 60 := by rw [s2L]; omega
    have hV := nxV_fr inv.g inv.a inv.f
    have hl : ∀ i, i < 2 → m2 L i ≤ 1128 := fun i _ => by unfold m2; split <;> omega
    have k := inv.ji.rewriteC_con inv.c (n' := 2) (m' := m2 L) (b' := fun _ => bs) hl hs (fun _ => hb) (by rw [inv.g]; decide) (by rw [hV]; decide) (by omega)
    have q := inv.ji.rewriteC inv.c (n' := 2) (m' := m2 L) (b' := fun _ => bs) hl hs (fun _ => hb) (by rw [hV]; decide)
    have hg : (rwJ R.s R.j 2 (m2 L)).gen = 2 := hV
    have hr : (rwJ R.s R.j 2 (m2 L)).recs = 2 := rfl
    generalize nmS (rwS R.s R.j 2 (m2 L) fun _ => bs) (nxV R.s R.j) (1 - R.j.area) = S1 at k q
    generalize rwJ R.s R.j 2 (m2 L) = J1 at k q hg hr
    have np0 : npF 0 = 1 := by unfold npF; rw [if_neg (by decide)]
    have a := (q.2.2.2).appendC_con q.2.2.1 (L := 0) (bs := fun _ => 0) (by decide) (fun _ => by decide) (by rw [np0, s2L]; omega) (by rw [np0, s2L]; omega)
    have a' := a.pre (pargs' := [.p 1 0, .l0]) ⟨.refl _, VW.nil _ _, trivial⟩
    have h2 : decide (Int.ofNat J1.recs = 2) = true := by rw [hr]; rfl
    have h3 : decide (Int.ofNat R.j.gen < Int.ofNat J1.gen) = true := by rw [hg, inv.g]; rfl
    exact con_of_run [] [] ((jrN_vc R.s R.j S1 J1 nS0 nJ0 _ _ N L Z bs h1 h2 h3 _).mpr ⟨awake_con, trivial, jbegin_con, lp, trivial, trivial, h1, jown_con L _ hL, rwLit2 k, trivial, trivial, h2, h2, trivial, trivial, h2, h2, h2, h3, h3, a', h3, h3, _, _, rfl, ret_k (by kernel_rfl)⟩)
end Go.Proofs.Jn
