/- Runs over unknown values, told by the kernel: part RiA. -/
import Derived.Test.YtiihmkiiojlcaaaDoorRhB
set_option linter.unusedSimpArgs false
set_option linter.unusedVariables false
set_option maxRecDepth 20000
namespace Go.Proofs.Cl
open Go Go.Sim Go.Proofs Go.Proofs.Cd Go.Proofs.St Go.Proofs.YtiihmkiiojlcaaaDoor
theorem mineR_vc (n : Int) (m k : Nat) (ll : Nat → Nat) (bb : Nat → Nat → Nat) (x : List Nat) (K : Res → Orc → Prop) : runK Tryd.prog 1000000 (.code (loopAt Tryd.prog 4 0) 114 (mkT
  [(0, .sv 1 m (imF ll bb)), (1, .i .i64 n), (2, .s x), (7, .lr 0 1 0 k false), (21, .sv 1 m (imF ll bb)), (22, .i .i64 (Int.ofNat m)), (23, .i .i64 (Int.ofNat k))]) (mkH [some
  (.rows 55 1 k (imF ll bb))])) (Orc.s (Orc.s Orc.z Orc.z) Orc.z) K = ((decide (Int.ofNat k < Int.ofNat m) = true → ((0 : Int) ≤ Int.ofNat k ∧ Int.ofNat k < ↑m) ∧ True ∧ ((1 = 1 ∧ 0
  + ll k ≤ ll k) ∧ True ∧ True ∧ 0 + ll k ≤ 140737488355328 ∧ (3 * (0 + ll k) + 1536) * 1 ≤ 562949953421312) ∧ (0 + k ≤ k ∧ True ∧ k + 1 ≤ 140737488355328 ∧ (3 * (k + 1) + 1536) *
  24 ≤ 562949953421312) ∧ ((-9223372036854775808 : Int) ≤ Int.ofNat k + (1 : Int) ∧ Int.ofNat k + (1 : Int) ≤ (9223372036854775807 : Int)) ∧ K (Res.st XO.nrm (z1 (AV.sv 1 m (imF ll
  bb)) (z1 (AV.i .i64 n) (z0 (z1 (AV.lr 4 1 0 (addN k 1) false) (z0 (zl (AV.l 3 0 1 1 1 true)) T.e) (zl (AV.i .i64 (Int.ofNat k + (1 : Int))))) (z0 T.e (zl (AV.lr 0 1 0 k false))))
  (z0 (z1 (AV.sv 1 (ll k) fun k_1 x => CV.i .u8 (Int.ofNat (bb k k_1))) (z0 (zl (AV.i .i64 (Int.ofNat k + (1 : Int)))) T.e) (zl (AV.pv 1 (imF ll bb k)))) (z0 (zl (AV.sv 1 m (imF ll
  bb))) (zl (AV.sv 1 (ll k) fun k_1 x => CV.i .u8 (Int.ofNat (bb k k_1))))))) (z1 (AV.s x) (z0 (z0 (z0 (zl (AV.lr 4 1 0 (addN k 1) false)) T.e) (zl (AV.b (decide (Int.ofNat k <
  Int.ofNat m))))) (z0 T.e (zl (AV.l 1 0 0 0 1 true)))) (z0 (z0 T.e (zl (AV.sv 1 (ll k) fun k_1 x => CV.i .u8 (Int.ofNat (bb k k_1))))) (z0 (zl (AV.i .i64 (Int.ofNat m))) (zl (AV.sv
  1 (ll k) fun k_1 x => CV.i .u8 (Int.ofNat (bb k k_1)))))))) { tree := z0 (z0 (zl (AObj.cells 55 1 [] (zl (AV.sv 1 (ll k) fun k_1 x => CV.i .u8 (Int.ofNat (bb k k_1)))))) T.e) (z0 (zl (AObj.rows 55 1 (addN k 1) (appZ k (fun i x => CV.sv 1 (ll i) fun k x => CV.i .u8 (Int.ofNat (bb i k))) fun x j => List.getD [CV.sv 1 (ll k) fun k_1 x => CV.i .u8 (Int.ofNat (bb k k_1))] j CV.p0))) T.e), next := 5, log := [4, 0, 3, 2, 2, 1, 1] })
  Orc.z) ∧ (decide (Int.ofNat k < Int.ofNat m) = false → K (Res.st (XO.exit 0) (z1 (AV.sv 1 m (imF ll bb)) (z1 (AV.i .i64 n) (z0 (z1 (AV.lr 0 1 0 k false) T.e (zl (AV.i .i64
  (Int.ofNat k)))) T.e) (z0 T.e (z0 (zl (AV.sv 1 m (imF ll bb))) T.e))) (z1 (AV.s x) (z0 (z0 T.e (zl (AV.b (decide (Int.ofNat k < Int.ofNat m))))) T.e) (z0 T.e (z0 (zl (AV.i .i64
  (Int.ofNat m))) T.e)))) { tree := zl (AObj.rows 55 1 k (imF ll bb)), next := 1, log := [] }) Orc.z)) := by kernel_rfl
theorem rawX_vc (m : Nat) (ll : Nat → Nat) (bb : Nat → Nat → Nat) (x : List Nat) (n : Int) (K : Res → Orc → Prop) : runK Tryd.prog 1000000 (.call 4 [.sv 1 m (imF ll bb), .i .i64 n,
  .s x] (mkH [])) (Orc.cal [] (AV.b true) [] (Orc.c (Orc.lop [] [0, 1, 2, 7, 21, 22, 23] 0 (XO.exit 0) [(0, AV.sv 1 m (imF ll bb)), (1, AV.i .i64 n), (2, AV.s x), (7, AV.sv 1 m (imF
  ll bb))] [] (Orc.cal [] (AV.tup [AV.p0, AV.i .i64 (2 : Int)]) [] (Orc.cal [] (AV.tup [AV.p0, AV.i .i64 (2 : Int)]) [] (Orc.c (Orc.c Orc.z))))))) K = (Con Tryd.prog 5 [] [] (AV.b
  true) [] ∧ True ∧ LDoes Tryd.prog (loopAt Tryd.prog 4 0) 114 0 (mkT [(0, AV.sv 1 m (imF ll bb)), (1, AV.i .i64 n), (2, AV.s x), (7, AV.l0), (21, AV.sv 1 m (imF ll bb)), (22, AV.i
  .i64 (Int.ofNat m)), (23, AV.i .i64 (0 : Int))]) [] (XO.exit 0) (mkT [(0, AV.sv 1 m (imF ll bb)), (1, AV.i .i64 n), (2, AV.s x), (7, AV.sv 1 m (imF ll bb))]) [] ∧ Con Tryd.prog 24
  [AV.sv 1 m (imF ll bb)] [] (AV.tup [AV.p0, AV.i .i64 (2 : Int)]) [] ∧ Con Tryd.prog 25 [AV.sv 1 m (imF ll bb)] [] (AV.tup [AV.p0, AV.i .i64 (2 : Int)]) [] ∧ True ∧ True ∧ K
  (Res.rv (AV.b true) { tree := T.e, next := 0, log := [] }) Orc.z) := by kernel_rfl
theorem rawF_vc (s : SS) (m : Nat) (ll : Nat → Nat) (bb : Nat → Nat → Nat) (x : List Nat) (ee : Int) (n : Int) (K : Res → Orc → Prop) : runK Tryd.prog 1000000 (.call 4 [.sv 1 m
  (imF ll bb), .i .i64 n, .s x] (mkH [])) (Orc.cal [] (AV.b true) [] (Orc.c (Orc.lop [] [0, 1, 2, 7, 21, 22, 23] 0 (XO.exit 0) [(0, AV.sv 1 m (imF ll bb)), (1, AV.i .i64 n), (2,
  AV.s x), (7, AV.sv 1 m (imF ll bb))] [] (Orc.cal [] (AV.tup [AV.p 0 0, AV.i .i64 (0 : Int)]) [Upd.set (SS.o s)] (Orc.cal [] (AV.tup [AV.p 0 0, AV.i .i64 (0 : Int)]) [Upd.set (rsA
  2 s), Upd.set (rsR s), Upd.set (rsP s)] (Orc.c (Orc.c (Orc.cal [0] (AV.tup [AV.p0, AV.i .i64 ee]) [Upd.keep] (Orc.cal [1, 2, 3] (AV.tup [AV.p0, AV.i .i64 ee]) [Upd.keep, Upd.keep,
  Upd.keep] (Orc.t (Orc.t (Orc.t (Orc.t (Orc.t (Orc.f (Orc.c (Orc.c Orc.z))))))))))))))))) K = (Con Tryd.prog 5 [] [] (AV.b true) [] ∧ True ∧ LDoes Tryd.prog (loopAt Tryd.prog 4 0)
  114 0 (mkT [(0, AV.sv 1 m (imF ll bb)), (1, AV.i .i64 n), (2, AV.s x), (7, AV.l0), (21, AV.sv 1 m (imF ll bb)), (22, AV.i .i64 (Int.ofNat m)), (23, AV.i .i64 (0 : Int))]) []
  (XO.exit 0) (mkT [(0, AV.sv 1 m (imF ll bb)), (1, AV.i .i64 n), (2, AV.s x), (7, AV.sv 1 m (imF ll bb))]) [] ∧ Con Tryd.prog 24 [AV.sv 1 m (imF ll bb)] [] (AV.tup [AV.p 0 0, AV.i
  .i64 (0 : Int)]) [Upd.set (SS.o s)] ∧ Con Tryd.prog 25 [AV.sv 1 m (imF ll bb)] [] (AV.tup [AV.p 0 0, AV.i .i64 (0 : Int)]) [Upd.set (rsA 2 s), Upd.set (rsR s), Upd.set (rsP s)] ∧
  True ∧ Con Tryd.prog 8 [AV.p 0 0, AV.i .i64 n] [some (SS.o s)] (AV.tup [AV.p0, AV.i .i64 ee]) [Upd.keep] ∧ Con Tryd.prog 9 [AV.p 0 0, AV.i .i64 n] [some (rsA 2 s), some (rsR s),
  some (rsP s)] (AV.tup [AV.p0, AV.i .i64 ee]) [Upd.keep, Upd.keep, Upd.keep] ∧ (!!decide (ee = ee)) = true ∧ (!!decide (ee = ee)) = true ∧ True ∧ (!!decide (ee = ee)) = true ∧
  (!!decide (ee = ee)) = true ∧ True ∧ (!!decide (ee = ee)) = true ∧ True ∧ (!decide (ee = ee)) = false ∧ True ∧ K (Res.rv (AV.b true) { tree := z1 (AObj.segs 69 33799 [{ st := 0, sz := 1, n := 1, f := oneF (CV.i .i64 (Int.ofNat (SS.n s))) }, { st := 1, sz := 65, n := 512, f := durF (SS.dur s) (SS.torn s) }, { st := 33281, sz := 1, n := 1, f := oneF (CV.opv (pB (SS.P s)) 66 (pW (SS.P s))) }, { st := 33282, sz := 1, n := 512, f := latF (lB (SS.P s)) (lW (SS.P s)) }, { st := 33794, sz := 5, n := 1, f := tailF (Int.ofNat (List.length (SS.P s))) (Int.ofNat (SS.wr s)) (SS.off s) (SS.armed s) (Int.ofNat (SS.left s)) }]) (z1 (AObj.cells 51 5 [] (z1 (AV.lr 2 1 0 (SS.n s) false) (z1 (AV.lr 3 2 0 (List.length (SS.P s)) false) (zl (AV.i .i64 (SS.am s))) T.e) (z1 (AV.i .i64 (Int.ofNat (SS.wr s))) (zl (AV.b (SS.off s))) T.e))) (zl (AObj.rows 91 2 (List.length (SS.P s)) (penF (oA (SS.P s)) (oB (SS.P s))))) T.e) (zl (AObj.rows 55 1 (SS.n s) (imgF s))), next := 4, log := [3, 2, 1, 0] })
  Orc.z) := by kernel_rfl
theorem rawG_vc (s : SS) (c : CS) (m : Nat) (n : Nat) (ll : Nat → Nat) (bb : Nat → Nat → Nat) (x : List Nat) (s2 : SS) (K : Res → Orc → Prop) : runK Tryd.prog 1000000 (.call 4 [.sv
  1 m (imF ll bb), .i .i64 (Int.ofNat n), .s x] (mkH [])) (Orc.cal [] (AV.b true) [] (Orc.c (Orc.lop [] [0, 1, 2, 7, 21, 22, 23] 0 (XO.exit 0) [(0, AV.sv 1 m (imF ll bb)), (1, AV.i
  .i64 (Int.ofNat n)), (2, AV.s x), (7, AV.sv 1 m (imF ll bb))] [] (Orc.cal [] (AV.tup [AV.p 0 0, AV.i .i64 (0 : Int)]) [Upd.set (SS.o s)] (Orc.cal [] (AV.tup [AV.p 0 0, AV.i .i64
  (0 : Int)]) [Upd.set (rsA 2 s), Upd.set (rsR s), Upd.set (rsP s)] (Orc.c (Orc.c (Orc.cal [0] (AV.tup [AV.p 1 0, AV.i .i64 (0 : Int)]) [Upd.keep, Upd.set (CS.oa c)] (Orc.cal [1, 2,
  3] (AV.tup [AV.p 3 0, AV.i .i64 (0 : Int)]) [Upd.keep, Upd.keep, Upd.keep, Upd.set (rcO 0 4 5 n false), Upd.set (rcV n (CS.q c) (CS.d c)), Upd.set (rcB n (CS.sec c))] (Orc.c
  (Orc.c (Orc.c (Orc.c (Orc.c (Orc.c (Orc.c (Orc.c (Orc.lop [0, 1, 2, 3, 4, 5, 6, 7] [1, 2, 10, 12, 14, 16, 18] 0 (XO.exit 2) [(10, AV.p 0 0), (12, AV.p 1 0)] [some (SS.o s2), some
  (rsK s2), some (rsR s2), some (rsP s2)] (Orc.cal [8] (AV.sv 1 (SS.n s2) (imgF s2)) [Upd.keep] (Orc.cal [10] (AV.b true) [Upd.gone] Orc.z)))))))))))))))))))) K = (Con Tryd.prog 5
  [] [] (AV.b true) [] ∧ True ∧ LDoes Tryd.prog (loopAt Tryd.prog 4 0) 114 0 (mkT [(0, AV.sv 1 m (imF ll bb)), (1, AV.i .i64 (Int.ofNat n)), (2, AV.s x), (7, AV.l0), (21, AV.sv 1 m
  (imF ll bb)), (22, AV.i .i64 (Int.ofNat m)), (23, AV.i .i64 (0 : Int))]) [] (XO.exit 0) (mkT [(0, AV.sv 1 m (imF ll bb)), (1, AV.i .i64 (Int.ofNat n)), (2, AV.s x), (7, AV.sv 1 m
  (imF ll bb))]) [] ∧ Con Tryd.prog 24 [AV.sv 1 m (imF ll bb)] [] (AV.tup [AV.p 0 0, AV.i .i64 (0 : Int)]) [Upd.set (SS.o s)] ∧ Con Tryd.prog 25 [AV.sv 1 m (imF ll bb)] [] (AV.tup
  [AV.p 0 0, AV.i .i64 (0 : Int)]) [Upd.set (rsA 2 s), Upd.set (rsR s), Upd.set (rsP s)] ∧ True ∧ Con Tryd.prog 8 [AV.p 0 0, AV.i .i64 (Int.ofNat n)] [some (SS.o s)] (AV.tup [AV.p 1
  0, AV.i .i64 (0 : Int)]) [Upd.keep, Upd.set (CS.oa c)] ∧ Con Tryd.prog 9 [AV.p 0 0, AV.i .i64 (Int.ofNat n)] [some (rsA 2 s), some (rsR s), some (rsP s)] (AV.tup [AV.p 3 0, AV.i
  .i64 (0 : Int)]) [Upd.keep, Upd.keep, Upd.keep, Upd.set (rcO 0 4 5 n false), Upd.set (rcV n (CS.q c) (CS.d c)), Upd.set (rcB n (CS.sec c))] ∧ True ∧ True ∧ True ∧ True ∧ LDoes
  Tryd.prog (loopAt Tryd.prog 4 1) 114 0 (mkT [(1, AV.i .i64 (Int.ofNat n)), (2, AV.s x), (10, AV.p 0 0), (12, AV.p 1 0), (14, AV.p 4 0), (16, AV.p 5 0), (18, AV.i .i64 (-1 :
  Int))]) [some (SS.o s), some (rsK s), some (rsR s), some (rsP s), some (CS.oa c), some (rcK n false), some (rcV n (CS.q c) (CS.d c)), some (rcB n (CS.sec c))] (XO.exit 2) (mkT
  [(10, AV.p 0 0), (12, AV.p 1 0)]) [some (SS.o s2), some (rsK s2), some (rsR s2), some (rsP s2)] ∧ Con Tryd.prog 23 [AV.p 0 0] [some (SS.o s2)] (AV.sv 1 (SS.n s2) (imgF s2))
  [Upd.keep] ∧ True ∧ Con Tryd.prog 22 [AV.sv 1 (SS.n s2) (imgF s2), AV.lr 0 1 0 (SS.n s2) false] [some (rsR s2)] (AV.b true) [Upd.gone] ∧ K (Res.rv (AV.b true) { tree := z0 (z0 (z0 (z0 T.e T.e) (zl (AObj.rows 91 2 (List.length (SS.P s2)) (penF (oA (SS.P s2)) (oB (SS.P s2)))))) (z0 (zl (AObj.cells 51 5 [] (z1 (AV.lr 10 1 0 (SS.n s2) false) (z1 (AV.lr 11 2 0 (List.length (SS.P s2)) false) (zl (AV.i .i64 (SS.am s2))) T.e) (z1 (AV.i .i64 (Int.ofNat (SS.wr s2))) (zl (AV.b (SS.off s2))) T.e)))) T.e)) (z0 (z0 (zl (AObj.segs 69 33799 [{ st := 0, sz := 1, n := 1, f := oneF (CV.i .i64 (Int.ofNat (SS.n s2))) }, { st := 1, sz := 65, n := 512, f := durF (SS.dur s2) (SS.torn s2) }, { st := 33281, sz := 1, n := 1, f := oneF (CV.opv (pB (SS.P s2)) 66 (pW (SS.P s2))) }, { st := 33282, sz := 1, n := 512, f := latF (lB (SS.P s2)) (lW (SS.P s2)) }, { st := 33794, sz := 5, n := 1, f := tailF (Int.ofNat (List.length (SS.P s2))) (Int.ofNat (SS.wr s2)) (SS.off s2) (SS.armed s2) (Int.ofNat (SS.left s2)) }])) T.e) (z0 (z0 T.e T.e) T.e)), next := 12, log := [10, 11, 10, 9, 8, 7, 6, 5, 4, 3, 2, 1, 0, 7, 6, 5, 4, 3, 2, 1, 0] })
  Orc.z) := by kernel_rfl
theorem raA_vc (s : SS) (c : CS) (s2 : SS) (c2 : CS) (gq : Nat) (hq : Nat) (hd : List Nat) (x : List Nat) (gd : List Nat) (pe : Int) (i : Int) (hl : decide (i ≤ Int.ofNat c.n) =
  true) (h0 : (!(decide (Int.ofNat hq = Int.ofNat hq) && (natsEq hd hd && true))) = false) (hg : (!(decide (Int.ofNat gq = Int.ofNat gq) && (natsEq gd gd && true))) = false) (g0 :
  (!!(decide (Int.ofNat hq = Int.ofNat hq) && (natsEq hd hd && true))) = true) (gg : (!!(decide (Int.ofNat gq = Int.ofNat gq) && (natsEq gd gd && true))) = true) (K : Res → Orc →
  Prop) : runK Tryd.prog 1000000 (.code (loopAt Tryd.prog 4 1) 114 (mkT [(1, .i .i64 (Int.ofNat c.n)), (2, .s x), (10, .p 0 0), (12, .p 1 0), (14, .p 4 0), (16, .p 5 0), (18, .i
  .i64 i)]) (mkH [some s.o, some (rsK s), some (rsR s), some (rsP s), some c.oa, some (rcK c.n c.dead), some (rcV c.n c.q c.d), some (rcB c.n c.sec)])) (Orc.t (Orc.cal [4, 0]
  (AV.agg [AV.i .i64 (Int.ofNat hq), AV.s hd]) [Upd.keep, Upd.keep] (Orc.cal [1, 2, 3, 5, 6, 7] (AV.agg [AV.i .i64 (Int.ofNat hq), AV.s hd]) [Upd.keep, Upd.keep, Upd.keep, Upd.keep,
  Upd.keep, Upd.keep] (Orc.t (Orc.t (Orc.t (Orc.t (Orc.cal [4, 0] (AV.i .i64 pe) [Upd.set (CS.o c2), Upd.set (SS.o s2)] (Orc.t (Orc.t (Orc.t (Orc.t (Orc.cal [1, 2, 3, 5, 6, 7] (AV.i
  .i64 pe) [Upd.set (rsA 6 s2), Upd.set (rsR s2), Upd.gone, Upd.set (rcO 0 4 5 (CS.n c) (CS.dead c2)), Upd.set (rcV (CS.n c) (CS.q c2) (CS.d c2)), Upd.set (rcB (CS.n c) (CS.sec
  c2)), Upd.set (rsP s2)] (Orc.t (Orc.f (Orc.t (Orc.t (Orc.t (Orc.cal [4, 0] (AV.agg [AV.i .i64 (Int.ofNat gq), AV.s gd]) [Upd.keep, Upd.keep] (Orc.t (Orc.t (Orc.t (Orc.cal [1, 2,
  8, 5, 6, 7] (AV.agg [AV.i .i64 (Int.ofNat gq), AV.s gd]) [Upd.keep, Upd.keep, Upd.keep, Upd.keep, Upd.keep, Upd.keep] (Orc.t (Orc.f (Orc.f Orc.z)))))))))))))))))))))))))) K =
  (decide (i ≤ Int.ofNat (CS.n c)) = true ∧ Con Tryd.prog 18 [AV.p 0 0, AV.i .i64 i] [some (CS.o c), some (SS.o s)] (AV.agg [AV.i .i64 (Int.ofNat hq), AV.s hd]) [Upd.keep, Upd.keep]
  ∧ Con Tryd.prog 19 [AV.p 3 0, AV.i .i64 i] [some (rsA 2 s), some (rsR s), some (rsP s), some (rcO 0 4 5 (CS.n c) (CS.dead c)), some (rcV (CS.n c) (CS.q c) (CS.d c)), some (rcB
  (CS.n c) (CS.sec c))] (AV.agg [AV.i .i64 (Int.ofNat hq), AV.s hd]) [Upd.keep, Upd.keep, Upd.keep, Upd.keep, Upd.keep, Upd.keep] ∧ True ∧ (!!(decide (Int.ofNat hq = Int.ofNat hq)
  && (natsEq hd hd && true))) = true ∧ (!!(decide (Int.ofNat hq = Int.ofNat hq) && (natsEq hd hd && true))) = true ∧ (!!(decide (Int.ofNat hq = Int.ofNat hq) && (natsEq hd hd &&
  true))) = true ∧ (!!(decide (Int.ofNat hq = Int.ofNat hq) && (natsEq hd hd && true))) = true ∧ Con Tryd.prog 16 [AV.p 0 0, AV.i .i64 i, AV.s x] [some (CS.o c), some (SS.o s)]
  (AV.i .i64 pe) [Upd.set (CS.o c2), Upd.set (SS.o s2)] ∧ (!!(decide (Int.ofNat hq = Int.ofNat hq) && (natsEq hd hd && true))) = true ∧ (!!(decide (Int.ofNat hq = Int.ofNat hq) &&
  (natsEq hd hd && true))) = true ∧ (!!(decide (Int.ofNat hq = Int.ofNat hq) && (natsEq hd hd && true))) = true ∧ (!!(decide (Int.ofNat hq = Int.ofNat hq) && (natsEq hd hd &&
  true))) = true ∧ Con Tryd.prog 17 [AV.p 3 0, AV.i .i64 i, AV.s x] [some (rsA 2 s), some (rsR s), some (rsP s), some (rcO 0 4 5 (CS.n c) (CS.dead c)), some (rcV (CS.n c) (CS.q c)
  (CS.d c)), some (rcB (CS.n c) (CS.sec c))] (AV.i .i64 pe) [Upd.set (rsA 6 s2), Upd.set (rsR s2), Upd.gone, Upd.set (rcO 0 4 5 (CS.n c) (CS.dead c2)), Upd.set (rcV (CS.n c) (CS.q
  c2) (CS.d c2)), Upd.set (rcB (CS.n c) (CS.sec c2)), Upd.set (rsP s2)] ∧ (!!(decide (Int.ofNat hq = Int.ofNat hq) && (natsEq hd hd && true))) = true ∧ (!(decide (Int.ofNat hq =
  Int.ofNat hq) && (natsEq hd hd && true))) = false ∧ (!!decide (pe = pe)) = true ∧ (!!decide (pe = pe)) = true ∧ (!!decide (pe = pe)) = true ∧ Con Tryd.prog 18 [AV.p 0 0, AV.i .i64
  i] [some (CS.o c2), some (SS.o s2)] (AV.agg [AV.i .i64 (Int.ofNat gq), AV.s gd]) [Upd.keep, Upd.keep] ∧ (!!decide (pe = pe)) = true ∧ (!!decide (pe = pe)) = true ∧ (!!decide (pe =
  pe)) = true ∧ Con Tryd.prog 19 [AV.p 3 0, AV.i .i64 i] [some (rsA 2 s2), some (rsR s2), some (rsP s2), some (rcO 0 4 5 (CS.n c) (CS.dead c2)), some (rcV (CS.n c) (CS.q c2) (CS.d
  c2)), some (rcB (CS.n c) (CS.sec c2))] (AV.agg [AV.i .i64 (Int.ofNat gq), AV.s gd]) [Upd.keep, Upd.keep, Upd.keep, Upd.keep, Upd.keep, Upd.keep] ∧ (!!decide (pe = pe)) = true ∧
  True ∧ (!decide (pe = pe)) = false ∧ (!(decide (Int.ofNat gq = Int.ofNat gq) && (natsEq gd gd && true))) = false ∧ ((-9223372036854775808 : Int) ≤ i + (1 : Int) ∧ i + (1 : Int) ≤
  (9223372036854775807 : Int)) ∧ K (Res.st XO.nrm (z0 (z1 (AV.i .i64 (Int.ofNat (CS.n c))) (z0 (z0 (z0 (z0 T.e (zl (AV.i .i64 pe))) (z0 (zl (AV.i .i64 (i + (1 : Int)))) T.e)) (z0
  (z0 T.e (zl (AV.i .i64 i))) (z0 (zl (AV.b !(decide (Int.ofNat hq = Int.ofNat hq) && (natsEq hd hd && true)))) T.e))) (z0 (z0 (z0 T.e (zl (AV.p 4 0))) (z0 (zl (AV.p 5 0)) T.e)) (z0
  (z0 (zl (AV.i .i64 i)) T.e) (z0 (zl (AV.i .i64 pe)) T.e)))) (z0 (z0 (z0 (z0 T.e (zl (AV.b !decide (pe = pe)))) (z0 (zl (AV.i .i64 i)) T.e)) (z0 (z0 T.e (zl (AV.b !(decide
  (Int.ofNat gq = Int.ofNat gq) && (natsEq gd gd && true))))) (z0 (zl (AV.i .i64 i)) T.e))) (z0 (z0 (z0 T.e (zl (AV.agg [AV.i .i64 (Int.ofNat gq), AV.s gd]))) (z0 (zl (AV.agg [AV.i
  .i64 (Int.ofNat hq), AV.s hd])) T.e)) (z0 (z0 (zl (AV.b (decide (i ≤ Int.ofNat (CS.n c))))) T.e) (z0 (zl (AV.i .i64 i)) T.e))))) (z1 (AV.s x) (z0 (z0 (z1 (AV.p 5 0) (z0 T.e (zl
  (AV.b !decide (pe = pe)))) (z0 (zl (AV.p 4 0)) T.e)) (z0 (z0 T.e (zl (AV.agg [AV.i .i64 (Int.ofNat gq), AV.s gd]))) (z0 (zl (AV.p 4 0)) T.e))) (z1 (AV.p 1 0) (z0 (z0 T.e (zl (AV.i
  .i64 i))) (z0 (zl (AV.i .i64 i)) T.e)) (z0 (z0 (zl (AV.i .i64 (Int.ofNat (CS.n c)))) T.e) (z0 (zl (AV.p 5 0)) T.e)))) (z0 (z1 (AV.p 0 0) (z1 (AV.i .i64 (i + (1 : Int))) (z0 T.e
  (zl (AV.b !decide (pe = pe)))) (z0 (zl (AV.agg [AV.i .i64 (Int.ofNat hq), AV.s hd])) T.e)) (z0 (z0 T.e (zl (AV.b !(decide (Int.ofNat gq = Int.ofNat gq) && (natsEq gd gd &&
  true))))) (z0 (zl (AV.s x)) T.e))) (z1 (AV.p 4 0) (z0 (z0 T.e (zl (AV.p 5 0))) (z0 (zl (AV.b !(decide (Int.ofNat hq = Int.ofNat hq) && (natsEq hd hd && true)))) T.e)) (z0 (z0 (zl
  (AV.i .i64 i)) T.e) (z0 (zl (AV.s x)) T.e)))))) { tree := z1 (AObj.segs 69 33799 [{ st := 0, sz := 1, n := 1, f := oneF (CV.i .i64 (Int.ofNat (SS.n s2))) }, { st := 1, sz := 65, n := 512, f := durF (SS.dur s2) (SS.torn s2) }, { st := 33281, sz := 1, n := 1, f := oneF (CV.opv (pB (SS.P s2)) 66 (pW (SS.P s2))) }, { st := 33282, sz := 1, n := 512, f := latF (lB (SS.P s2)) (lW (SS.P s2)) }, { st := 33794, sz := 5, n := 1, f := tailF (Int.ofNat (List.length (SS.P s2))) (Int.ofNat (SS.wr s2)) (SS.off s2) (SS.armed s2) (Int.ofNat (SS.left s2)) }]) (z1 (AObj.cells 51 5 [] (z1 (AV.lr 2 1 0 (SS.n s2) false) (z1 (AV.lr 8 2 0 (List.length (SS.P s2)) false) (zl (AV.i .i64 (SS.am s2))) T.e) (z1 (AV.i .i64 (Int.ofNat (SS.wr s2))) (zl (AV.b (SS.off s2))) T.e))) (z0 (zl (AObj.rows 4 1 (CS.n c) (secF (CS.sec c2)))) T.e) (zl (AObj.cells 80 4 [] (z1 (AV.p 1 0) (z1 (AV.lr 6 2 0 (CS.n c) false) (zl (AV.b (CS.dead c2))) T.e) (zl (AV.lr 7 1 0 (CS.n c) false)))))) (z1 (AObj.rows 55 1 (SS.n s2) (imgF s2)) (z1 (AObj.segs 74 771 [{ st := 1, sz := 1, n := 1, f := oneF (CV.i .i64 (Int.ofNat (CS.n c2))) }, { st := 2, sz := 3, n := 256, f := cellF (CS.q c2) (CS.d c2) (CS.sp c2) }, { st := 770, sz := 1, n := 1, f := oneF (CV.b (CS.dead c2)) }] [(0, AV.p 0 0)]) (zl (AObj.rows 91 2 (List.length (SS.P s2)) (penF (oA (SS.P s2)) (oB (SS.P s2))))) T.e) (zl (AObj.rows 45 2 (CS.n c) (valF (CS.q c2) (CS.d c2))))), next := 9, log := [8, 7, 6, 5, 3, 2, 1, 0, 4] })
  Orc.z) := by kernel_rfl
theorem raB_vc (s : SS) (c : CS) (s2 : SS) (c2 : CS) (gq : Nat) (hq : Nat) (hd : List Nat) (x : List Nat) (gd : List Nat) (pe : Int) (i : Int) (hl : decide (i ≤ Int.ofNat c.n) =
  true) (h0 : (!(decide (Int.ofNat hq = Int.ofNat hq) && (natsEq hd hd && true))) = false) (hg : (!(decide (Int.ofNat gq = Int.ofNat gq) && (natsEq gd gd && true))) = false) (g0 :
  (!!(decide (Int.ofNat hq = Int.ofNat hq) && (natsEq hd hd && true))) = true) (gg : (!!(decide (Int.ofNat gq = Int.ofNat gq) && (natsEq gd gd && true))) = true) (K : Res → Orc →
  Prop) : runK Tryd.prog 1000000 (.code (loopAt Tryd.prog 4 1) 114 (mkT [(1, .i .i64 (Int.ofNat c.n)), (2, .s x), (10, .p 0 0), (12, .p 1 0), (14, .p 4 0), (16, .p 5 0), (18, .i
  .i64 i)]) (mkH [some s.o, some (rsK s), some (rsR s), some (rsP s), some c.oa, some (rcK c.n c.dead), some (rcV c.n c.q c.d), some (rcB c.n c.sec)])) (Orc.t (Orc.cal [4, 0]
  (AV.agg [AV.i .i64 (Int.ofNat hq), AV.s hd]) [Upd.keep, Upd.keep] (Orc.cal [1, 2, 3, 5, 6, 7] (AV.agg [AV.i .i64 (Int.ofNat hq), AV.s hd]) [Upd.keep, Upd.keep, Upd.keep, Upd.keep,
  Upd.keep, Upd.keep] (Orc.t (Orc.t (Orc.t (Orc.t (Orc.cal [4, 0] (AV.i .i64 pe) [Upd.set (CS.o c2), Upd.set (SS.o s2)] (Orc.t (Orc.t (Orc.t (Orc.t (Orc.cal [1, 2, 3, 5, 6, 7] (AV.i
  .i64 pe) [Upd.set (rsA 2 s2), Upd.set (rsR s2), Upd.set (rsP s2), Upd.set (rcO 0 4 5 (CS.n c) (CS.dead c2)), Upd.set (rcV (CS.n c) (CS.q c2) (CS.d c2)), Upd.set (rcB (CS.n c)
  (CS.sec c2))] (Orc.t (Orc.f (Orc.t (Orc.t (Orc.t (Orc.cal [4, 0] (AV.agg [AV.i .i64 (Int.ofNat gq), AV.s gd]) [Upd.keep, Upd.keep] (Orc.t (Orc.t (Orc.t (Orc.cal [1, 2, 3, 5, 6, 7]
  (AV.agg [AV.i .i64 (Int.ofNat gq), AV.s gd]) [Upd.keep, Upd.keep, Upd.keep, Upd.keep, Upd.keep, Upd.keep] (Orc.t (Orc.f (Orc.f Orc.z)))))))))))))))))))))))))) K = (decide (i ≤
  Int.ofNat (CS.n c)) = true ∧ Con Tryd.prog 18 [AV.p 0 0, AV.i .i64 i] [some (CS.o c), some (SS.o s)] (AV.agg [AV.i .i64 (Int.ofNat hq), AV.s hd]) [Upd.keep, Upd.keep] ∧ Con
  Tryd.prog 19 [AV.p 3 0, AV.i .i64 i] [some (rsA 2 s), some (rsR s), some (rsP s), some (rcO 0 4 5 (CS.n c) (CS.dead c)), some (rcV (CS.n c) (CS.q c) (CS.d c)), some (rcB (CS.n c)
  (CS.sec c))] (AV.agg [AV.i .i64 (Int.ofNat hq), AV.s hd]) [Upd.keep, Upd.keep, Upd.keep, Upd.keep, Upd.keep, Upd.keep] ∧ True ∧ (!!(decide (Int.ofNat hq = Int.ofNat hq) && (natsEq
  hd hd && true))) = true ∧ (!!(decide (Int.ofNat hq = Int.ofNat hq) && (natsEq hd hd && true))) = true ∧ (!!(decide (Int.ofNat hq = Int.ofNat hq) && (natsEq hd hd && true))) = true
  ∧ (!!(decide (Int.ofNat hq = Int.ofNat hq) && (natsEq hd hd && true))) = true ∧ Con Tryd.prog 16 [AV.p 0 0, AV.i .i64 i, AV.s x] [some (CS.o c), some (SS.o s)] (AV.i .i64 pe)
  [Upd.set (CS.o c2), Upd.set (SS.o s2)] ∧ (!!(decide (Int.ofNat hq = Int.ofNat hq) && (natsEq hd hd && true))) = true ∧ (!!(decide (Int.ofNat hq = Int.ofNat hq) && (natsEq hd hd &&
  true))) = true ∧ (!!(decide (Int.ofNat hq = Int.ofNat hq) && (natsEq hd hd && true))) = true ∧ (!!(decide (Int.ofNat hq = Int.ofNat hq) && (natsEq hd hd && true))) = true ∧ Con
  Tryd.prog 17 [AV.p 3 0, AV.i .i64 i, AV.s x] [some (rsA 2 s), some (rsR s), some (rsP s), some (rcO 0 4 5 (CS.n c) (CS.dead c)), some (rcV (CS.n c) (CS.q c) (CS.d c)), some (rcB
  (CS.n c) (CS.sec c))] (AV.i .i64 pe) [Upd.set (rsA 2 s2), Upd.set (rsR s2), Upd.set (rsP s2), Upd.set (rcO 0 4 5 (CS.n c) (CS.dead c2)), Upd.set (rcV (CS.n c) (CS.q c2) (CS.d
  c2)), Upd.set (rcB (CS.n c) (CS.sec c2))] ∧ (!!(decide (Int.ofNat hq = Int.ofNat hq) && (natsEq hd hd && true))) = true ∧ (!(decide (Int.ofNat hq = Int.ofNat hq) && (natsEq hd hd
  && true))) = false ∧ (!!decide (pe = pe)) = true ∧ (!!decide (pe = pe)) = true ∧ (!!decide (pe = pe)) = true ∧ Con Tryd.prog 18 [AV.p 0 0, AV.i .i64 i] [some (CS.o c2), some (SS.o
  s2)] (AV.agg [AV.i .i64 (Int.ofNat gq), AV.s gd]) [Upd.keep, Upd.keep] ∧ (!!decide (pe = pe)) = true ∧ (!!decide (pe = pe)) = true ∧ (!!decide (pe = pe)) = true ∧ Con Tryd.prog 19
  [AV.p 3 0, AV.i .i64 i] [some (rsA 2 s2), some (rsR s2), some (rsP s2), some (rcO 0 4 5 (CS.n c) (CS.dead c2)), some (rcV (CS.n c) (CS.q c2) (CS.d c2)), some (rcB (CS.n c) (CS.sec
  c2))] (AV.agg [AV.i .i64 (Int.ofNat gq), AV.s gd]) [Upd.keep, Upd.keep, Upd.keep, Upd.keep, Upd.keep, Upd.keep] ∧ (!!decide (pe = pe)) = true ∧ True ∧ (!decide (pe = pe)) = false
  ∧ (!(decide (Int.ofNat gq = Int.ofNat gq) && (natsEq gd gd && true))) = false ∧ ((-9223372036854775808 : Int) ≤ i + (1 : Int) ∧ i + (1 : Int) ≤ (9223372036854775807 : Int)) ∧ K
  (Res.st XO.nrm (z0 (z1 (AV.i .i64 (Int.ofNat (CS.n c))) (z0 (z0 (z0 (z0 T.e (zl (AV.i .i64 pe))) (z0 (zl (AV.i .i64 (i + (1 : Int)))) T.e)) (z0 (z0 T.e (zl (AV.i .i64 i))) (z0 (zl
  (AV.b !(decide (Int.ofNat hq = Int.ofNat hq) && (natsEq hd hd && true)))) T.e))) (z0 (z0 (z0 T.e (zl (AV.p 4 0))) (z0 (zl (AV.p 5 0)) T.e)) (z0 (z0 (zl (AV.i .i64 i)) T.e) (z0 (zl
  (AV.i .i64 pe)) T.e)))) (z0 (z0 (z0 (z0 T.e (zl (AV.b !decide (pe = pe)))) (z0 (zl (AV.i .i64 i)) T.e)) (z0 (z0 T.e (zl (AV.b !(decide (Int.ofNat gq = Int.ofNat gq) && (natsEq gd
  gd && true))))) (z0 (zl (AV.i .i64 i)) T.e))) (z0 (z0 (z0 T.e (zl (AV.agg [AV.i .i64 (Int.ofNat gq), AV.s gd]))) (z0 (zl (AV.agg [AV.i .i64 (Int.ofNat hq), AV.s hd])) T.e)) (z0
  (z0 (zl (AV.b (decide (i ≤ Int.ofNat (CS.n c))))) T.e) (z0 (zl (AV.i .i64 i)) T.e))))) (z1 (AV.s x) (z0 (z0 (z1 (AV.p 5 0) (z0 T.e (zl (AV.b !decide (pe = pe)))) (z0 (zl (AV.p 4
  0)) T.e)) (z0 (z0 T.e (zl (AV.agg [AV.i .i64 (Int.ofNat gq), AV.s gd]))) (z0 (zl (AV.p 4 0)) T.e))) (z1 (AV.p 1 0) (z0 (z0 T.e (zl (AV.i .i64 i))) (z0 (zl (AV.i .i64 i)) T.e)) (z0
  (z0 (zl (AV.i .i64 (Int.ofNat (CS.n c)))) T.e) (z0 (zl (AV.p 5 0)) T.e)))) (z0 (z1 (AV.p 0 0) (z1 (AV.i .i64 (i + (1 : Int))) (z0 T.e (zl (AV.b !decide (pe = pe)))) (z0 (zl
  (AV.agg [AV.i .i64 (Int.ofNat hq), AV.s hd])) T.e)) (z0 (z0 T.e (zl (AV.b !(decide (Int.ofNat gq = Int.ofNat gq) && (natsEq gd gd && true))))) (z0 (zl (AV.s x)) T.e))) (z1 (AV.p 4
  0) (z0 (z0 T.e (zl (AV.p 5 0))) (z0 (zl (AV.b !(decide (Int.ofNat hq = Int.ofNat hq) && (natsEq hd hd && true)))) T.e)) (z0 (z0 (zl (AV.i .i64 i)) T.e) (z0 (zl (AV.s x)) T.e))))))
  { tree := z1 (AObj.segs 69 33799 [{ st := 0, sz := 1, n := 1, f := oneF (CV.i .i64 (Int.ofNat (SS.n s2))) }, { st := 1, sz := 65, n := 512, f := durF (SS.dur s2) (SS.torn s2) }, { st := 33281, sz := 1, n := 1, f := oneF (CV.opv (pB (SS.P s2)) 66 (pW (SS.P s2))) }, { st := 33282, sz := 1, n := 512, f := latF (lB (SS.P s2)) (lW (SS.P s2)) }, { st := 33794, sz := 5, n := 1, f := tailF (Int.ofNat (List.length (SS.P s2))) (Int.ofNat (SS.wr s2)) (SS.off s2) (SS.armed s2) (Int.ofNat (SS.left s2)) }]) (z1 (AObj.cells 51 5 [] (z1 (AV.lr 2 1 0 (SS.n s2) false) (z1 (AV.lr 3 2 0 (List.length (SS.P s2)) false) (zl (AV.i .i64 (SS.am s2))) T.e) (z1 (AV.i .i64 (Int.ofNat (SS.wr s2))) (zl (AV.b (SS.off s2))) T.e))) (z1 (AObj.rows 91 2 (List.length (SS.P s2)) (penF (oA (SS.P s2)) (oB (SS.P s2)))) (zl (AObj.rows 4 1 (CS.n c) (secF (CS.sec c2)))) T.e) (zl (AObj.cells 80 4 [] (z1 (AV.p 1 0) (z1 (AV.lr 6 2 0 (CS.n c) false) (zl (AV.b (CS.dead c2))) T.e) (zl (AV.lr 7 1 0 (CS.n c) false)))))) (z1 (AObj.rows 55 1 (SS.n s2) (imgF s2)) (zl (AObj.segs 74 771 [{ st := 1, sz := 1, n := 1, f := oneF (CV.i .i64 (Int.ofNat (CS.n c2))) }, { st := 2, sz := 3, n := 256, f := cellF (CS.q c2) (CS.d c2) (CS.sp c2) }, { st := 770, sz := 1, n := 1, f := oneF (CV.b (CS.dead c2)) }] [(0, AV.p 0 0)])) (zl (AObj.rows 45 2 (CS.n c) (valF (CS.q c2) (CS.d c2))))), next := 8, log := [7, 6, 5, 3, 2, 1, 0, 4] })
  Orc.z) := by kernel_rfl
theorem raE_vc (s : SS) (c : CS) (x : List Nat) (i : Int) (hl : decide (i ≤ Int.ofNat c.n) = false) (K : Res → Orc → Prop) : runK Tryd.prog 1000000 (.code (loopAt Tryd.prog 4 1)
  114 (mkT [(1, .i .i64 (Int.ofNat c.n)), (2, .s x), (10, .p 0 0), (12, .p 1 0), (14, .p 4 0), (16, .p 5 0), (18, .i .i64 i)]) (mkH [some s.o, some (rsK s), some (rsR s), some (rsP
  s), some c.oa, some (rcK c.n c.dead), some (rcV c.n c.q c.d), some (rcB c.n c.sec)])) (Orc.f Orc.z) K = (decide (i ≤ Int.ofNat (CS.n c)) = false ∧ K (Res.st (XO.exit 2) (z0 (z1
  (AV.i .i64 (Int.ofNat (CS.n c))) (z0 T.e (z0 T.e (z0 (z0 (zl (AV.i .i64 i)) T.e) T.e))) (z0 T.e (z0 T.e (z0 (z0 (zl (AV.b (decide (i ≤ Int.ofNat (CS.n c))))) T.e) T.e)))) (z1
  (AV.s x) (z0 (z0 (zl (AV.p 5 0)) T.e) (z1 (AV.p 1 0) T.e (z0 (z0 (zl (AV.i .i64 (Int.ofNat (CS.n c)))) T.e) T.e))) (z0 (z1 (AV.p 0 0) (zl (AV.i .i64 i)) T.e) (zl (AV.p 4 0))))) { tree := z1 (AObj.segs 69 33799 [{ st := 0, sz := 1, n := 1, f := oneF (CV.i .i64 (Int.ofNat (SS.n s))) }, { st := 1, sz := 65, n := 512, f := durF (SS.dur s) (SS.torn s) }, { st := 33281, sz := 1, n := 1, f := oneF (CV.opv (pB (SS.P s)) 66 (pW (SS.P s))) }, { st := 33282, sz := 1, n := 512, f := latF (lB (SS.P s)) (lW (SS.P s)) }, { st := 33794, sz := 5, n := 1, f := tailF (Int.ofNat (List.length (SS.P s))) (Int.ofNat (SS.wr s)) (SS.off s) (SS.armed s) (Int.ofNat (SS.left s)) }]) (z1 (AObj.cells 51 5 [] (z1 (AV.lr 2 1 0 (SS.n s) false) (z1 (AV.lr 3 2 0 (List.length (SS.P s)) false) (zl (AV.i .i64 (SS.am s))) T.e) (z1 (AV.i .i64 (Int.ofNat (SS.wr s))) (zl (AV.b (SS.off s))) T.e))) (z1 (AObj.rows 91 2 (List.length (SS.P s)) (penF (oA (SS.P s)) (oB (SS.P s)))) (zl (AObj.rows 4 1 (CS.n c) (secF (CS.sec c)))) T.e) (zl (AObj.cells 80 4 [] (z1 (AV.p 1 0) (z1 (AV.lr 6 2 0 (CS.n c) false) (zl (AV.b (CS.dead c))) T.e) (zl (AV.lr 7 1 0 (CS.n c) false)))))) (z1 (AObj.rows 55 1 (SS.n s) (imgF s)) (zl (AObj.segs 74 771 [{ st := 1, sz := 1, n := 1, f := oneF (CV.i .i64 (Int.ofNat (CS.n c))) }, { st := 2, sz := 3, n := 256, f := cellF (CS.q c) (CS.d c) (CS.sp c) }, { st := 770, sz := 1, n := 1, f := oneF (CV.b (CS.dead c)) }] [(0, AV.p 0 0)])) (zl (AObj.rows 45 2 (CS.n c) (valF (CS.q c) (CS.d c))))), next := 8, log := [] })
  Orc.z) := by kernel_rfl
noncomputable def fr (n : Nat) (ll : Nat → Nat) (bb : Nat → Nat → Nat) : SS := fromS n ll bb n
noncomputable def mnI (n : Int) (x : List Nat) (m : Nat) (ll : Nat → Nat) (bb : Nat → Nat → Nat) (k : Nat) : List (Nat × AV) × List (Option AObj) :=
  ([(0, .sv 1 m (imF ll bb)), (1, .i .i64 n), (2, .s x), (7, .lr 0 1 0 k false), (21, .sv 1 m (imF ll bb)), (22, .i .i64 (Int.ofNat m)), (23, .i .i64 (Int.ofNat k))], [some (.rows 55 1 k (imF ll bb))])
theorem mineK_lp (n : Int) (x : List Nat) (m : Nat) (ll : Nat → Nat) (bb : Nat → Nat → Nat) (hn : (3 * m + 1536) * 24 ≤ 562949953421312) (hl : ∀ i, i < m → 2 * ll i + 768 ≤ 281474976710656) :
    LDoes Tryd.prog (loopAt Tryd.prog 4 0) 114 0 (mkT (mnI n x m ll bb 0).1) (mnI n x m ll bb 0).2 (.exit 0) (mkT [(0, .sv 1 m (imF ll bb)), (1, .i .i64 n), (2, .s x), (7, .sv 1 m (imF ll bb))]) [] := by
  refine loop_indV (D := Nat) (l' := [(0, .sv 1 m (imF ll bb)), (1, .i .i64 n), (2, .s x), (7, .sv 1 m (imF ll bb))]) (mnI n x m ll bb) (fun k => m - k) (fun k => k ≤ m) ?_ 0 (Nat.zero_le m)
  intro k hk
  refine ⟨Nat.zero_le _, 1000000, ?_⟩
  have vc := mineR_vc n m k ll bb x
  simp only [addN_eq] at vc
  by_cases hlt : k < m
  · have hlk := hl k hlt
    refine ⟨_, (vc _).mpr ⟨fun _ => ⟨⟨by simp, by simp; omega⟩, trivial, ⟨⟨trivial, by omega⟩, trivial, trivial, by omega, by omega⟩, ⟨by omega, trivial, by omega, by omega⟩, ⟨by simp <;> omega, by simp <;> omega⟩, ?_⟩, fun h => absurd (of_decide_eq_false h) (by simp; omega)⟩⟩
    exact .inl ⟨k + 1, [4], [], _, _, (mnI n x m ll bb (k + 1)).1, [some (.rows 55 1 (k + 1) (appZ k (imF ll bb) (fun _ j => List.getD [CV.sv 1 (ll k) fun k_1 _ => CV.i .u8 (Int.ofNat (bb k k_1))] j .p0)))], hlt, by show m - (k + 1) < m - k; omega, rfl,
      st_k [4] (by kernel_rfl), .refl _, .rowsW fun i j hi hj => app_im ll bb k hi hj, trivial⟩
  · have : k = m := by omega
    subst this
    refine ⟨_, (vc _).mpr ⟨fun h => absurd (of_decide_eq_true h) (by simp), fun _ => .inr ⟨[], [0], _, _, [(0, .sv 1 k (imF ll bb)), (1, .i .i64 n), (2, .s x), (7, .sv 1 k (imF ll bb))], [], rfl, by simp,
      st_fz [] [0] ((True ∧ True ∧ True ∧ (1 = 1 ∧ 0 + k ≤ k) ∧ True) ∧ True) [.sv 1 k (imF ll bb), .i .i64 n, .s x, .lr 0 1 0 k false] (by kernel_rfl) (by kernel_rfl) (by kernel_rfl) ⟨⟨trivial, trivial, trivial, ⟨rfl, by omega⟩, trivial⟩, trivial⟩ (by kernel_rfl) rfl rfl rfl trivial rfl, .refl _, .refl _⟩⟩⟩
theorem mine_lp (n : Int) (x : List Nat) (m : Nat) (ll : Nat → Nat) (bb : Nat → Nat → Nat) (hn : (3 * m + 1536) * 24 ≤ 562949953421312) (hl : ∀ i, i < m → 2 * ll i + 768 ≤ 281474976710656) :
    LDoes Tryd.prog (loopAt Tryd.prog 4 0) 114 0 (mkT [(0, .sv 1 m (imF ll bb)), (1, .i .i64 n), (2, .s x), (7, .l0), (21, .sv 1 m (imF ll bb)), (22, .i .i64 (Int.ofNat m)), (23, .i .i64 0)]) [] (.exit 0) (mkT [(0, .sv 1 m (imF ll bb)), (1, .i .i64 n), (2, .s x), (7, .sv 1 m (imF ll bb))]) [] := by
  refine (mineK_lp n x m ll bb hn hl).weak ⟨rfl, .inl rfl, rfl, .inl rfl, rfl, .inl rfl, rfl, .inr ⟨rfl, .inl ⟨0, 1, 0, false, rfl⟩⟩, rfl, .inl rfl, rfl, .inl rfl, rfl, .inl rfl, trivial⟩ ?_
  intro o ho
  rw [List.mem_singleton.1 ho]
  exact ⟨_, rfl, rfl⟩
theorem good_or (ll : Nat → Nat) : ∀ n, (∀ i, i < n → ll i = 64 ∨ ll i = 0) ∨ ∃ q, q < n ∧ (∀ i, i < q → ll i = 64 ∨ ll i = 0) ∧ ll q ≠ 64 ∧ ll q ≠ 0
  | 0 => .inl fun i h => absurd h (Nat.not_lt_zero i)
  | n + 1 => by
    rcases good_or ll n with h | ⟨q, h1, h2⟩
    · by_cases g : ll n = 64 ∨ ll n = 0
      · exact .inl fun i hi => by
          by_cases e : i = n
          · rw [e]; exact g
          · exact h i (by omega)
      · exact .inr ⟨n, by omega, h, fun e => g (.inl e), fun e => g (.inr e)⟩
    · exact .inr ⟨q, by omega, h2⟩
theorem fr_byt (n : Nat) (ll : Nat → Nat) (bb : Nat → Nat → Nat) (hb : ∀ i k, bb i k < 256) : Byt (fr n ll bb) :=
  ⟨fun i j => by
    show ∃ q : Nat, q < 256 ∧ (bif Nat.blt i n && Nat.beq (ll i) 64 then (fun j => Int.ofNat (bb i j)) else fun _ => 0) j = Int.ofNat q
    cases Nat.blt i n && Nat.beq (ll i) 64 with
    | true => exact ⟨bb i j, hb i j, rfl⟩
    | false => exact ⟨0, by decide, rfl⟩, fun w hw => by cases hw⟩
theorem fr_ok (n : Nat) (ll : Nat → Nat) (bb : Nat → Nat → Nat) (hn : n ≤ 512) : OkM (fr n ll bb) 0 := ⟨hn, Nat.le_refl 0, Nat.le_refl 0, (by decide : (0 : Nat) < 9223372036854775808), fun w hw => by cases hw⟩
theorem rfrom2_con (n : Nat) (ll : Nat → Nat) (bb : Nat → Nat → Nat) (h1 : 1 ≤ n) (hn : n ≤ 512) (ok : ∀ i, i < n → ll i = 64 ∨ ll i = 0) :
    Con Tryd.prog 25 [.sv 1 n (imF ll bb)] [] (.tup [.p 0 0, .i .i64 0]) [.set (rsA 2 (fr n ll bb)), .set (rsR (fr n ll bb)), .set (rsP (fr n ll bb))] := by
  have k := rfrom_con n ll bb h1 hn ok
  refine (k.padV (Nat.zero_le _) (.rows 91 2 0 (penF (oA []) (oB []))) rfl).post (.refl _) ⟨rsZ_ov n 0 (-1) false, .rowsW fun i j hi hj => ?_, .refl _, trivial⟩
  have e : Nat.blt i n = true := by rw [Nat.blt_eq]; exact hi
  show CW (CV.sv 1 (ll i) fun k _ => .i .u8 (Int.ofNat (bb i k))) (CV.sv 1 (bif (Nat.blt i n && Nat.beq (ll i) 0) then 0 else 64) fun k _ => .i .u8 ((bif Nat.blt i n && Nat.beq (ll i) 64 then (fun j => Int.ofNat (bb i j)) else fun _ => 0) k))
  rw [e, Bool.true_and, Bool.true_and]
  rcases ok i hi with o | o <;> rw [o]
  · exact .of rfl
  · exact sv0_cw 1 _ _
noncomputable def iI : Nat → Int
  | 0 => -1
  | k + 1 => Int.ofNat k
theorem iI_s (k : Nat) : iI k + 1 = iI (k + 1) := by cases k <;> rfl
theorem iI_eq (k : Nat) : iI k = Int.ofNat k - 1 := by
  cases k with
  | zero => rfl
  | succ k => show Int.ofNat k = Int.ofNat (k + 1) - 1; simp
noncomputable def raS (n : Nat) (S : SS) (x : List Nat) : Nat → CS × SS
  | 0 => (opened S n, S)
  | k + 1 => ((raS n S x k).1.putC (raS n S x k).2 (iI k) x, (raS n S x k).1.putS (raS n S x k).2 (iI k) x)
noncomputable def raT (n : Nat) (x : List Nat) (i : Int) : List (Nat × AV) := [(1, .i .i64 (Int.ofNat n)), (2, .s x), (10, .p 0 0), (12, .p 1 0), (14, .p 4 0), (16, .p 5 0), (18, .i .i64 i)]
structure RI (n k : Nat) (p : CS × SS) : Prop where
  inv : Inv p.1 p.2 k
  r : RInv p.1
  cn : p.1.n = n
theorem RI.at_ {n : Nat} {S : SS} (h1 : n ≤ 256) (h2 : 2 * n ≤ S.n) (ok : OkM S 0) (hb : Byt S) (x : List Nat) (hx : ∀ b ∈ x, b < 256) : ∀ k, RI n k (raS n S x k)
  | 0 => ⟨.opened h1 h2 ok hb, .opened _ _, rfl⟩
  | k + 1 => by
    have h := RI.at_ h1 h2 ok hb x hx k
    exact ⟨h.inv.put _ x hx, (h.r.put _ _ x).1, ((h.r.put _ _ x).2).trans h.cn⟩
theorem ra_round (n k : Nat) (x : List Nat) (hx : ∀ b ∈ x, b < 256) (c : CS) (s : SS) (h : RI n k (c, s)) (hk : k ≤ n + 1) :
    ∃ o, ∀ K : Res → Orc → Prop, (∀ σ tm1 H1, StIs 0 σ [] tm1 H1 (raT n x (iI k + 1)) (plO n (c.putC s (iI k) x, c.putS s (iI k) x)) → K (Res.st XO.nrm tm1 H1) Orc.z) → runK Tryd.prog 1000000 (.code (loopAt Tryd.prog 4 1) 114 (mkT (raT n x (iI k))) (mkH (plO n (c, s)))) o K := by
  have hI := h.inv
  have cn : c.n = n := h.cn
  subst cn
  have hc : c.n ≤ 256 := hI.hc
  have hi : iI k ≤ Int.ofNat c.n := by rw [iI_eq]; simp; omega
  have hl : decide (iI k ≤ Int.ofNat c.n) = true := dt hi
  have lo : (-1 : Int) ≤ iI k := by rw [iI_eq]; simp; omega
  have r3 : (-9223372036854775808 : Int) ≤ iI k + (1 : Int) ∧ iI k + (1 : Int) ≤ (9223372036854775807 : Int) := by
    have : Int.ofNat c.n ≤ 256 := by simp; omega
    omega
  have okm : OkM s k := hI.ok
  have g01 := get_con c s (iI k) hc
  have g02 := rget_con c s (iI k)
  have cN : (c.putC s (iI k) x).n = c.n := (h.r.put s (iI k) x).2
  have p1 := hI.put_con (by omega) (iI k) x hx
  have g1 := get_con (c.putC s (iI k) x) (c.putS s (iI k) x) (iI k) (by rw [cN]; exact hc)
  have g2 := rget_con (c.putC s (iI k) x) (c.putS s (iI k) x) (iI k)
  unfold rob at g02 g2
  rw [cN] at g2
  generalize hj : iI k = j at *
  by_cases hp : c.no j x = 0 ∧ s.off = false
  · have p2 := rputA_con hI (by omega) h.r j x hx hp.1 hp.2
    unfold rob at p2
    generalize hS : c.putS s j x = S at *
    generalize hC : c.putC s j x = C at *
    refine ⟨_, fun K hK => (raA_vc s c S C (C.getQ j) (c.getQ j) (c.getD j) x (C.getD j) (c.putE s j x) j hl (cell0 _ _) (cell0 _ _) (cell1 _ _) (cell1 _ _) K).mpr ?_⟩
    repeat' (first | exact trivial | assumption | exact cell1 _ _ | exact cell0 _ _ | exact same1 _ | exact same0 _ | apply And.intro)
    refine hK [0, 1, 2, 8, 4, 5, 6, 7] _ _ ?_
    show StIs 0 _ _ _ _ _ [some S.o, some (rsK S), some (rsR S), some (rsP S), some C.oa, some (rcK c.n C.dead), some (rcV c.n C.q C.d), some (rcB c.n C.sec)]
    exact st_k [0, 1, 2, 8, 4, 5, 6, 7] (by kernel_rfl)
  · obtain ⟨p2, e1, e2, e3, e4⟩ := rputB_con hI h.r j x hx hp
    unfold rob at p2
    have p2 : Con Tryd.prog 17 [.p 3 0, .i .i64 j, .s x] [some (rsA 2 s), some (rsR s), some (rsP s), some (rcO 0 4 5 c.n c.dead), some (rcV c.n c.q c.d), some (rcB c.n c.sec)] (.i .i64 (c.putE s j x))
        [.set (rsA 2 (c.putS s j x)), .set (rsR (c.putS s j x)), .set (rsP (c.putS s j x)), .set (rcO 0 4 5 c.n (c.putC s j x).dead), .set (rcV c.n (c.putC s j x).q (c.putC s j x).d), .set (rcB c.n (c.putC s j x).sec)] := by
      have eS : (c.putC s j x).sec = c.sec := by funext i; unfold CS.sec; rw [e2, e4]
      rw [e1, e2, e3, eS]
      exact p2.oeq (OEqL.refl _) (OEqL.refl _)
    generalize hS : c.putS s j x = S at *
    generalize hC : c.putC s j x = C at *
    refine ⟨_, fun K hK => (raB_vc s c S C (C.getQ j) (c.getQ j) (c.getD j) x (C.getD j) (c.putE s j x) j hl (cell0 _ _) (cell0 _ _) (cell1 _ _) (cell1 _ _) K).mpr ?_⟩
    repeat' (first | exact trivial | assumption | exact cell1 _ _ | exact cell0 _ _ | exact same1 _ | exact same0 _ | apply And.intro)
    refine hK [0, 1, 2, 3, 4, 5, 6, 7] _ _ ?_
    show StIs 0 _ _ _ _ _ [some S.o, some (rsK S), some (rsR S), some (rsP S), some C.oa, some (rcK c.n C.dead), some (rcV c.n C.q C.d), some (rcB c.n C.sec)]
    exact st_k [0, 1, 2, 3, 4, 5, 6, 7] (by kernel_rfl)
theorem raw_lp (n : Nat) (S : SS) (x : List Nat) (h1 : n ≤ 256) (h2 : 2 * n ≤ S.n) (ok : OkM S 0) (hb : Byt S) (hx : ∀ b ∈ x, b < 256) :
    LDoes Tryd.prog (loopAt Tryd.prog 4 1) 114 0 (mkT (raT n x (iI 0))) (plO n (raS n S x 0)) (.exit 2) (mkT [(10, .p 0 0), (12, .p 1 0)]) [some (raS n S x (n + 2)).2.o, some (rsK (raS n S x (n + 2)).2), some (rsR (raS n S x (n + 2)).2), some (rsP (raS n S x (n + 2)).2)] := by
  refine loop_indV (D := Nat) (l' := [(10, .p 0 0), (12, .p 1 0)]) (fun k => (raT n x (iI k), plO n (raS n S x k))) (fun k => n + 2 - k) (fun k => k ≤ n + 2) ?_ 0 (Nat.zero_le _)
  intro k hk
  refine ⟨Nat.zero_le _, 1000000, ?_⟩
  have hR := RI.at_ h1 h2 ok hb x hx k
  by_cases hlt : k ≤ n + 1
  · obtain ⟨o, ho⟩ := ra_round n k x hx (raS n S x k).1 (raS n S x k).2 hR hlt
    refine ⟨o, ho _ fun σ tm1 H1 st => .inl ⟨k + 1, σ, [], tm1, H1, _, _, by omega, by show n + 2 - (k + 1) < n + 2 - k; omega, rfl, st, by show TVL (raT n x (iI k + 1)) (raT n x (iI (k + 1))); rw [iI_s]; exact .refl _, .refl _⟩⟩
  · have e : k = n + 2 := by omega
    subst e
    have cn : (raS n S x (n + 2)).1.n = n := hR.cn
    generalize raS n S x (n + 2) = p at *
    obtain ⟨c, s⟩ := p
    have cn : c.n = n := cn
    subst cn
    have d : decide (iI (c.n + 2) ≤ Int.ofNat c.n) = false := df (by rw [iI_eq]; simp; omega)
    exact ⟨_, (raE_vc s c x (iI (c.n + 2)) d _).mpr ⟨d, .inr ⟨[0, 1, 2, 3], [], _, _, [(10, .p 0 0), (12, .p 1 0)], [some s.o, some (rsK s), some (rsR s), some (rsP s)], rfl, by simp, st_k [0, 1, 2, 3] (by kernel_rfl), .refl _, .refl _⟩⟩⟩
theorem raw_con (m : Nat) (ll : Nat → Nat) (bb : Nat → Nat → Nat) (n : Int) (x : List Nat) (hn : (3 * m + 1536) * 24 ≤ 562949953421312) (hl : ∀ i, i < m → 2 * ll i + 768 ≤ 281474976710656) (hb : ∀ i k, bb i k < 256) (hx : ∀ b ∈ x, b < 256) :
    Con Tryd.prog 4 [.sv 1 m (imF ll bb), .i .i64 n, .s x] [] (.b true) [] := by
  have mlp := mine_lp n x m ll bb hn hl
  have aw := awake_con
  have bad : (m < 1 ∨ 512 < m ∨ ∃ q, q < m ∧ (∀ i, i < q → ll i = 64 ∨ ll i = 0) ∧ ll q ≠ 64 ∧ ll q ≠ 0) → Con Tryd.prog 4 [.sv 1 m (imF ll bb), .i .i64 n, .s x] [] (.b true) [] := fun b =>
    con_plain rfl ((rawX_vc m ll bb x n _).mpr ⟨aw, trivial, mlp, fromBad_con m ll bb b, rfromBad_con m ll bb b, trivial, trivial, _, _, rfl, rfl⟩)
  by_cases h1 : m < 1
  · exact bad (.inl h1)
  by_cases h2 : 512 < m
  · exact bad (.inr (.inl h2))
  rcases good_or ll m with ok | b
  · have f1 : Con Tryd.prog 24 [.sv 1 m (imF ll bb)] [] (.tup [.p 0 0, .i .i64 0]) [.set (fr m ll bb).o] := from_con m ll bb (by omega) (by omega) ok
    have f2 := rfrom2_con m ll bb (by omega) (by omega) ok
    have okS := fr_ok m ll bb (by omega)
    have bS := fr_byt m ll bb hb
    have Sn : (fr m ll bb).n = m := rfl
    have So : (fr m ll bb).off = false := rfl
    have SP : (fr m ll bb).P.length ≤ 1073741824 := by show 0 ≤ _; omega
    generalize fr m ll bb = S at *
    by_cases hE : openE S n = 0
    · have hin : 1 ≤ n ∧ n ≤ 256 ∧ 2 * n ≤ Int.ofNat S.n := by
        unfold openE at hE
        cases d1 : decide (n < 1) with
        | true => rw [d1] at hE; cases hE
        | false =>
          rw [d1] at hE
          cases d2 : decide ((256 : Int) < n) with
          | true => simp only [d2] at hE; cases hE
          | false =>
            simp only [d2] at hE
            cases d3 : decide (Int.ofNat S.n < n * 2) with
            | true => simp only [d3] at hE; cases hE
            | false =>
              have := of_decide_eq_false d1
              have := of_decide_eq_false d2
              have := of_decide_eq_false d3
              omega
      obtain ⟨q, rfl⟩ : ∃ q : Nat, n = Int.ofNat q := ⟨n.toNat, by simp; omega⟩
      have q1 : 1 ≤ q := by have := hin.1; simp at this; omega
      have q2 : q ≤ 256 := by have := hin.2.1; simp at this; omega
      have q3 : 2 * q ≤ S.n := by have := hin.2.2; simp at this; omega
      have o1 := open_con S q q1 q2 q3 (by omega) So bS
      have o2 := ropen_con S q q1 q2 q3 So SP bS
      have lp := raw_lp q S x q2 q3 okS bS hx
      have hR := RI.at_ q2 q3 okS bS x hx (q + 2)
      have nn : (raS q S x (q + 2)).2.n ≤ 512 := hR.inv.ok.n
      have i1 := image_con (raS q S x (q + 2)).2 nn
      have s1 := same2_con (raS q S x (q + 2)).2 nn hR.inv.byt
      refine con_plain rfl ((rawG_vc S (opened S q) m q ll bb x (raS q S x (q + 2)).2 _).mpr ?_)
      repeat' (first | exact trivial | assumption | apply And.intro)
      exact ⟨_, _, rfl, rfl⟩
    · have o1 := openBad_con S n hE
      have o2 := ropenBad_con S n hE
      refine con_plain rfl ((rawF_vc S m ll bb x (openE S n) n _).mpr ?_)
      repeat' (first | exact trivial | assumption | exact same1 _ | exact same0 _ | apply And.intro)
      exact ⟨_, _, rfl, rfl⟩
  · exact bad (.inr (.inr b))
end Go.Proofs.Cl
