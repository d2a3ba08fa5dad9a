/- Runs over unknown values, told by the kernel: part StI. -/
import Derived.Test.YtcdmnjjgnodpdaaStH
set_option linter.unusedSimpArgs false
set_option linter.unusedVariables false
set_option maxRecDepth 20000
namespace Go.Proofs.St
open Go Go.Sim Go.Proofs

theorem nowL_vc (s : SS) (L ix : Nat) (lw : Nat → Nat) (wb : Nat → Nat → Int) (ll : Nat → Nat) (nb : Nat → Nat → Int) (K2 I2 F2 N2 : Nat → Int) (T2 : Nat → Bool) (kk br : Int) (tt
  : Bool) (K : Res → Orc → Prop) : runK Try.prog 1000000 (.code (loopAt Try.prog 6 2) 230 (mkT [(1, .sv 5 L (opF K2 I2 F2 N2 T2)), (7, .i .i64 kk), (8, .b tt), (9, .p 0 0), (13, .sv
  1 4 (lsF lw wb)), (16, .sv 1 4 (lsF ll nb)), (17, .i .i64 br), (115, .i .i64 4), (116, .i .i64 (Int.ofNat ix))]) (mkH [some s.o])) (Orc.s (Orc.lop [0, 1] [1, 7, 8, 9, 13, 16, 17,
  18, 19, 20, 115, 116, 135, 136, 137] 1 (XO.exit 6) (bsE L ix ix lw wb ll nb K2 I2 F2 N2 T2 kk br tt (natsEq (bytesF (ll ix) fun i x => CV.i IntKind.u8 (nb ix i)) (bytesF (lw ix)
  fun i x => CV.i IntKind.u8 (wb ix i))) (AV.lr 1 1 0 (bcN I2 ix L) false)) [some (SS.o s), some (AObj.rows 35 1 (bcN I2 ix L) (lsF (lnF (lw ix)) (bbF (wb ix) I2 F2 ix L)))]
  (Orc.lop [0, 2] [1, 7, 8, 9, 13, 16, 17, 18, 19, 115, 116, 152, 153, 154] 1 (XO.exit 8) (gdE L ix ix lw wb ll nb K2 I2 F2 N2 T2 kk br tt (goodF (bytesF (ll ix) fun j x => CV.i
  IntKind.u8 (nb ix j)) (lnF (lw ix)) (bbF (wb ix) I2 F2 ix L) (natsEq (bytesF (ll ix) fun i x => CV.i IntKind.u8 (nb ix i)) (bytesF (lw ix) fun i x => CV.i IntKind.u8 (wb ix i)))
  (bcN I2 ix L))) [some (SS.o s), none] (Orc.cal [0] (AV.tup [AV.lr 1 1 0 (SS.rdN s (Int.ofNat ix)) true, AV.i IntKind.i64 (SS.rdE s (Int.ofNat ix))]) [Upd.keep, Upd.set (AObj.rows
  64 1 (SS.rdN s (Int.ofNat ix)) fun k x => CV.i IntKind.u8 (SS.rdB s (Int.ofNat ix) k))] (Orc.s (Orc.s (Orc.t (Orc.f (Orc.s Orc.z Orc.z))) (Orc.f (Orc.t (Orc.c Orc.z)))) (Orc.s
  (Orc.t (Orc.f (Orc.s (Orc.t (Orc.t (Orc.t (Orc.t (Orc.t (Orc.t (Orc.t (Orc.f (Orc.s (Orc.t (Orc.t (Orc.s (Orc.t (Orc.t (Orc.t (Orc.t (Orc.t (Orc.t (Orc.t (Orc.t (Orc.t (Orc.t
  (Orc.t (Orc.t (Orc.cal [] (AV.sv 1 (LSt.n (lstS I2 F2 (Int.ofNat ix) { kp := kk, n := lw ix, b := wb ix } L)) fun j x => CV.i IntKind.u8 (LSt.b (lstS I2 F2 (Int.ofNat ix) { kp := kk, n := lw ix, b := wb ix }
  L) j)) [] (Orc.t (Orc.t (Orc.t (Orc.t (Orc.f (Orc.s Orc.z Orc.z))))))))))))))))))) (Orc.f (Orc.f (Orc.f (Orc.f (Orc.f (Orc.f (Orc.f (Orc.f (Orc.f (Orc.f (Orc.f (Orc.f (Orc.f
  (Orc.f (Orc.t (Orc.f (Orc.f (Orc.c Orc.z))))))))))))))))))))) (Orc.f (Orc.f (Orc.f (Orc.t (Orc.c Orc.z)))))))))))))) (Orc.f (Orc.f (Orc.f (Orc.f (Orc.f (Orc.f (Orc.f (Orc.t (Orc.c
  (Orc.c (Orc.c (Orc.c (Orc.c (Orc.c Orc.z))))))))))))))))) (Orc.f (Orc.t (Orc.c (Orc.c (Orc.c (Orc.c (Orc.c (Orc.c (Orc.c (Orc.c (Orc.c (Orc.c (Orc.c (Orc.c (Orc.c (Orc.c (Orc.c
  Orc.z)))))))))))))))))))))) Orc.z) K = ((decide (Int.ofNat ix < (4 : Int)) = true → ((0 : Int) ≤ Int.ofNat ix ∧ Int.ofNat ix < (4 : Int)) ∧ True ∧ (U8s (ll ix) fun i x => CV.i
  IntKind.u8 (nb ix i)) ∧ ((0 : Int) ≤ Int.ofNat ix ∧ Int.ofNat ix < (4 : Int)) ∧ True ∧ (U8s (lw ix) fun i x => CV.i IntKind.u8 (wb ix i)) ∧ ((0 : Int) ≤ Int.ofNat ix ∧ Int.ofNat
  ix < (4 : Int)) ∧ True ∧ LDoes Try.prog (loopAt Try.prog 6 3) 230 1 (mkT (bsT L ix ix lw wb ll nb K2 I2 F2 N2 T2 kk br tt (natsEq (bytesF (ll ix) fun i x => CV.i IntKind.u8 (nb ix
  i)) (bytesF (lw ix) fun i x => CV.i IntKind.u8 (wb ix i))) (AV.l 1 0 1 1 1 true) 0)) [some (SS.o s), some (cellsO 35 [AV.sv 1 (lw ix) fun i x => CV.i IntKind.u8 (wb ix i)])]
  (XO.exit 6) (mkT (bsE L ix ix lw wb ll nb K2 I2 F2 N2 T2 kk br tt (natsEq (bytesF (ll ix) fun i x => CV.i IntKind.u8 (nb ix i)) (bytesF (lw ix) fun i x => CV.i IntKind.u8 (wb ix
  i))) (AV.lr 1 1 0 (bcN I2 ix L) false))) [some (SS.o s), some (AObj.rows 35 1 (bcN I2 ix L) (lsF (lnF (lw ix)) (bbF (wb ix) I2 F2 ix L)))] ∧ LDoes Try.prog (loopAt Try.prog 6 4)
  230 1 (mkT (gdT L ix ix (bcN I2 ix L) lw wb ll nb K2 I2 F2 N2 T2 kk br tt (natsEq (bytesF (ll ix) fun i x => CV.i IntKind.u8 (nb ix i)) (bytesF (lw ix) fun i x => CV.i IntKind.u8
  (wb ix i))) 0)) [some (SS.o s), some (AObj.rows 35 1 (bcN I2 ix L) (lsF (lnF (lw ix)) (bbF (wb ix) I2 F2 ix L)))] (XO.exit 8) (mkT (gdE L ix ix lw wb ll nb K2 I2 F2 N2 T2 kk br tt
  (goodF (bytesF (ll ix) fun j x => CV.i IntKind.u8 (nb ix j)) (lnF (lw ix)) (bbF (wb ix) I2 F2 ix L) (natsEq (bytesF (ll ix) fun i x => CV.i IntKind.u8 (nb ix i)) (bytesF (lw ix)
  fun i x => CV.i IntKind.u8 (wb ix i))) (bcN I2 ix L)))) [some (SS.o s), none] ∧ Con Try.prog 14 [AV.p 0 0, AV.i IntKind.i64 (Int.ofNat ix)] [some (SS.o s)] (AV.tup [AV.lr 1 1 0
  (SS.rdN s (Int.ofNat ix)) true, AV.i IntKind.i64 (SS.rdE s (Int.ofNat ix))]) [Upd.keep, Upd.set (AObj.rows 64 1 (SS.rdN s (Int.ofNat ix)) fun k x => CV.i IntKind.u8 (SS.rdB s
  (Int.ofNat ix) k))] ∧ ((0 : Int) ≤ Int.ofNat ix ∧ Int.ofNat ix < (4 : Int)) ∧ True ∧ (decide (Int.ofNat (ll ix) = (0 : Int)) = true → ((-9223372036854775808 : Int) ≤ br + (1 :
  Int) ∧ br + (1 : Int) ≤ (9223372036854775807 : Int)) ∧ ((!!decide (SS.rdE s (Int.ofNat ix) = (14 : Int))) = true → (!!decide (SS.rdE s (Int.ofNat ix) = (14 : Int))) = true ∧ True
  ∧ (!decide (SS.rdE s (Int.ofNat ix) = (14 : Int))) = false ∧ ((!tt) = true → K (Res.st XO.ret (T.n none (T.n (some (AV.sv 5 L (opF K2 I2 F2 N2 T2))) (T.n none (T.n (some (AV.i
  IntKind.i64 kk)) (T.n none T.e (T.n none T.e (T.n none (T.n (some (AV.i IntKind.i64 (SS.rdE s (Int.ofNat ix)))) T.e T.e) T.e))) (T.n none T.e (T.n none T.e (T.n none (T.n (some
  (AV.i IntKind.i64 (br + (1 : Int)))) T.e T.e) T.e)))) (T.n none (T.n (some (AV.b (goodF (bytesF (ll ix) fun j x => CV.i IntKind.u8 (nb ix j)) (lnF (lw ix)) (bbF (wb ix) I2 F2 ix
  L) (natsEq (bytesF (ll ix) fun i x => CV.i IntKind.u8 (nb ix i)) (bytesF (lw ix) fun i x => CV.i IntKind.u8 (wb ix i))) (bcN I2 ix L)))) T.e (T.n none T.e (T.n (some (AV.i
  IntKind.i64 (4 : Int))) (T.n (some (AV.sv 1 (ll ix) fun i x => CV.i IntKind.u8 (nb ix i))) T.e T.e) T.e))) (T.n none (T.n none T.e (T.n none (T.n (some (AV.p 0 0)) T.e T.e) T.e))
  (T.n none T.e (T.n none (T.n (some (AV.b tt)) T.e T.e) T.e))))) (T.n none (T.n (some (AV.p 0 0)) (T.n (some (AV.i IntKind.i64 (br + (1 : Int)))) T.e (T.n none T.e (T.n none (T.n
  (some (AV.i IntKind.i64 (Int.ofNat ix))) T.e T.e) T.e))) (T.n (some (AV.lr 4 1 0 (SS.rdN s (Int.ofNat ix)) true)) T.e (T.n none T.e (T.n none (T.n (some (AV.b !decide (SS.rdE s
  (Int.ofNat ix) = (14 : Int)))) T.e T.e) T.e)))) (T.n (some (AV.sv 1 4 (lsF lw wb))) (T.n none T.e (T.n none T.e (T.n none (T.n (some (AV.b (decide (Int.ofNat (ll ix) = (0 :
  Int))))) T.e T.e) T.e))) (T.n none (T.n none T.e (T.n none (T.n (some (AV.tup [AV.lr 4 1 0 (SS.rdN s (Int.ofNat ix)) true, AV.i IntKind.i64 (SS.rdE s (Int.ofNat ix))])) T.e T.e)
  T.e)) (T.n none T.e (T.n none (T.n (some (AV.b !tt)) T.e T.e) T.e)))))) (T.n none (T.n none (T.n (some (AV.b tt)) (T.n (some (AV.sv 1 4 (lsF ll nb))) T.e (T.n none T.e (T.n none
  (T.n (some (AV.sv 1 4 (lsF ll nb))) T.e T.e) T.e))) (T.n none T.e (T.n none T.e (T.n none (T.n (some (AV.i IntKind.i64 (SS.rdE s (Int.ofNat ix)))) T.e T.e) T.e)))) (T.n none (T.n
  none T.e (T.n none T.e (T.n (some (AV.i IntKind.i64 (Int.ofNat ix))) (T.n (some (AV.i IntKind.i64 (Int.ofNat (ll ix)))) T.e T.e) T.e))) (T.n none (T.n none T.e (T.n none (T.n
  (some (AV.i IntKind.i64 (Int.ofNat ix))) T.e T.e) T.e)) (T.n none T.e (T.n none (T.n (some (AV.b !tt)) T.e T.e) T.e))))) (T.n (some (AV.b false)) (T.n none (T.n (some (AV.i
  IntKind.i64 (Int.ofNat ix))) T.e (T.n none T.e (T.n none (T.n (some (AV.pv 1 (lsF ll nb ix))) T.e T.e) T.e))) (T.n (some (AV.i IntKind.i64 (SS.rdE s (Int.ofNat ix)))) (T.n none
  T.e (T.n none (T.n (some (AV.tup [AV.lr 4 1 0 (SS.rdN s (Int.ofNat ix)) true, AV.i IntKind.i64 (SS.rdE s (Int.ofNat ix))])) T.e T.e) T.e)) (T.n none T.e (T.n none (T.n (some (AV.b
  !decide (SS.rdE s (Int.ofNat ix) = (14 : Int)))) T.e T.e) T.e)))) (T.n none (T.n none T.e (T.n none T.e (T.n none (T.n (some (AV.i IntKind.i64 br)) T.e T.e) T.e))) (T.n none (T.n
  none T.e (T.n none (T.n (some (AV.lr 4 1 0 (SS.rdN s (Int.ofNat ix)) true)) T.e T.e) T.e)) T.e))))) { tree := T.n (some (AObj.segs 73 33799 [{ st := 0, sz := 1, n := 1, f := oneF (CV.i IntKind.i64 (Int.ofNat (SS.n s))) }, { st := 1, sz := 65, n := 512, f := durF (SS.dur s) (SS.torn s) }, { st := 33281, sz := 1, n := 1, f := oneF (CV.opv (pB (SS.P s)) 66 (pW (SS.P s))) }, { st := 33282, sz := 1, n := 512, f := latF (lB (SS.P s)) (lW (SS.P s)) }, { st := 33794, sz := 5, n := 1, f := tailF (Int.ofNat (List.length (SS.P s))) (Int.ofNat (SS.wr s)) (SS.off s) (SS.armed s) (Int.ofNat (SS.left s)) }])) (T.n none (T.n none T.e T.e) T.e) (T.n none (T.n (some (AObj.rows 64 1 (SS.rdN s (Int.ofNat ix)) fun k x => CV.i IntKind.u8 (SS.rdB s (Int.ofNat ix) k))) T.e T.e) T.e), next := 5, log := [4, 3, 2, 0, 2, 1, 0, 1] })
  Orc.z) ∧ ((!tt) = false → ((-9223372036854775808 : Int) ≤ Int.ofNat ix + (1 : Int) ∧ Int.ofNat ix + (1 : Int) ≤ (9223372036854775807 : Int)) ∧ K (Res.st XO.nrm (T.n none (T.n
  (some (AV.sv 5 L (opF K2 I2 F2 N2 T2))) (T.n none (T.n (some (AV.i IntKind.i64 kk)) (T.n none T.e (T.n none T.e (T.n none (T.n (some (AV.i IntKind.i64 (SS.rdE s (Int.ofNat ix))))
  T.e T.e) T.e))) (T.n none T.e (T.n none T.e (T.n none (T.n (some (AV.i IntKind.i64 (br + (1 : Int)))) T.e T.e) T.e)))) (T.n none (T.n (some (AV.b (goodF (bytesF (ll ix) fun j x =>
  CV.i IntKind.u8 (nb ix j)) (lnF (lw ix)) (bbF (wb ix) I2 F2 ix L) (natsEq (bytesF (ll ix) fun i x => CV.i IntKind.u8 (nb ix i)) (bytesF (lw ix) fun i x => CV.i IntKind.u8 (wb ix
  i))) (bcN I2 ix L)))) (T.n none T.e (T.n none T.e (T.n (some (AV.i IntKind.i64 (Int.ofNat ix + (1 : Int)))) T.e T.e))) (T.n none T.e (T.n (some (AV.i IntKind.i64 (4 : Int))) (T.n
  (some (AV.sv 1 (ll ix) fun i x => CV.i IntKind.u8 (nb ix i))) T.e T.e) T.e))) (T.n none (T.n none T.e (T.n none (T.n (some (AV.p 0 0)) T.e T.e) T.e)) (T.n none T.e (T.n none (T.n
  (some (AV.b tt)) T.e T.e) T.e))))) (T.n none (T.n (some (AV.p 0 0)) (T.n (some (AV.i IntKind.i64 (br + (1 : Int)))) T.e (T.n none T.e (T.n none (T.n (some (AV.i IntKind.i64
  (Int.ofNat ix))) T.e T.e) T.e))) (T.n (some (AV.lr 4 1 0 (SS.rdN s (Int.ofNat ix)) true)) T.e (T.n none T.e (T.n none (T.n (some (AV.b !decide (SS.rdE s (Int.ofNat ix) = (14 :
  Int)))) T.e T.e) T.e)))) (T.n (some (AV.sv 1 4 (lsF lw wb))) (T.n none T.e (T.n none T.e (T.n none (T.n (some (AV.b (decide (Int.ofNat (ll ix) = (0 : Int))))) T.e T.e) T.e))) (T.n
  none (T.n none T.e (T.n none (T.n (some (AV.tup [AV.lr 4 1 0 (SS.rdN s (Int.ofNat ix)) true, AV.i IntKind.i64 (SS.rdE s (Int.ofNat ix))])) T.e T.e) T.e)) (T.n none T.e (T.n none
  (T.n (some (AV.b !tt)) T.e T.e) T.e)))))) (T.n none (T.n none (T.n (some (AV.b tt)) (T.n (some (AV.sv 1 4 (lsF ll nb))) T.e (T.n none T.e (T.n none (T.n (some (AV.sv 1 4 (lsF ll
  nb))) T.e T.e) T.e))) (T.n none T.e (T.n none T.e (T.n none (T.n (some (AV.i IntKind.i64 (SS.rdE s (Int.ofNat ix)))) T.e T.e) T.e)))) (T.n none (T.n none T.e (T.n none T.e (T.n
  (some (AV.i IntKind.i64 (Int.ofNat ix + (1 : Int)))) (T.n (some (AV.i IntKind.i64 (Int.ofNat (ll ix)))) T.e T.e) T.e))) (T.n none (T.n none T.e (T.n none (T.n (some (AV.i
  IntKind.i64 (Int.ofNat ix))) T.e T.e) T.e)) (T.n none T.e (T.n none (T.n (some (AV.b !tt)) T.e T.e) T.e))))) (T.n none (T.n none (T.n (some (AV.i IntKind.i64 (Int.ofNat ix))) T.e
  (T.n none T.e (T.n none (T.n (some (AV.pv 1 (lsF ll nb ix))) T.e T.e) T.e))) (T.n (some (AV.i IntKind.i64 (SS.rdE s (Int.ofNat ix)))) (T.n none T.e (T.n none (T.n (some (AV.tup
  [AV.lr 4 1 0 (SS.rdN s (Int.ofNat ix)) true, AV.i IntKind.i64 (SS.rdE s (Int.ofNat ix))])) T.e T.e) T.e)) (T.n none T.e (T.n none (T.n (some (AV.b !decide (SS.rdE s (Int.ofNat ix)
  = (14 : Int)))) T.e T.e) T.e)))) (T.n none (T.n none T.e (T.n none T.e (T.n none (T.n (some (AV.i IntKind.i64 br)) T.e T.e) T.e))) (T.n none (T.n none T.e (T.n none (T.n (some
  (AV.lr 4 1 0 (SS.rdN s (Int.ofNat ix)) true)) T.e T.e) T.e)) T.e))))) { tree := T.n (some (AObj.segs 73 33799 [{ st := 0, sz := 1, n := 1, f := oneF (CV.i IntKind.i64 (Int.ofNat (SS.n s))) }, { st := 1, sz := 65, n := 512, f := durF (SS.dur s) (SS.torn s) }, { st := 33281, sz := 1, n := 1, f := oneF (CV.opv (pB (SS.P s)) 66 (pW (SS.P s))) }, { st := 33282, sz := 1, n := 512, f := latF (lB (SS.P s)) (lW (SS.P s)) }, { st := 33794, sz := 5, n := 1, f := tailF (Int.ofNat (List.length (SS.P s))) (Int.ofNat (SS.wr s)) (SS.off s) (SS.armed s) (Int.ofNat (SS.left s)) }])) (T.n none (T.n none T.e T.e) T.e) (T.n none (T.n (some (AObj.rows 64 1 (SS.rdN s (Int.ofNat ix)) fun k x => CV.i IntKind.u8 (SS.rdB s (Int.ofNat ix) k))) T.e T.e) T.e), next := 5, log := [4, 3, 2, 0, 2, 1, 0, 1] })
  Orc.z)) ∧ ((!!decide (SS.rdE s (Int.ofNat ix) = (14 : Int))) = false → (!!decide (SS.rdE s (Int.ofNat ix) = (14 : Int))) = false ∧ (!decide (SS.rdE s (Int.ofNat ix) = (14 : Int)))
  = true ∧ K (Res.st XO.ret (T.n none (T.n (some (AV.sv 5 L (opF K2 I2 F2 N2 T2))) (T.n none (T.n (some (AV.i IntKind.i64 kk)) (T.n none T.e (T.n none T.e (T.n none (T.n (some (AV.i
  IntKind.i64 (SS.rdE s (Int.ofNat ix)))) T.e T.e) T.e))) (T.n none T.e (T.n none T.e (T.n none (T.n (some (AV.i IntKind.i64 (br + (1 : Int)))) T.e T.e) T.e)))) (T.n none (T.n (some
  (AV.b (goodF (bytesF (ll ix) fun j x => CV.i IntKind.u8 (nb ix j)) (lnF (lw ix)) (bbF (wb ix) I2 F2 ix L) (natsEq (bytesF (ll ix) fun i x => CV.i IntKind.u8 (nb ix i)) (bytesF (lw
  ix) fun i x => CV.i IntKind.u8 (wb ix i))) (bcN I2 ix L)))) T.e (T.n none T.e (T.n (some (AV.i IntKind.i64 (4 : Int))) (T.n (some (AV.sv 1 (ll ix) fun i x => CV.i IntKind.u8 (nb
  ix i))) T.e T.e) T.e))) (T.n none (T.n none T.e (T.n none (T.n (some (AV.p 0 0)) T.e T.e) T.e)) (T.n none T.e (T.n none (T.n (some (AV.tup [])) T.e T.e) T.e))))) (T.n none (T.n
  (some (AV.p 0 0)) (T.n (some (AV.i IntKind.i64 (br + (1 : Int)))) T.e (T.n none T.e (T.n none (T.n (some (AV.i IntKind.i64 (Int.ofNat ix))) T.e T.e) T.e))) (T.n (some (AV.lr 4 1 0
  (SS.rdN s (Int.ofNat ix)) true)) T.e (T.n none T.e (T.n none (T.n (some (AV.b !decide (SS.rdE s (Int.ofNat ix) = (14 : Int)))) T.e T.e) T.e)))) (T.n (some (AV.sv 1 4 (lsF lw wb)))
  (T.n none T.e (T.n none T.e (T.n none (T.n (some (AV.b (decide (Int.ofNat (ll ix) = (0 : Int))))) T.e T.e) T.e))) (T.n none (T.n none T.e (T.n none (T.n (some (AV.tup [AV.lr 4 1 0
  (SS.rdN s (Int.ofNat ix)) true, AV.i IntKind.i64 (SS.rdE s (Int.ofNat ix))])) T.e T.e) T.e)) (T.n none T.e (T.n none (T.n (some (AV.b true)) T.e T.e) T.e)))))) (T.n none (T.n none
  (T.n (some (AV.b tt)) (T.n (some (AV.sv 1 4 (lsF ll nb))) T.e (T.n none T.e (T.n none (T.n (some (AV.sv 1 4 (lsF ll nb))) T.e T.e) T.e))) (T.n none T.e (T.n none T.e (T.n none
  (T.n (some (AV.i IntKind.i64 (SS.rdE s (Int.ofNat ix)))) T.e T.e) T.e)))) (T.n none (T.n none T.e (T.n none T.e (T.n (some (AV.i IntKind.i64 (Int.ofNat ix))) (T.n (some (AV.i
  IntKind.i64 (Int.ofNat (ll ix)))) T.e T.e) T.e))) (T.n none (T.n none T.e (T.n none (T.n (some (AV.i IntKind.i64 (Int.ofNat ix))) T.e T.e) T.e)) (T.n none T.e (T.n none (T.n (some
  (AV.tup [])) T.e T.e) T.e))))) (T.n (some (AV.b false)) (T.n none (T.n (some (AV.i IntKind.i64 (Int.ofNat ix))) T.e (T.n none T.e (T.n none (T.n (some (AV.pv 1 (lsF ll nb ix)))
  T.e T.e) T.e))) (T.n (some (AV.i IntKind.i64 (SS.rdE s (Int.ofNat ix)))) (T.n none T.e (T.n none (T.n (some (AV.tup [AV.lr 4 1 0 (SS.rdN s (Int.ofNat ix)) true, AV.i IntKind.i64
  (SS.rdE s (Int.ofNat ix))])) T.e T.e) T.e)) (T.n none T.e (T.n none (T.n (some (AV.b !decide (SS.rdE s (Int.ofNat ix) = (14 : Int)))) T.e T.e) T.e)))) (T.n none (T.n none T.e (T.n
  none T.e (T.n none (T.n (some (AV.i IntKind.i64 br)) T.e T.e) T.e))) (T.n none (T.n none T.e (T.n none (T.n (some (AV.lr 4 1 0 (SS.rdN s (Int.ofNat ix)) true)) T.e T.e) T.e))
  T.e))))) { tree := T.n (some (AObj.segs 73 33799 [{ st := 0, sz := 1, n := 1, f := oneF (CV.i IntKind.i64 (Int.ofNat (SS.n s))) }, { st := 1, sz := 65, n := 512, f := durF (SS.dur s) (SS.torn s) }, { st := 33281, sz := 1, n := 1, f := oneF (CV.opv (pB (SS.P s)) 66 (pW (SS.P s))) }, { st := 33282, sz := 1, n := 512, f := latF (lB (SS.P s)) (lW (SS.P s)) }, { st := 33794, sz := 5, n := 1, f := tailF (Int.ofNat (List.length (SS.P s))) (Int.ofNat (SS.wr s)) (SS.off s) (SS.armed s) (Int.ofNat (SS.left s)) }])) (T.n none (T.n none T.e T.e) T.e) (T.n none (T.n (some (AObj.rows 64 1 (SS.rdN s (Int.ofNat ix)) fun k x => CV.i IntKind.u8 (SS.rdB s (Int.ofNat ix) k))) T.e T.e) T.e), next := 5, log := [4, 3, 2, 0, 2, 1, 0, 1] })
  Orc.z)) ∧ (decide (Int.ofNat (ll ix) = (0 : Int)) = false → True ∧ ((!!goodF (bytesF (ll ix) fun j x => CV.i IntKind.u8 (nb ix j)) (lnF (lw ix)) (bbF (wb ix) I2 F2 ix L) (natsEq
  (bytesF (ll ix) fun i x => CV.i IntKind.u8 (nb ix i)) (bytesF (lw ix) fun i x => CV.i IntKind.u8 (wb ix i))) (bcN I2 ix L)) = true → (!!goodF (bytesF (ll ix) fun j x => CV.i
  IntKind.u8 (nb ix j)) (lnF (lw ix)) (bbF (wb ix) I2 F2 ix L) (natsEq (bytesF (ll ix) fun i x => CV.i IntKind.u8 (nb ix i)) (bytesF (lw ix) fun i x => CV.i IntKind.u8 (wb ix i)))
  (bcN I2 ix L)) = true ∧ (!goodF (bytesF (ll ix) fun j x => CV.i IntKind.u8 (nb ix j)) (lnF (lw ix)) (bbF (wb ix) I2 F2 ix L) (natsEq (bytesF (ll ix) fun i x => CV.i IntKind.u8 (nb
  ix i)) (bytesF (lw ix) fun i x => CV.i IntKind.u8 (wb ix i))) (bcN I2 ix L)) = false ∧ ((!!decide (SS.rdE s (Int.ofNat ix) = (0 : Int))) = true → (!!decide (SS.rdE s (Int.ofNat
  ix) = (0 : Int))) = true ∧ ((U8s (SS.rdN s (Int.ofNat ix)) fun k x => CV.i IntKind.u8 (SS.rdB s (Int.ofNat ix) k)) ∧ 0 + SS.rdN s (Int.ofNat ix) ≤ SS.rdN s (Int.ofNat ix)) ∧
  (!!decide (SS.rdE s (Int.ofNat ix) = (0 : Int))) = true ∧ (!!decide (SS.rdE s (Int.ofNat ix) = (0 : Int))) = true ∧ (!!decide (SS.rdE s (Int.ofNat ix) = (0 : Int))) = true ∧ ((0 :
  Int) ≤ Int.ofNat ix ∧ Int.ofNat ix < (4 : Int)) ∧ (!!decide (SS.rdE s (Int.ofNat ix) = (0 : Int))) = true ∧ True ∧ (!!decide (SS.rdE s (Int.ofNat ix) = (0 : Int))) = true ∧ (U8s
  (ll ix) fun i x => CV.i IntKind.u8 (nb ix i)) ∧ (!!decide (SS.rdE s (Int.ofNat ix) = (0 : Int))) = true ∧ (!decide (SS.rdE s (Int.ofNat ix) = (0 : Int))) = false ∧ ((!!natsEq
  (bytesF (SS.rdN s (Int.ofNat ix)) fun k x => CV.i IntKind.u8 (SS.rdB s (Int.ofNat ix) k)) (bytesF (ll ix) fun i x => CV.i IntKind.u8 (nb ix i))) = true → (!!natsEq (bytesF (SS.rdN
  s (Int.ofNat ix)) fun k x => CV.i IntKind.u8 (SS.rdB s (Int.ofNat ix) k)) (bytesF (ll ix) fun i x => CV.i IntKind.u8 (nb ix i))) = true ∧ True ∧ (!!natsEq (bytesF (SS.rdN s
  (Int.ofNat ix)) fun k x => CV.i IntKind.u8 (SS.rdB s (Int.ofNat ix) k)) (bytesF (ll ix) fun i x => CV.i IntKind.u8 (nb ix i))) = true ∧ ((!tt) = true → (!tt) = true ∧ (!tt) = true
  ∧ ((0 : Int) ≤ Int.ofNat ix ∧ Int.ofNat ix < (4 : Int)) ∧ (!tt) = true ∧ True ∧ (!tt) = true ∧ (U8s (ll ix) fun i x => CV.i IntKind.u8 (nb ix i)) ∧ (!tt) = true ∧ (!tt) = true ∧
  (!tt) = true ∧ ((0 : Int) ≤ Int.ofNat ix ∧ Int.ofNat ix < (4 : Int)) ∧ (!tt) = true ∧ True ∧ (!tt) = true ∧ (!tt) = true ∧ (!tt) = true ∧ (!tt) = true ∧ Con Try.prog 34 [AV.sv 1
  (lw ix) fun j x => CV.i IntKind.u8 (wb ix j), AV.sv 5 L (opF K2 I2 F2 N2 T2), AV.i IntKind.i64 (Int.ofNat ix), AV.i IntKind.i64 kk] [] (AV.sv 1 (LSt.n (lstS I2 F2 (Int.ofNat ix) { kp := kk, n := lw ix, b := wb ix }
  L)) fun j x => CV.i IntKind.u8 (LSt.b (lstS I2 F2 (Int.ofNat ix) { kp := kk, n := lw ix, b := wb ix } L) j)) [] ∧ (!tt) = true ∧ (U8s (LSt.n (lstS I2 F2 (Int.ofNat ix) { kp := kk, n := lw ix, b := wb ix }
  L)) fun j x => CV.i IntKind.u8 (LSt.b (lstS I2 F2 (Int.ofNat ix) { kp := kk, n := lw ix, b := wb ix } L) j)) ∧ (!tt) = true ∧ (!!natsEq (bytesF (SS.rdN s (Int.ofNat ix)) fun k x
  => CV.i IntKind.u8 (SS.rdB s (Int.ofNat ix) k)) (bytesF (ll ix) fun i x => CV.i IntKind.u8 (nb ix i))) = true ∧ (!tt) = true ∧ (!natsEq (bytesF (SS.rdN s (Int.ofNat ix)) fun k x
  => CV.i IntKind.u8 (SS.rdB s (Int.ofNat ix) k)) (bytesF (ll ix) fun i x => CV.i IntKind.u8 (nb ix i))) = false ∧ ((!natsEq (bytesF (ll ix) fun i x => CV.i IntKind.u8 (nb ix i))
  (bytesF (LSt.n (lstS I2 F2 (Int.ofNat ix) { kp := kk, n := lw ix, b := wb ix } L)) fun j x => CV.i IntKind.u8 (LSt.b (lstS I2 F2 (Int.ofNat ix) { kp := kk, n := lw ix, b := wb ix }
  L) j))) = true → K (Res.st XO.ret (T.n none (T.n (some (AV.sv 5 L (opF K2 I2 F2 N2 T2))) (T.n none (T.n (some (AV.i IntKind.i64 kk)) (T.n none (T.n none (T.n none T.e (T.n (some
  (AV.b !goodF (bytesF (ll ix) fun j x => CV.i IntKind.u8 (nb ix j)) (lnF (lw ix)) (bbF (wb ix) I2 F2 ix L) (natsEq (bytesF (ll ix) fun i x => CV.i IntKind.u8 (nb ix i)) (bytesF (lw
  ix) fun i x => CV.i IntKind.u8 (wb ix i))) (bcN I2 ix L))) T.e T.e)) (T.n none T.e (T.n (some (AV.s (bytesF (LSt.n (lstS I2 F2 (Int.ofNat ix) { kp := kk, n := lw ix, b := wb ix }
  L)) fun j x => CV.i IntKind.u8 (LSt.b (lstS I2 F2 (Int.ofNat ix) { kp := kk, n := lw ix, b := wb ix } L) j)))) T.e T.e))) (T.n none (T.n none T.e (T.n (some (AV.b tt)) T.e T.e))
  (T.n none (T.n (some (AV.i IntKind.i64 (SS.rdE s (Int.ofNat ix)))) T.e T.e) T.e))) (T.n none (T.n none (T.n none T.e (T.n (some (AV.sv 1 4 (lsF ll nb))) T.e T.e)) T.e) (T.n none
  (T.n none T.e (T.n (some (AV.sv 1 4 (lsF lw wb))) T.e T.e)) T.e))) (T.n none (T.n (some (AV.b (goodF (bytesF (ll ix) fun j x => CV.i IntKind.u8 (nb ix j)) (lnF (lw ix)) (bbF (wb
  ix) I2 F2 ix L) (natsEq (bytesF (ll ix) fun i x => CV.i IntKind.u8 (nb ix i)) (bytesF (lw ix) fun i x => CV.i IntKind.u8 (wb ix i))) (bcN I2 ix L)))) (T.n none (T.n none T.e (T.n
  (some (AV.b !decide (SS.rdE s (Int.ofNat ix) = (0 : Int)))) T.e T.e)) T.e) (T.n none (T.n none T.e (T.n (some (AV.i IntKind.i64 (Int.ofNat ix))) T.e T.e)) (T.n (some (AV.i
  IntKind.i64 (4 : Int))) (T.n (some (AV.sv 1 (ll ix) fun i x => CV.i IntKind.u8 (nb ix i))) T.e T.e) T.e))) (T.n none (T.n none (T.n none T.e (T.n (some (AV.s (bytesF (ll ix) fun i
  x => CV.i IntKind.u8 (nb ix i)))) T.e T.e)) (T.n none (T.n (some (AV.p 0 0)) T.e T.e) T.e)) (T.n none (T.n none T.e (T.n (some (AV.sv 5 L (opF K2 I2 F2 N2 T2))) T.e T.e)) T.e))))
  (T.n none (T.n (some (AV.p 0 0)) (T.n (some (AV.i IntKind.i64 br)) (T.n none (T.n none T.e (T.n (some (AV.i IntKind.i64 (SS.rdE s (Int.ofNat ix)))) T.e T.e)) (T.n none T.e (T.n
  (some (AV.b !natsEq (bytesF (ll ix) fun i x => CV.i IntKind.u8 (nb ix i)) (bytesF (LSt.n (lstS I2 F2 (Int.ofNat ix) { kp := kk, n := lw ix, b := wb ix } L)) fun j x => CV.i
  IntKind.u8 (LSt.b (lstS I2 F2 (Int.ofNat ix) { kp := kk, n := lw ix, b := wb ix } L) j)))) T.e T.e))) (T.n none (T.n none T.e (T.n (some (AV.b !tt)) T.e T.e)) (T.n none (T.n (some
  (AV.i IntKind.i64 (Int.ofNat ix))) T.e T.e) T.e))) (T.n (some (AV.lr 4 1 0 (SS.rdN s (Int.ofNat ix)) true)) (T.n none (T.n none T.e (T.n (some (AV.pv 1 (lsF ll nb ix))) T.e T.e))
  T.e) (T.n none (T.n none T.e (T.n (some (AV.pv 1 (lsF lw wb ix))) T.e T.e)) T.e))) (T.n (some (AV.sv 1 4 (lsF lw wb))) (T.n none (T.n none (T.n none T.e (T.n (some (AV.lr 4 1 0
  (SS.rdN s (Int.ofNat ix)) true)) T.e T.e)) T.e) (T.n none (T.n none T.e (T.n (some (AV.sv 1 (ll ix) fun i x => CV.i IntKind.u8 (nb ix i))) T.e T.e)) (T.n none (T.n (some (AV.b
  (decide (Int.ofNat (ll ix) = (0 : Int))))) T.e T.e) T.e))) (T.n none (T.n none (T.n none T.e (T.n (some (AV.b !natsEq (bytesF (SS.rdN s (Int.ofNat ix)) fun k x => CV.i IntKind.u8
  (SS.rdB s (Int.ofNat ix) k)) (bytesF (ll ix) fun i x => CV.i IntKind.u8 (nb ix i)))) T.e T.e)) (T.n none (T.n (some (AV.tup [AV.lr 4 1 0 (SS.rdN s (Int.ofNat ix)) true, AV.i
  IntKind.i64 (SS.rdE s (Int.ofNat ix))])) T.e T.e) T.e)) (T.n none (T.n none T.e (T.n (some (AV.i IntKind.i64 kk)) T.e T.e)) T.e))))) (T.n none (T.n none (T.n (some (AV.b tt)) (T.n
  (some (AV.sv 1 4 (lsF ll nb))) (T.n none (T.n none T.e (T.n (some (AV.b !goodF (bytesF (ll ix) fun j x => CV.i IntKind.u8 (nb ix j)) (lnF (lw ix)) (bbF (wb ix) I2 F2 ix L) (natsEq
  (bytesF (ll ix) fun i x => CV.i IntKind.u8 (nb ix i)) (bytesF (lw ix) fun i x => CV.i IntKind.u8 (wb ix i))) (bcN I2 ix L))) T.e T.e)) (T.n none T.e (T.n (some (AV.b !natsEq
  (bytesF (ll ix) fun i x => CV.i IntKind.u8 (nb ix i)) (bytesF (LSt.n (lstS I2 F2 (Int.ofNat ix) { kp := kk, n := lw ix, b := wb ix } L)) fun j x => CV.i IntKind.u8 (LSt.b (lstS I2
  F2 (Int.ofNat ix) { kp := kk, n := lw ix, b := wb ix } L) j)))) T.e T.e))) (T.n none (T.n none T.e (T.n (some (AV.b !tt)) T.e T.e)) (T.n none (T.n (some (AV.sv 1 4 (lsF ll nb)))
  T.e T.e) T.e))) (T.n none (T.n none (T.n none T.e (T.n (some (AV.i IntKind.i64 (Int.ofNat ix))) T.e T.e)) T.e) (T.n none (T.n none T.e (T.n (some (AV.i IntKind.i64 (Int.ofNat
  ix))) T.e T.e)) T.e))) (T.n none (T.n none (T.n none (T.n none T.e (T.n (some (AV.b !decide (SS.rdE s (Int.ofNat ix) = (0 : Int)))) T.e T.e)) T.e) (T.n none (T.n none T.e (T.n
  (some (AV.pv 1 (lsF ll nb ix))) T.e T.e)) (T.n (some (AV.i IntKind.i64 (Int.ofNat ix))) (T.n (some (AV.i IntKind.i64 (Int.ofNat (ll ix)))) T.e T.e) T.e))) (T.n none (T.n none (T.n
  none T.e (T.n (some (AV.b !natsEq (bytesF (SS.rdN s (Int.ofNat ix)) fun k x => CV.i IntKind.u8 (SS.rdB s (Int.ofNat ix) k)) (bytesF (ll ix) fun i x => CV.i IntKind.u8 (nb ix i))))
  T.e T.e)) (T.n none (T.n (some (AV.i IntKind.i64 (Int.ofNat ix))) T.e T.e) T.e)) (T.n none (T.n none T.e (T.n (some (AV.i IntKind.i64 (Int.ofNat ix))) T.e T.e)) T.e)))) (T.n (some
  (AV.b false)) (T.n none (T.n (some (AV.i IntKind.i64 (Int.ofNat ix))) (T.n none (T.n none T.e (T.n (some (AV.b !decide (SS.rdE s (Int.ofNat ix) = (0 : Int)))) T.e T.e)) (T.n none
  T.e (T.n (some (AV.b !natsEq (bytesF (ll ix) fun i x => CV.i IntKind.u8 (nb ix i)) (bytesF (LSt.n (lstS I2 F2 (Int.ofNat ix) { kp := kk, n := lw ix, b := wb ix } L)) fun j x =>
  CV.i IntKind.u8 (LSt.b (lstS I2 F2 (Int.ofNat ix) { kp := kk, n := lw ix, b := wb ix } L) j)))) T.e T.e))) (T.n none (T.n none T.e (T.n (some (AV.sv 1 4 (lsF ll nb))) T.e T.e))
  (T.n none (T.n (some (AV.pv 1 (lsF ll nb ix))) T.e T.e) T.e))) (T.n (some (AV.i IntKind.i64 (SS.rdE s (Int.ofNat ix)))) (T.n none (T.n none T.e (T.n (some (AV.sv 1 (ll ix) fun i x
  => CV.i IntKind.u8 (nb ix i))) T.e T.e)) (T.n none (T.n (some (AV.tup [AV.lr 4 1 0 (SS.rdN s (Int.ofNat ix)) true, AV.i IntKind.i64 (SS.rdE s (Int.ofNat ix))])) T.e T.e) T.e))
  (T.n none (T.n none T.e (T.n (some (AV.sv 1 (lw ix) fun i x => CV.i IntKind.u8 (wb ix i))) T.e T.e)) T.e))) (T.n none (T.n none (T.n none (T.n none T.e (T.n (some (AV.s (bytesF
  (SS.rdN s (Int.ofNat ix)) fun k x => CV.i IntKind.u8 (SS.rdB s (Int.ofNat ix) k)))) T.e T.e)) T.e) (T.n none (T.n none T.e (T.n (some (AV.s (bytesF (ll ix) fun i x => CV.i
  IntKind.u8 (nb ix i)))) T.e T.e)) T.e)) (T.n none (T.n none (T.n none T.e (T.n (some (AV.b !natsEq (bytesF (SS.rdN s (Int.ofNat ix)) fun k x => CV.i IntKind.u8 (SS.rdB s
  (Int.ofNat ix) k)) (bytesF (ll ix) fun i x => CV.i IntKind.u8 (nb ix i)))) T.e T.e)) (T.n none (T.n (some (AV.lr 4 1 0 (SS.rdN s (Int.ofNat ix)) true)) T.e T.e) T.e)) (T.n none
  (T.n none T.e (T.n (some (AV.sv 1 (LSt.n (lstS I2 F2 (Int.ofNat ix) { kp := kk, n := lw ix, b := wb ix } L)) fun j x => CV.i IntKind.u8 (LSt.b (lstS I2 F2 (Int.ofNat ix) { kp := kk, n := lw ix, b := wb ix }
  L) j))) T.e T.e)) (T.n none (T.n (some (AV.b (goodF (bytesF (ll ix) fun j x => CV.i IntKind.u8 (nb ix j)) (lnF (lw ix)) (bbF (wb ix) I2 F2 ix L) (natsEq (bytesF (ll ix) fun i x =>
  CV.i IntKind.u8 (nb ix i)) (bytesF (lw ix) fun i x => CV.i IntKind.u8 (wb ix i))) (bcN I2 ix L)))) T.e T.e) T.e))))))) { tree := T.n (some (AObj.segs 73 33799 [{ st := 0, sz := 1, n := 1, f := oneF (CV.i IntKind.i64 (Int.ofNat (SS.n s))) }, { st := 1, sz := 65, n := 512, f := durF (SS.dur s) (SS.torn s) }, { st := 33281, sz := 1, n := 1, f := oneF (CV.opv (pB (SS.P s)) 66 (pW (SS.P s))) }, { st := 33282, sz := 1, n := 512, f := latF (lB (SS.P s)) (lW (SS.P s)) }, { st := 33794, sz := 5, n := 1, f := tailF (Int.ofNat (List.length (SS.P s))) (Int.ofNat (SS.wr s)) (SS.off s) (SS.armed s) (Int.ofNat (SS.left s)) }])) (T.n none (T.n none T.e T.e) T.e) (T.n none (T.n (some (AObj.rows 64 1 (SS.rdN s (Int.ofNat ix)) fun k x => CV.i IntKind.u8 (SS.rdB s (Int.ofNat ix) k))) T.e T.e) T.e), next := 5, log := [4, 3, 2, 0, 2, 1, 0, 1] })
  Orc.z) ∧ ((!natsEq (bytesF (ll ix) fun i x => CV.i IntKind.u8 (nb ix i)) (bytesF (LSt.n (lstS I2 F2 (Int.ofNat ix) { kp := kk, n := lw ix, b := wb ix } L)) fun j x => CV.i
  IntKind.u8 (LSt.b (lstS I2 F2 (Int.ofNat ix) { kp := kk, n := lw ix, b := wb ix } L) j))) = false → ((-9223372036854775808 : Int) ≤ Int.ofNat ix + (1 : Int) ∧ Int.ofNat ix + (1 :
  Int) ≤ (9223372036854775807 : Int)) ∧ K (Res.st XO.nrm (T.n none (T.n (some (AV.sv 5 L (opF K2 I2 F2 N2 T2))) (T.n none (T.n (some (AV.i IntKind.i64 kk)) (T.n none (T.n none (T.n
  none T.e (T.n (some (AV.b !goodF (bytesF (ll ix) fun j x => CV.i IntKind.u8 (nb ix j)) (lnF (lw ix)) (bbF (wb ix) I2 F2 ix L) (natsEq (bytesF (ll ix) fun i x => CV.i IntKind.u8
  (nb ix i)) (bytesF (lw ix) fun i x => CV.i IntKind.u8 (wb ix i))) (bcN I2 ix L))) T.e T.e)) (T.n none T.e (T.n (some (AV.s (bytesF (LSt.n (lstS I2 F2 (Int.ofNat ix) { kp := kk, n := lw ix, b := wb ix }
  L)) fun j x => CV.i IntKind.u8 (LSt.b (lstS I2 F2 (Int.ofNat ix) { kp := kk, n := lw ix, b := wb ix } L) j)))) T.e T.e))) (T.n none (T.n none T.e (T.n (some (AV.b tt)) T.e T.e))
  (T.n none (T.n (some (AV.i IntKind.i64 (SS.rdE s (Int.ofNat ix)))) T.e T.e) T.e))) (T.n none (T.n none (T.n none T.e (T.n (some (AV.sv 1 4 (lsF ll nb))) T.e T.e)) T.e) (T.n none
  (T.n none T.e (T.n (some (AV.sv 1 4 (lsF lw wb))) T.e T.e)) T.e))) (T.n none (T.n (some (AV.b (goodF (bytesF (ll ix) fun j x => CV.i IntKind.u8 (nb ix j)) (lnF (lw ix)) (bbF (wb
  ix) I2 F2 ix L) (natsEq (bytesF (ll ix) fun i x => CV.i IntKind.u8 (nb ix i)) (bytesF (lw ix) fun i x => CV.i IntKind.u8 (wb ix i))) (bcN I2 ix L)))) (T.n none (T.n none T.e (T.n
  (some (AV.b !decide (SS.rdE s (Int.ofNat ix) = (0 : Int)))) T.e T.e)) (T.n none T.e (T.n (some (AV.i IntKind.i64 (Int.ofNat ix + (1 : Int)))) T.e T.e))) (T.n none (T.n none T.e
  (T.n (some (AV.i IntKind.i64 (Int.ofNat ix))) T.e T.e)) (T.n (some (AV.i IntKind.i64 (4 : Int))) (T.n (some (AV.sv 1 (ll ix) fun i x => CV.i IntKind.u8 (nb ix i))) T.e T.e) T.e)))
  (T.n none (T.n none (T.n none T.e (T.n (some (AV.s (bytesF (ll ix) fun i x => CV.i IntKind.u8 (nb ix i)))) T.e T.e)) (T.n none (T.n (some (AV.p 0 0)) T.e T.e) T.e)) (T.n none (T.n
  none T.e (T.n (some (AV.sv 5 L (opF K2 I2 F2 N2 T2))) T.e T.e)) T.e)))) (T.n none (T.n (some (AV.p 0 0)) (T.n (some (AV.i IntKind.i64 br)) (T.n none (T.n none T.e (T.n (some (AV.i
  IntKind.i64 (SS.rdE s (Int.ofNat ix)))) T.e T.e)) (T.n none T.e (T.n (some (AV.b !natsEq (bytesF (ll ix) fun i x => CV.i IntKind.u8 (nb ix i)) (bytesF (LSt.n (lstS I2 F2
  (Int.ofNat ix) { kp := kk, n := lw ix, b := wb ix } L)) fun j x => CV.i IntKind.u8 (LSt.b (lstS I2 F2 (Int.ofNat ix) { kp := kk, n := lw ix, b := wb ix } L) j)))) T.e T.e))) (T.n
  none (T.n none T.e (T.n (some (AV.b !tt)) T.e T.e)) (T.n none (T.n (some (AV.i IntKind.i64 (Int.ofNat ix))) T.e T.e) T.e))) (T.n (some (AV.lr 4 1 0 (SS.rdN s (Int.ofNat ix))
  true)) (T.n none (T.n none T.e (T.n (some (AV.pv 1 (lsF ll nb ix))) T.e T.e)) T.e) (T.n none (T.n none T.e (T.n (some (AV.pv 1 (lsF lw wb ix))) T.e T.e)) T.e))) (T.n (some (AV.sv
  1 4 (lsF lw wb))) (T.n none (T.n none (T.n none T.e (T.n (some (AV.lr 4 1 0 (SS.rdN s (Int.ofNat ix)) true)) T.e T.e)) T.e) (T.n none (T.n none T.e (T.n (some (AV.sv 1 (ll ix) fun
  i x => CV.i IntKind.u8 (nb ix i))) T.e T.e)) (T.n none (T.n (some (AV.b (decide (Int.ofNat (ll ix) = (0 : Int))))) T.e T.e) T.e))) (T.n none (T.n none (T.n none T.e (T.n (some
  (AV.b !natsEq (bytesF (SS.rdN s (Int.ofNat ix)) fun k x => CV.i IntKind.u8 (SS.rdB s (Int.ofNat ix) k)) (bytesF (ll ix) fun i x => CV.i IntKind.u8 (nb ix i)))) T.e T.e)) (T.n none
  (T.n (some (AV.tup [AV.lr 4 1 0 (SS.rdN s (Int.ofNat ix)) true, AV.i IntKind.i64 (SS.rdE s (Int.ofNat ix))])) T.e T.e) T.e)) (T.n none (T.n none T.e (T.n (some (AV.i IntKind.i64
  kk)) T.e T.e)) T.e))))) (T.n none (T.n none (T.n (some (AV.b tt)) (T.n (some (AV.sv 1 4 (lsF ll nb))) (T.n none (T.n none T.e (T.n (some (AV.b !goodF (bytesF (ll ix) fun j x =>
  CV.i IntKind.u8 (nb ix j)) (lnF (lw ix)) (bbF (wb ix) I2 F2 ix L) (natsEq (bytesF (ll ix) fun i x => CV.i IntKind.u8 (nb ix i)) (bytesF (lw ix) fun i x => CV.i IntKind.u8 (wb ix
  i))) (bcN I2 ix L))) T.e T.e)) (T.n none T.e (T.n (some (AV.b !natsEq (bytesF (ll ix) fun i x => CV.i IntKind.u8 (nb ix i)) (bytesF (LSt.n (lstS I2 F2 (Int.ofNat ix) { kp := kk, n := lw ix, b := wb ix }
  L)) fun j x => CV.i IntKind.u8 (LSt.b (lstS I2 F2 (Int.ofNat ix) { kp := kk, n := lw ix, b := wb ix } L) j)))) T.e T.e))) (T.n none (T.n none T.e (T.n (some (AV.b !tt)) T.e T.e))
  (T.n none (T.n (some (AV.sv 1 4 (lsF ll nb))) T.e T.e) T.e))) (T.n none (T.n none (T.n none T.e (T.n (some (AV.i IntKind.i64 (Int.ofNat ix))) T.e T.e)) T.e) (T.n none (T.n none
  T.e (T.n (some (AV.i IntKind.i64 (Int.ofNat ix))) T.e T.e)) T.e))) (T.n none (T.n none (T.n none (T.n none T.e (T.n (some (AV.b !decide (SS.rdE s (Int.ofNat ix) = (0 : Int)))) T.e
  T.e)) T.e) (T.n none (T.n none T.e (T.n (some (AV.pv 1 (lsF ll nb ix))) T.e T.e)) (T.n (some (AV.i IntKind.i64 (Int.ofNat ix + (1 : Int)))) (T.n (some (AV.i IntKind.i64 (Int.ofNat
  (ll ix)))) T.e T.e) T.e))) (T.n none (T.n none (T.n none T.e (T.n (some (AV.b !natsEq (bytesF (SS.rdN s (Int.ofNat ix)) fun k x => CV.i IntKind.u8 (SS.rdB s (Int.ofNat ix) k))
  (bytesF (ll ix) fun i x => CV.i IntKind.u8 (nb ix i)))) T.e T.e)) (T.n none (T.n (some (AV.i IntKind.i64 (Int.ofNat ix))) T.e T.e) T.e)) (T.n none (T.n none T.e (T.n (some (AV.i
  IntKind.i64 (Int.ofNat ix))) T.e T.e)) T.e)))) (T.n none (T.n none (T.n (some (AV.i IntKind.i64 (Int.ofNat ix))) (T.n none (T.n none T.e (T.n (some (AV.b !decide (SS.rdE s
  (Int.ofNat ix) = (0 : Int)))) T.e T.e)) (T.n none T.e (T.n (some (AV.b !natsEq (bytesF (ll ix) fun i x => CV.i IntKind.u8 (nb ix i)) (bytesF (LSt.n (lstS I2 F2 (Int.ofNat ix) { kp := kk, n := lw ix, b := wb ix }
  L)) fun j x => CV.i IntKind.u8 (LSt.b (lstS I2 F2 (Int.ofNat ix) { kp := kk, n := lw ix, b := wb ix } L) j)))) T.e T.e))) (T.n none (T.n none T.e (T.n (some (AV.sv 1 4 (lsF ll
  nb))) T.e T.e)) (T.n none (T.n (some (AV.pv 1 (lsF ll nb ix))) T.e T.e) T.e))) (T.n (some (AV.i IntKind.i64 (SS.rdE s (Int.ofNat ix)))) (T.n none (T.n none T.e (T.n (some (AV.sv 1
  (ll ix) fun i x => CV.i IntKind.u8 (nb ix i))) T.e T.e)) (T.n none (T.n (some (AV.tup [AV.lr 4 1 0 (SS.rdN s (Int.ofNat ix)) true, AV.i IntKind.i64 (SS.rdE s (Int.ofNat ix))]))
  T.e T.e) T.e)) (T.n none (T.n none T.e (T.n (some (AV.sv 1 (lw ix) fun i x => CV.i IntKind.u8 (wb ix i))) T.e T.e)) T.e))) (T.n none (T.n none (T.n none (T.n none T.e (T.n (some
  (AV.s (bytesF (SS.rdN s (Int.ofNat ix)) fun k x => CV.i IntKind.u8 (SS.rdB s (Int.ofNat ix) k)))) T.e T.e)) T.e) (T.n none (T.n none T.e (T.n (some (AV.s (bytesF (ll ix) fun i x
  => CV.i IntKind.u8 (nb ix i)))) T.e T.e)) T.e)) (T.n none (T.n none (T.n none T.e (T.n (some (AV.b !natsEq (bytesF (SS.rdN s (Int.ofNat ix)) fun k x => CV.i IntKind.u8 (SS.rdB s
  (Int.ofNat ix) k)) (bytesF (ll ix) fun i x => CV.i IntKind.u8 (nb ix i)))) T.e T.e)) (T.n none (T.n (some (AV.lr 4 1 0 (SS.rdN s (Int.ofNat ix)) true)) T.e T.e) T.e)) (T.n none
  (T.n none T.e (T.n (some (AV.sv 1 (LSt.n (lstS I2 F2 (Int.ofNat ix) { kp := kk, n := lw ix, b := wb ix } L)) fun j x => CV.i IntKind.u8 (LSt.b (lstS I2 F2 (Int.ofNat ix) { kp := kk, n := lw ix, b := wb ix }
  L) j))) T.e T.e)) (T.n none (T.n (some (AV.b (goodF (bytesF (ll ix) fun j x => CV.i IntKind.u8 (nb ix j)) (lnF (lw ix)) (bbF (wb ix) I2 F2 ix L) (natsEq (bytesF (ll ix) fun i x =>
  CV.i IntKind.u8 (nb ix i)) (bytesF (lw ix) fun i x => CV.i IntKind.u8 (wb ix i))) (bcN I2 ix L)))) T.e T.e) T.e))))))) { tree := T.n (some (AObj.segs 73 33799 [{ st := 0, sz := 1, n := 1, f := oneF (CV.i IntKind.i64 (Int.ofNat (SS.n s))) }, { st := 1, sz := 65, n := 512, f := durF (SS.dur s) (SS.torn s) }, { st := 33281, sz := 1, n := 1, f := oneF (CV.opv (pB (SS.P s)) 66 (pW (SS.P s))) }, { st := 33282, sz := 1, n := 512, f := latF (lB (SS.P s)) (lW (SS.P s)) }, { st := 33794, sz := 5, n := 1, f := tailF (Int.ofNat (List.length (SS.P s))) (Int.ofNat (SS.wr s)) (SS.off s) (SS.armed s) (Int.ofNat (SS.left s)) }])) (T.n none (T.n none T.e T.e) T.e) (T.n none (T.n (some (AObj.rows 64 1 (SS.rdN s (Int.ofNat ix)) fun k x => CV.i IntKind.u8 (SS.rdB s (Int.ofNat ix) k))) T.e T.e) T.e), next := 5, log := [4, 3, 2, 0, 2, 1, 0, 1] })
  Orc.z)) ∧ ((!tt) = false → (!tt) = false ∧ (!tt) = false ∧ (!tt) = false ∧ (!tt) = false ∧ (!tt) = false ∧ (!tt) = false ∧ (!tt) = false ∧ (!tt) = false ∧ (!tt) = false ∧ (!tt) =
  false ∧ (!tt) = false ∧ (!tt) = false ∧ (!tt) = false ∧ (!tt) = false ∧ (!!natsEq (bytesF (SS.rdN s (Int.ofNat ix)) fun k x => CV.i IntKind.u8 (SS.rdB s (Int.ofNat ix) k)) (bytesF
  (ll ix) fun i x => CV.i IntKind.u8 (nb ix i))) = true ∧ (!tt) = false ∧ (!natsEq (bytesF (SS.rdN s (Int.ofNat ix)) fun k x => CV.i IntKind.u8 (SS.rdB s (Int.ofNat ix) k)) (bytesF
  (ll ix) fun i x => CV.i IntKind.u8 (nb ix i))) = false ∧ ((-9223372036854775808 : Int) ≤ Int.ofNat ix + (1 : Int) ∧ Int.ofNat ix + (1 : Int) ≤ (9223372036854775807 : Int)) ∧ K
  (Res.st XO.nrm (T.n none (T.n (some (AV.sv 5 L (opF K2 I2 F2 N2 T2))) (T.n none (T.n (some (AV.i IntKind.i64 kk)) (T.n none (T.n none (T.n none T.e (T.n (some (AV.b !goodF (bytesF
  (ll ix) fun j x => CV.i IntKind.u8 (nb ix j)) (lnF (lw ix)) (bbF (wb ix) I2 F2 ix L) (natsEq (bytesF (ll ix) fun i x => CV.i IntKind.u8 (nb ix i)) (bytesF (lw ix) fun i x => CV.i
  IntKind.u8 (wb ix i))) (bcN I2 ix L))) T.e T.e)) (T.n none T.e (T.n (some (AV.tup [])) T.e T.e))) (T.n none (T.n none T.e (T.n (some (AV.b tt)) T.e T.e)) (T.n none (T.n (some
  (AV.i IntKind.i64 (SS.rdE s (Int.ofNat ix)))) T.e T.e) T.e))) (T.n none (T.n none (T.n none T.e (T.n (some (AV.sv 1 4 (lsF ll nb))) T.e T.e)) T.e) (T.n none (T.n none T.e (T.n
  (some (AV.tup [])) T.e T.e)) T.e))) (T.n none (T.n (some (AV.b (goodF (bytesF (ll ix) fun j x => CV.i IntKind.u8 (nb ix j)) (lnF (lw ix)) (bbF (wb ix) I2 F2 ix L) (natsEq (bytesF
  (ll ix) fun i x => CV.i IntKind.u8 (nb ix i)) (bytesF (lw ix) fun i x => CV.i IntKind.u8 (wb ix i))) (bcN I2 ix L)))) (T.n none (T.n none T.e (T.n (some (AV.b !decide (SS.rdE s
  (Int.ofNat ix) = (0 : Int)))) T.e T.e)) (T.n none T.e (T.n (some (AV.i IntKind.i64 (Int.ofNat ix + (1 : Int)))) T.e T.e))) (T.n none (T.n none T.e (T.n (some (AV.tup [])) T.e
  T.e)) (T.n (some (AV.i IntKind.i64 (4 : Int))) (T.n (some (AV.sv 1 (ll ix) fun i x => CV.i IntKind.u8 (nb ix i))) T.e T.e) T.e))) (T.n none (T.n none (T.n none T.e (T.n (some
  (AV.s (bytesF (ll ix) fun i x => CV.i IntKind.u8 (nb ix i)))) T.e T.e)) (T.n none (T.n (some (AV.p 0 0)) T.e T.e) T.e)) (T.n none (T.n none T.e (T.n (some (AV.tup [])) T.e T.e))
  T.e)))) (T.n none (T.n (some (AV.p 0 0)) (T.n (some (AV.i IntKind.i64 br)) (T.n none (T.n none T.e (T.n (some (AV.i IntKind.i64 (SS.rdE s (Int.ofNat ix)))) T.e T.e)) (T.n none T.e
  (T.n (some (AV.b false)) T.e T.e))) (T.n none (T.n none T.e (T.n (some (AV.b !tt)) T.e T.e)) (T.n none (T.n (some (AV.i IntKind.i64 (Int.ofNat ix))) T.e T.e) T.e))) (T.n (some
  (AV.lr 4 1 0 (SS.rdN s (Int.ofNat ix)) true)) (T.n none (T.n none T.e (T.n (some (AV.pv 1 (lsF ll nb ix))) T.e T.e)) T.e) (T.n none (T.n none T.e (T.n (some (AV.tup [])) T.e T.e))
  T.e))) (T.n (some (AV.sv 1 4 (lsF lw wb))) (T.n none (T.n none (T.n none T.e (T.n (some (AV.lr 4 1 0 (SS.rdN s (Int.ofNat ix)) true)) T.e T.e)) T.e) (T.n none (T.n none T.e (T.n
  (some (AV.tup [])) T.e T.e)) (T.n none (T.n (some (AV.b (decide (Int.ofNat (ll ix) = (0 : Int))))) T.e T.e) T.e))) (T.n none (T.n none (T.n none T.e (T.n (some (AV.b !natsEq
  (bytesF (SS.rdN s (Int.ofNat ix)) fun k x => CV.i IntKind.u8 (SS.rdB s (Int.ofNat ix) k)) (bytesF (ll ix) fun i x => CV.i IntKind.u8 (nb ix i)))) T.e T.e)) (T.n none (T.n (some
  (AV.tup [AV.lr 4 1 0 (SS.rdN s (Int.ofNat ix)) true, AV.i IntKind.i64 (SS.rdE s (Int.ofNat ix))])) T.e T.e) T.e)) (T.n none (T.n none T.e (T.n (some (AV.tup [])) T.e T.e))
  T.e))))) (T.n none (T.n none (T.n (some (AV.b tt)) (T.n (some (AV.sv 1 4 (lsF ll nb))) (T.n none (T.n none T.e (T.n (some (AV.b !goodF (bytesF (ll ix) fun j x => CV.i IntKind.u8
  (nb ix j)) (lnF (lw ix)) (bbF (wb ix) I2 F2 ix L) (natsEq (bytesF (ll ix) fun i x => CV.i IntKind.u8 (nb ix i)) (bytesF (lw ix) fun i x => CV.i IntKind.u8 (wb ix i))) (bcN I2 ix
  L))) T.e T.e)) (T.n none T.e (T.n (some (AV.tup [])) T.e T.e))) (T.n none (T.n none T.e (T.n (some (AV.b !tt)) T.e T.e)) (T.n none (T.n (some (AV.sv 1 4 (lsF ll nb))) T.e T.e)
  T.e))) (T.n none (T.n none (T.n none T.e (T.n (some (AV.i IntKind.i64 (Int.ofNat ix))) T.e T.e)) T.e) (T.n none (T.n none T.e (T.n (some (AV.tup [])) T.e T.e)) T.e))) (T.n none
  (T.n none (T.n none (T.n none T.e (T.n (some (AV.b !decide (SS.rdE s (Int.ofNat ix) = (0 : Int)))) T.e T.e)) T.e) (T.n none (T.n none T.e (T.n (some (AV.tup [])) T.e T.e)) (T.n
  (some (AV.i IntKind.i64 (Int.ofNat ix + (1 : Int)))) (T.n (some (AV.i IntKind.i64 (Int.ofNat (ll ix)))) T.e T.e) T.e))) (T.n none (T.n none (T.n none T.e (T.n (some (AV.b !natsEq
  (bytesF (SS.rdN s (Int.ofNat ix)) fun k x => CV.i IntKind.u8 (SS.rdB s (Int.ofNat ix) k)) (bytesF (ll ix) fun i x => CV.i IntKind.u8 (nb ix i)))) T.e T.e)) (T.n none (T.n (some
  (AV.i IntKind.i64 (Int.ofNat ix))) T.e T.e) T.e)) (T.n none (T.n none T.e (T.n (some (AV.tup [])) T.e T.e)) T.e)))) (T.n none (T.n none (T.n (some (AV.i IntKind.i64 (Int.ofNat
  ix))) (T.n none (T.n none T.e (T.n (some (AV.b !decide (SS.rdE s (Int.ofNat ix) = (0 : Int)))) T.e T.e)) (T.n none T.e (T.n (some (AV.b false)) T.e T.e))) (T.n none (T.n none T.e
  (T.n (some (AV.tup [])) T.e T.e)) (T.n none (T.n (some (AV.pv 1 (lsF ll nb ix))) T.e T.e) T.e))) (T.n (some (AV.i IntKind.i64 (SS.rdE s (Int.ofNat ix)))) (T.n none (T.n none T.e
  (T.n (some (AV.sv 1 (ll ix) fun i x => CV.i IntKind.u8 (nb ix i))) T.e T.e)) (T.n none (T.n (some (AV.tup [AV.lr 4 1 0 (SS.rdN s (Int.ofNat ix)) true, AV.i IntKind.i64 (SS.rdE s
  (Int.ofNat ix))])) T.e T.e) T.e)) (T.n none (T.n none T.e (T.n (some (AV.tup [])) T.e T.e)) T.e))) (T.n none (T.n none (T.n none (T.n none T.e (T.n (some (AV.s (bytesF (SS.rdN s
  (Int.ofNat ix)) fun k x => CV.i IntKind.u8 (SS.rdB s (Int.ofNat ix) k)))) T.e T.e)) T.e) (T.n none (T.n none T.e (T.n (some (AV.tup [])) T.e T.e)) T.e)) (T.n none (T.n none (T.n
  none T.e (T.n (some (AV.b !natsEq (bytesF (SS.rdN s (Int.ofNat ix)) fun k x => CV.i IntKind.u8 (SS.rdB s (Int.ofNat ix) k)) (bytesF (ll ix) fun i x => CV.i IntKind.u8 (nb ix i))))
  T.e T.e)) (T.n none (T.n (some (AV.lr 4 1 0 (SS.rdN s (Int.ofNat ix)) true)) T.e T.e) T.e)) (T.n none (T.n none T.e (T.n (some (AV.tup [])) T.e T.e)) (T.n none (T.n (some (AV.b
  (goodF (bytesF (ll ix) fun j x => CV.i IntKind.u8 (nb ix j)) (lnF (lw ix)) (bbF (wb ix) I2 F2 ix L) (natsEq (bytesF (ll ix) fun i x => CV.i IntKind.u8 (nb ix i)) (bytesF (lw ix)
  fun i x => CV.i IntKind.u8 (wb ix i))) (bcN I2 ix L)))) T.e T.e) T.e))))))) { tree := T.n (some (AObj.segs 73 33799 [{ st := 0, sz := 1, n := 1, f := oneF (CV.i IntKind.i64 (Int.ofNat (SS.n s))) }, { st := 1, sz := 65, n := 512, f := durF (SS.dur s) (SS.torn s) }, { st := 33281, sz := 1, n := 1, f := oneF (CV.opv (pB (SS.P s)) 66 (pW (SS.P s))) }, { st := 33282, sz := 1, n := 512, f := latF (lB (SS.P s)) (lW (SS.P s)) }, { st := 33794, sz := 5, n := 1, f := tailF (Int.ofNat (List.length (SS.P s))) (Int.ofNat (SS.wr s)) (SS.off s) (SS.armed s) (Int.ofNat (SS.left s)) }])) (T.n none (T.n none T.e T.e) T.e) (T.n none (T.n (some (AObj.rows 64 1 (SS.rdN s (Int.ofNat ix)) fun k x => CV.i IntKind.u8 (SS.rdB s (Int.ofNat ix) k))) T.e T.e) T.e), next := 5, log := [4, 3, 2, 0, 2, 1, 0, 1] })
  Orc.z)) ∧ ((!!natsEq (bytesF (SS.rdN s (Int.ofNat ix)) fun k x => CV.i IntKind.u8 (SS.rdB s (Int.ofNat ix) k)) (bytesF (ll ix) fun i x => CV.i IntKind.u8 (nb ix i))) = false →
  (!!natsEq (bytesF (SS.rdN s (Int.ofNat ix)) fun k x => CV.i IntKind.u8 (SS.rdB s (Int.ofNat ix) k)) (bytesF (ll ix) fun i x => CV.i IntKind.u8 (nb ix i))) = false ∧ (!!natsEq
  (bytesF (SS.rdN s (Int.ofNat ix)) fun k x => CV.i IntKind.u8 (SS.rdB s (Int.ofNat ix) k)) (bytesF (ll ix) fun i x => CV.i IntKind.u8 (nb ix i))) = false ∧ (!!natsEq (bytesF
  (SS.rdN s (Int.ofNat ix)) fun k x => CV.i IntKind.u8 (SS.rdB s (Int.ofNat ix) k)) (bytesF (ll ix) fun i x => CV.i IntKind.u8 (nb ix i))) = false ∧ (!natsEq (bytesF (SS.rdN s
  (Int.ofNat ix)) fun k x => CV.i IntKind.u8 (SS.rdB s (Int.ofNat ix) k)) (bytesF (ll ix) fun i x => CV.i IntKind.u8 (nb ix i))) = true ∧ K (Res.st XO.ret (T.n none (T.n (some
  (AV.sv 5 L (opF K2 I2 F2 N2 T2))) (T.n none (T.n (some (AV.i IntKind.i64 kk)) (T.n none (T.n none (T.n none T.e (T.n (some (AV.b !goodF (bytesF (ll ix) fun j x => CV.i IntKind.u8
  (nb ix j)) (lnF (lw ix)) (bbF (wb ix) I2 F2 ix L) (natsEq (bytesF (ll ix) fun i x => CV.i IntKind.u8 (nb ix i)) (bytesF (lw ix) fun i x => CV.i IntKind.u8 (wb ix i))) (bcN I2 ix
  L))) T.e T.e)) (T.n none T.e (T.n (some (AV.tup [])) T.e T.e))) (T.n none (T.n none T.e (T.n (some (AV.tup [])) T.e T.e)) (T.n none (T.n (some (AV.i IntKind.i64 (SS.rdE s
  (Int.ofNat ix)))) T.e T.e) T.e))) (T.n none (T.n none (T.n none T.e (T.n (some (AV.sv 1 4 (lsF ll nb))) T.e T.e)) T.e) (T.n none (T.n none T.e (T.n (some (AV.tup [])) T.e T.e))
  T.e))) (T.n none (T.n (some (AV.b (goodF (bytesF (ll ix) fun j x => CV.i IntKind.u8 (nb ix j)) (lnF (lw ix)) (bbF (wb ix) I2 F2 ix L) (natsEq (bytesF (ll ix) fun i x => CV.i
  IntKind.u8 (nb ix i)) (bytesF (lw ix) fun i x => CV.i IntKind.u8 (wb ix i))) (bcN I2 ix L)))) (T.n none (T.n none T.e (T.n (some (AV.b !decide (SS.rdE s (Int.ofNat ix) = (0 :
  Int)))) T.e T.e)) T.e) (T.n none (T.n none T.e (T.n (some (AV.tup [])) T.e T.e)) (T.n (some (AV.i IntKind.i64 (4 : Int))) (T.n (some (AV.sv 1 (ll ix) fun i x => CV.i IntKind.u8
  (nb ix i))) T.e T.e) T.e))) (T.n none (T.n none (T.n none T.e (T.n (some (AV.s (bytesF (ll ix) fun i x => CV.i IntKind.u8 (nb ix i)))) T.e T.e)) (T.n none (T.n (some (AV.p 0 0))
  T.e T.e) T.e)) (T.n none (T.n none T.e (T.n (some (AV.tup [])) T.e T.e)) T.e)))) (T.n none (T.n (some (AV.p 0 0)) (T.n (some (AV.i IntKind.i64 br)) (T.n none (T.n none T.e (T.n
  (some (AV.i IntKind.i64 (SS.rdE s (Int.ofNat ix)))) T.e T.e)) (T.n none T.e (T.n (some (AV.tup [])) T.e T.e))) (T.n none (T.n none T.e (T.n (some (AV.tup [])) T.e T.e)) (T.n none
  (T.n (some (AV.i IntKind.i64 (Int.ofNat ix))) T.e T.e) T.e))) (T.n (some (AV.lr 4 1 0 (SS.rdN s (Int.ofNat ix)) true)) (T.n none (T.n none T.e (T.n (some (AV.pv 1 (lsF ll nb ix)))
  T.e T.e)) T.e) (T.n none (T.n none T.e (T.n (some (AV.tup [])) T.e T.e)) T.e))) (T.n (some (AV.sv 1 4 (lsF lw wb))) (T.n none (T.n none (T.n none T.e (T.n (some (AV.lr 4 1 0
  (SS.rdN s (Int.ofNat ix)) true)) T.e T.e)) T.e) (T.n none (T.n none T.e (T.n (some (AV.tup [])) T.e T.e)) (T.n none (T.n (some (AV.b (decide (Int.ofNat (ll ix) = (0 : Int))))) T.e
  T.e) T.e))) (T.n none (T.n none (T.n none T.e (T.n (some (AV.b !natsEq (bytesF (SS.rdN s (Int.ofNat ix)) fun k x => CV.i IntKind.u8 (SS.rdB s (Int.ofNat ix) k)) (bytesF (ll ix)
  fun i x => CV.i IntKind.u8 (nb ix i)))) T.e T.e)) (T.n none (T.n (some (AV.tup [AV.lr 4 1 0 (SS.rdN s (Int.ofNat ix)) true, AV.i IntKind.i64 (SS.rdE s (Int.ofNat ix))])) T.e T.e)
  T.e)) (T.n none (T.n none T.e (T.n (some (AV.tup [])) T.e T.e)) T.e))))) (T.n none (T.n none (T.n (some (AV.b tt)) (T.n (some (AV.sv 1 4 (lsF ll nb))) (T.n none (T.n none T.e (T.n
  (some (AV.b !goodF (bytesF (ll ix) fun j x => CV.i IntKind.u8 (nb ix j)) (lnF (lw ix)) (bbF (wb ix) I2 F2 ix L) (natsEq (bytesF (ll ix) fun i x => CV.i IntKind.u8 (nb ix i))
  (bytesF (lw ix) fun i x => CV.i IntKind.u8 (wb ix i))) (bcN I2 ix L))) T.e T.e)) (T.n none T.e (T.n (some (AV.tup [])) T.e T.e))) (T.n none (T.n none T.e (T.n (some (AV.tup []))
  T.e T.e)) (T.n none (T.n (some (AV.sv 1 4 (lsF ll nb))) T.e T.e) T.e))) (T.n none (T.n none (T.n none T.e (T.n (some (AV.i IntKind.i64 (Int.ofNat ix))) T.e T.e)) T.e) (T.n none
  (T.n none T.e (T.n (some (AV.tup [])) T.e T.e)) T.e))) (T.n none (T.n none (T.n none (T.n none T.e (T.n (some (AV.b !decide (SS.rdE s (Int.ofNat ix) = (0 : Int)))) T.e T.e)) T.e)
  (T.n none (T.n none T.e (T.n (some (AV.tup [])) T.e T.e)) (T.n (some (AV.i IntKind.i64 (Int.ofNat ix))) (T.n (some (AV.i IntKind.i64 (Int.ofNat (ll ix)))) T.e T.e) T.e))) (T.n
  none (T.n none (T.n none T.e (T.n (some (AV.b !natsEq (bytesF (SS.rdN s (Int.ofNat ix)) fun k x => CV.i IntKind.u8 (SS.rdB s (Int.ofNat ix) k)) (bytesF (ll ix) fun i x => CV.i
  IntKind.u8 (nb ix i)))) T.e T.e)) (T.n none (T.n (some (AV.i IntKind.i64 (Int.ofNat ix))) T.e T.e) T.e)) (T.n none (T.n none T.e (T.n (some (AV.tup [])) T.e T.e)) T.e)))) (T.n
  (some (AV.b false)) (T.n none (T.n (some (AV.i IntKind.i64 (Int.ofNat ix))) (T.n none (T.n none T.e (T.n (some (AV.b !decide (SS.rdE s (Int.ofNat ix) = (0 : Int)))) T.e T.e)) (T.n
  none T.e (T.n (some (AV.b true)) T.e T.e))) (T.n none (T.n none T.e (T.n (some (AV.tup [])) T.e T.e)) (T.n none (T.n (some (AV.pv 1 (lsF ll nb ix))) T.e T.e) T.e))) (T.n (some
  (AV.i IntKind.i64 (SS.rdE s (Int.ofNat ix)))) (T.n none (T.n none T.e (T.n (some (AV.sv 1 (ll ix) fun i x => CV.i IntKind.u8 (nb ix i))) T.e T.e)) (T.n none (T.n (some (AV.tup
  [AV.lr 4 1 0 (SS.rdN s (Int.ofNat ix)) true, AV.i IntKind.i64 (SS.rdE s (Int.ofNat ix))])) T.e T.e) T.e)) (T.n none (T.n none T.e (T.n (some (AV.tup [])) T.e T.e)) T.e))) (T.n
  none (T.n none (T.n none (T.n none T.e (T.n (some (AV.s (bytesF (SS.rdN s (Int.ofNat ix)) fun k x => CV.i IntKind.u8 (SS.rdB s (Int.ofNat ix) k)))) T.e T.e)) T.e) (T.n none (T.n
  none T.e (T.n (some (AV.tup [])) T.e T.e)) T.e)) (T.n none (T.n none (T.n none T.e (T.n (some (AV.b !natsEq (bytesF (SS.rdN s (Int.ofNat ix)) fun k x => CV.i IntKind.u8 (SS.rdB s
  (Int.ofNat ix) k)) (bytesF (ll ix) fun i x => CV.i IntKind.u8 (nb ix i)))) T.e T.e)) (T.n none (T.n (some (AV.lr 4 1 0 (SS.rdN s (Int.ofNat ix)) true)) T.e T.e) T.e)) (T.n none
  (T.n none T.e (T.n (some (AV.tup [])) T.e T.e)) (T.n none (T.n (some (AV.b (goodF (bytesF (ll ix) fun j x => CV.i IntKind.u8 (nb ix j)) (lnF (lw ix)) (bbF (wb ix) I2 F2 ix L)
  (natsEq (bytesF (ll ix) fun i x => CV.i IntKind.u8 (nb ix i)) (bytesF (lw ix) fun i x => CV.i IntKind.u8 (wb ix i))) (bcN I2 ix L)))) T.e T.e) T.e))))))) { tree := T.n (some (AObj.segs 73 33799 [{ st := 0, sz := 1, n := 1, f := oneF (CV.i IntKind.i64 (Int.ofNat (SS.n s))) }, { st := 1, sz := 65, n := 512, f := durF (SS.dur s) (SS.torn s) }, { st := 33281, sz := 1, n := 1, f := oneF (CV.opv (pB (SS.P s)) 66 (pW (SS.P s))) }, { st := 33282, sz := 1, n := 512, f := latF (lB (SS.P s)) (lW (SS.P s)) }, { st := 33794, sz := 5, n := 1, f := tailF (Int.ofNat (List.length (SS.P s))) (Int.ofNat (SS.wr s)) (SS.off s) (SS.armed s) (Int.ofNat (SS.left s)) }])) (T.n none (T.n none T.e T.e) T.e) (T.n none (T.n (some (AObj.rows 64 1 (SS.rdN s (Int.ofNat ix)) fun k x => CV.i IntKind.u8 (SS.rdB s (Int.ofNat ix) k))) T.e T.e) T.e), next := 5, log := [4, 3, 2, 0, 2, 1, 0, 1] })
  Orc.z)) ∧ ((!!decide (SS.rdE s (Int.ofNat ix) = (0 : Int))) = false → (!!decide (SS.rdE s (Int.ofNat ix) = (0 : Int))) = false ∧ (!!decide (SS.rdE s (Int.ofNat ix) = (0 : Int))) =
  false ∧ (!!decide (SS.rdE s (Int.ofNat ix) = (0 : Int))) = false ∧ (!!decide (SS.rdE s (Int.ofNat ix) = (0 : Int))) = false ∧ (!!decide (SS.rdE s (Int.ofNat ix) = (0 : Int))) =
  false ∧ (!!decide (SS.rdE s (Int.ofNat ix) = (0 : Int))) = false ∧ (!!decide (SS.rdE s (Int.ofNat ix) = (0 : Int))) = false ∧ (!decide (SS.rdE s (Int.ofNat ix) = (0 : Int))) =
  true ∧ K (Res.st XO.ret (T.n none (T.n (some (AV.sv 5 L (opF K2 I2 F2 N2 T2))) (T.n none (T.n (some (AV.i IntKind.i64 kk)) (T.n none (T.n none (T.n none T.e (T.n (some (AV.b
  !goodF (bytesF (ll ix) fun j x => CV.i IntKind.u8 (nb ix j)) (lnF (lw ix)) (bbF (wb ix) I2 F2 ix L) (natsEq (bytesF (ll ix) fun i x => CV.i IntKind.u8 (nb ix i)) (bytesF (lw ix)
  fun i x => CV.i IntKind.u8 (wb ix i))) (bcN I2 ix L))) T.e T.e)) (T.n none T.e (T.n (some (AV.tup [])) T.e T.e))) (T.n none (T.n none T.e (T.n (some (AV.tup [])) T.e T.e)) (T.n
  none (T.n (some (AV.i IntKind.i64 (SS.rdE s (Int.ofNat ix)))) T.e T.e) T.e))) (T.n none (T.n none (T.n none T.e (T.n (some (AV.tup [])) T.e T.e)) T.e) (T.n none (T.n none T.e (T.n
  (some (AV.tup [])) T.e T.e)) T.e))) (T.n none (T.n (some (AV.b (goodF (bytesF (ll ix) fun j x => CV.i IntKind.u8 (nb ix j)) (lnF (lw ix)) (bbF (wb ix) I2 F2 ix L) (natsEq (bytesF
  (ll ix) fun i x => CV.i IntKind.u8 (nb ix i)) (bytesF (lw ix) fun i x => CV.i IntKind.u8 (wb ix i))) (bcN I2 ix L)))) (T.n none (T.n none T.e (T.n (some (AV.b !decide (SS.rdE s
  (Int.ofNat ix) = (0 : Int)))) T.e T.e)) T.e) (T.n none (T.n none T.e (T.n (some (AV.tup [])) T.e T.e)) (T.n (some (AV.i IntKind.i64 (4 : Int))) (T.n (some (AV.sv 1 (ll ix) fun i x
  => CV.i IntKind.u8 (nb ix i))) T.e T.e) T.e))) (T.n none (T.n none (T.n none T.e (T.n (some (AV.tup [])) T.e T.e)) (T.n none (T.n (some (AV.p 0 0)) T.e T.e) T.e)) (T.n none (T.n
  none T.e (T.n (some (AV.tup [])) T.e T.e)) T.e)))) (T.n none (T.n (some (AV.p 0 0)) (T.n (some (AV.i IntKind.i64 br)) (T.n none (T.n none T.e (T.n (some (AV.i IntKind.i64 (SS.rdE
  s (Int.ofNat ix)))) T.e T.e)) (T.n none T.e (T.n (some (AV.tup [])) T.e T.e))) (T.n none (T.n none T.e (T.n (some (AV.tup [])) T.e T.e)) (T.n none (T.n (some (AV.i IntKind.i64
  (Int.ofNat ix))) T.e T.e) T.e))) (T.n (some (AV.lr 4 1 0 (SS.rdN s (Int.ofNat ix)) true)) (T.n none (T.n none T.e (T.n (some (AV.tup [])) T.e T.e)) T.e) (T.n none (T.n none T.e
  (T.n (some (AV.tup [])) T.e T.e)) T.e))) (T.n (some (AV.sv 1 4 (lsF lw wb))) (T.n none (T.n none (T.n none T.e (T.n (some (AV.tup [])) T.e T.e)) T.e) (T.n none (T.n none T.e (T.n
  (some (AV.tup [])) T.e T.e)) (T.n none (T.n (some (AV.b (decide (Int.ofNat (ll ix) = (0 : Int))))) T.e T.e) T.e))) (T.n none (T.n none (T.n none T.e (T.n (some (AV.b true)) T.e
  T.e)) (T.n none (T.n (some (AV.tup [AV.lr 4 1 0 (SS.rdN s (Int.ofNat ix)) true, AV.i IntKind.i64 (SS.rdE s (Int.ofNat ix))])) T.e T.e) T.e)) (T.n none (T.n none T.e (T.n (some
  (AV.tup [])) T.e T.e)) T.e))))) (T.n none (T.n none (T.n (some (AV.b tt)) (T.n (some (AV.sv 1 4 (lsF ll nb))) (T.n none (T.n none T.e (T.n (some (AV.b !goodF (bytesF (ll ix) fun j
  x => CV.i IntKind.u8 (nb ix j)) (lnF (lw ix)) (bbF (wb ix) I2 F2 ix L) (natsEq (bytesF (ll ix) fun i x => CV.i IntKind.u8 (nb ix i)) (bytesF (lw ix) fun i x => CV.i IntKind.u8 (wb
  ix i))) (bcN I2 ix L))) T.e T.e)) (T.n none T.e (T.n (some (AV.tup [])) T.e T.e))) (T.n none (T.n none T.e (T.n (some (AV.tup [])) T.e T.e)) (T.n none (T.n (some (AV.sv 1 4 (lsF
  ll nb))) T.e T.e) T.e))) (T.n none (T.n none (T.n none T.e (T.n (some (AV.tup [])) T.e T.e)) T.e) (T.n none (T.n none T.e (T.n (some (AV.tup [])) T.e T.e)) T.e))) (T.n none (T.n
  none (T.n none (T.n none T.e (T.n (some (AV.b !decide (SS.rdE s (Int.ofNat ix) = (0 : Int)))) T.e T.e)) T.e) (T.n none (T.n none T.e (T.n (some (AV.tup [])) T.e T.e)) (T.n (some
  (AV.i IntKind.i64 (Int.ofNat ix))) (T.n (some (AV.i IntKind.i64 (Int.ofNat (ll ix)))) T.e T.e) T.e))) (T.n none (T.n none (T.n none T.e (T.n (some (AV.tup [])) T.e T.e)) (T.n none
  (T.n (some (AV.i IntKind.i64 (Int.ofNat ix))) T.e T.e) T.e)) (T.n none (T.n none T.e (T.n (some (AV.tup [])) T.e T.e)) T.e)))) (T.n (some (AV.b false)) (T.n none (T.n (some (AV.i
  IntKind.i64 (Int.ofNat ix))) (T.n none (T.n none T.e (T.n (some (AV.b !decide (SS.rdE s (Int.ofNat ix) = (0 : Int)))) T.e T.e)) (T.n none T.e (T.n (some (AV.b true)) T.e T.e)))
  (T.n none (T.n none T.e (T.n (some (AV.tup [])) T.e T.e)) (T.n none (T.n (some (AV.pv 1 (lsF ll nb ix))) T.e T.e) T.e))) (T.n (some (AV.i IntKind.i64 (SS.rdE s (Int.ofNat ix))))
  (T.n none (T.n none T.e (T.n (some (AV.tup [])) T.e T.e)) (T.n none (T.n (some (AV.tup [AV.lr 4 1 0 (SS.rdN s (Int.ofNat ix)) true, AV.i IntKind.i64 (SS.rdE s (Int.ofNat ix))]))
  T.e T.e) T.e)) (T.n none (T.n none T.e (T.n (some (AV.tup [])) T.e T.e)) T.e))) (T.n none (T.n none (T.n none (T.n none T.e (T.n (some (AV.tup [])) T.e T.e)) T.e) (T.n none (T.n
  none T.e (T.n (some (AV.tup [])) T.e T.e)) T.e)) (T.n none (T.n none (T.n none T.e (T.n (some (AV.b true)) T.e T.e)) (T.n none (T.n (some (AV.lr 4 1 0 (SS.rdN s (Int.ofNat ix))
  true)) T.e T.e) T.e)) (T.n none (T.n none T.e (T.n (some (AV.tup [])) T.e T.e)) (T.n none (T.n (some (AV.b (goodF (bytesF (ll ix) fun j x => CV.i IntKind.u8 (nb ix j)) (lnF (lw
  ix)) (bbF (wb ix) I2 F2 ix L) (natsEq (bytesF (ll ix) fun i x => CV.i IntKind.u8 (nb ix i)) (bytesF (lw ix) fun i x => CV.i IntKind.u8 (wb ix i))) (bcN I2 ix L)))) T.e T.e)
  T.e))))))) { tree := T.n (some (AObj.segs 73 33799 [{ st := 0, sz := 1, n := 1, f := oneF (CV.i IntKind.i64 (Int.ofNat (SS.n s))) }, { st := 1, sz := 65, n := 512, f := durF (SS.dur s) (SS.torn s) }, { st := 33281, sz := 1, n := 1, f := oneF (CV.opv (pB (SS.P s)) 66 (pW (SS.P s))) }, { st := 33282, sz := 1, n := 512, f := latF (lB (SS.P s)) (lW (SS.P s)) }, { st := 33794, sz := 5, n := 1, f := tailF (Int.ofNat (List.length (SS.P s))) (Int.ofNat (SS.wr s)) (SS.off s) (SS.armed s) (Int.ofNat (SS.left s)) }])) (T.n none (T.n none T.e T.e) T.e) (T.n none (T.n (some (AObj.rows 64 1 (SS.rdN s (Int.ofNat ix)) fun k x => CV.i IntKind.u8 (SS.rdB s (Int.ofNat ix) k))) T.e T.e) T.e), next := 5, log := [4, 3, 2, 0, 2, 1, 0, 1] })
  Orc.z)) ∧ ((!!goodF (bytesF (ll ix) fun j x => CV.i IntKind.u8 (nb ix j)) (lnF (lw ix)) (bbF (wb ix) I2 F2 ix L) (natsEq (bytesF (ll ix) fun i x => CV.i IntKind.u8 (nb ix i))
  (bytesF (lw ix) fun i x => CV.i IntKind.u8 (wb ix i))) (bcN I2 ix L)) = false → (!!goodF (bytesF (ll ix) fun j x => CV.i IntKind.u8 (nb ix j)) (lnF (lw ix)) (bbF (wb ix) I2 F2 ix
  L) (natsEq (bytesF (ll ix) fun i x => CV.i IntKind.u8 (nb ix i)) (bytesF (lw ix) fun i x => CV.i IntKind.u8 (wb ix i))) (bcN I2 ix L)) = false ∧ (!goodF (bytesF (ll ix) fun j x =>
  CV.i IntKind.u8 (nb ix j)) (lnF (lw ix)) (bbF (wb ix) I2 F2 ix L) (natsEq (bytesF (ll ix) fun i x => CV.i IntKind.u8 (nb ix i)) (bytesF (lw ix) fun i x => CV.i IntKind.u8 (wb ix
  i))) (bcN I2 ix L)) = true ∧ K (Res.st XO.ret (T.n none (T.n (some (AV.sv 5 L (opF K2 I2 F2 N2 T2))) (T.n none (T.n (some (AV.i IntKind.i64 kk)) (T.n none (T.n none (T.n none T.e
  (T.n (some (AV.b !goodF (bytesF (ll ix) fun j x => CV.i IntKind.u8 (nb ix j)) (lnF (lw ix)) (bbF (wb ix) I2 F2 ix L) (natsEq (bytesF (ll ix) fun i x => CV.i IntKind.u8 (nb ix i))
  (bytesF (lw ix) fun i x => CV.i IntKind.u8 (wb ix i))) (bcN I2 ix L))) T.e T.e)) (T.n none T.e (T.n (some (AV.tup [])) T.e T.e))) (T.n none (T.n none T.e (T.n (some (AV.tup []))
  T.e T.e)) (T.n none (T.n (some (AV.i IntKind.i64 (SS.rdE s (Int.ofNat ix)))) T.e T.e) T.e))) (T.n none (T.n none (T.n none T.e (T.n (some (AV.tup [])) T.e T.e)) T.e) (T.n none
  (T.n none T.e (T.n (some (AV.tup [])) T.e T.e)) T.e))) (T.n none (T.n (some (AV.b (goodF (bytesF (ll ix) fun j x => CV.i IntKind.u8 (nb ix j)) (lnF (lw ix)) (bbF (wb ix) I2 F2 ix
  L) (natsEq (bytesF (ll ix) fun i x => CV.i IntKind.u8 (nb ix i)) (bytesF (lw ix) fun i x => CV.i IntKind.u8 (wb ix i))) (bcN I2 ix L)))) (T.n none (T.n none T.e (T.n (some (AV.b
  true)) T.e T.e)) T.e) (T.n none (T.n none T.e (T.n (some (AV.tup [])) T.e T.e)) (T.n (some (AV.i IntKind.i64 (4 : Int))) (T.n (some (AV.sv 1 (ll ix) fun i x => CV.i IntKind.u8 (nb
  ix i))) T.e T.e) T.e))) (T.n none (T.n none (T.n none T.e (T.n (some (AV.tup [])) T.e T.e)) (T.n none (T.n (some (AV.p 0 0)) T.e T.e) T.e)) (T.n none (T.n none T.e (T.n (some
  (AV.tup [])) T.e T.e)) T.e)))) (T.n none (T.n (some (AV.p 0 0)) (T.n (some (AV.i IntKind.i64 br)) (T.n none (T.n none T.e (T.n (some (AV.tup [])) T.e T.e)) (T.n none T.e (T.n
  (some (AV.tup [])) T.e T.e))) (T.n none (T.n none T.e (T.n (some (AV.tup [])) T.e T.e)) (T.n none (T.n (some (AV.i IntKind.i64 (Int.ofNat ix))) T.e T.e) T.e))) (T.n (some (AV.lr 4
  1 0 (SS.rdN s (Int.ofNat ix)) true)) (T.n none (T.n none T.e (T.n (some (AV.tup [])) T.e T.e)) T.e) (T.n none (T.n none T.e (T.n (some (AV.tup [])) T.e T.e)) T.e))) (T.n (some
  (AV.sv 1 4 (lsF lw wb))) (T.n none (T.n none (T.n none T.e (T.n (some (AV.tup [])) T.e T.e)) T.e) (T.n none (T.n none T.e (T.n (some (AV.tup [])) T.e T.e)) (T.n none (T.n (some
  (AV.b (decide (Int.ofNat (ll ix) = (0 : Int))))) T.e T.e) T.e))) (T.n none (T.n none (T.n none T.e (T.n (some (AV.b true)) T.e T.e)) (T.n none (T.n (some (AV.tup [AV.lr 4 1 0
  (SS.rdN s (Int.ofNat ix)) true, AV.i IntKind.i64 (SS.rdE s (Int.ofNat ix))])) T.e T.e) T.e)) (T.n none (T.n none T.e (T.n (some (AV.tup [])) T.e T.e)) T.e))))) (T.n none (T.n none
  (T.n (some (AV.b tt)) (T.n (some (AV.sv 1 4 (lsF ll nb))) (T.n none (T.n none T.e (T.n (some (AV.b !goodF (bytesF (ll ix) fun j x => CV.i IntKind.u8 (nb ix j)) (lnF (lw ix)) (bbF
  (wb ix) I2 F2 ix L) (natsEq (bytesF (ll ix) fun i x => CV.i IntKind.u8 (nb ix i)) (bytesF (lw ix) fun i x => CV.i IntKind.u8 (wb ix i))) (bcN I2 ix L))) T.e T.e)) (T.n none T.e
  (T.n (some (AV.tup [])) T.e T.e))) (T.n none (T.n none T.e (T.n (some (AV.tup [])) T.e T.e)) (T.n none (T.n (some (AV.sv 1 4 (lsF ll nb))) T.e T.e) T.e))) (T.n none (T.n none (T.n
  none T.e (T.n (some (AV.tup [])) T.e T.e)) T.e) (T.n none (T.n none T.e (T.n (some (AV.tup [])) T.e T.e)) T.e))) (T.n none (T.n none (T.n none (T.n none T.e (T.n (some (AV.b
  true)) T.e T.e)) T.e) (T.n none (T.n none T.e (T.n (some (AV.tup [])) T.e T.e)) (T.n (some (AV.i IntKind.i64 (Int.ofNat ix))) (T.n (some (AV.i IntKind.i64 (Int.ofNat (ll ix))))
  T.e T.e) T.e))) (T.n none (T.n none (T.n none T.e (T.n (some (AV.tup [])) T.e T.e)) (T.n none (T.n (some (AV.i IntKind.i64 (Int.ofNat ix))) T.e T.e) T.e)) (T.n none (T.n none T.e
  (T.n (some (AV.tup [])) T.e T.e)) T.e)))) (T.n (some (AV.b false)) (T.n none (T.n (some (AV.i IntKind.i64 (Int.ofNat ix))) (T.n none (T.n none T.e (T.n (some (AV.tup [])) T.e
  T.e)) (T.n none T.e (T.n (some (AV.b true)) T.e T.e))) (T.n none (T.n none T.e (T.n (some (AV.tup [])) T.e T.e)) (T.n none (T.n (some (AV.pv 1 (lsF ll nb ix))) T.e T.e) T.e)))
  (T.n (some (AV.i IntKind.i64 (SS.rdE s (Int.ofNat ix)))) (T.n none (T.n none T.e (T.n (some (AV.tup [])) T.e T.e)) (T.n none (T.n (some (AV.tup [AV.lr 4 1 0 (SS.rdN s (Int.ofNat
  ix)) true, AV.i IntKind.i64 (SS.rdE s (Int.ofNat ix))])) T.e T.e) T.e)) (T.n none (T.n none T.e (T.n (some (AV.tup [])) T.e T.e)) T.e))) (T.n none (T.n none (T.n none (T.n none
  T.e (T.n (some (AV.tup [])) T.e T.e)) T.e) (T.n none (T.n none T.e (T.n (some (AV.tup [])) T.e T.e)) T.e)) (T.n none (T.n none (T.n none T.e (T.n (some (AV.b true)) T.e T.e)) (T.n
  none (T.n (some (AV.lr 4 1 0 (SS.rdN s (Int.ofNat ix)) true)) T.e T.e) T.e)) (T.n none (T.n none T.e (T.n (some (AV.tup [])) T.e T.e)) (T.n none (T.n (some (AV.b (goodF (bytesF
  (ll ix) fun j x => CV.i IntKind.u8 (nb ix j)) (lnF (lw ix)) (bbF (wb ix) I2 F2 ix L) (natsEq (bytesF (ll ix) fun i x => CV.i IntKind.u8 (nb ix i)) (bytesF (lw ix) fun i x => CV.i
  IntKind.u8 (wb ix i))) (bcN I2 ix L)))) T.e T.e) T.e))))))) { tree := T.n (some (AObj.segs 73 33799 [{ st := 0, sz := 1, n := 1, f := oneF (CV.i IntKind.i64 (Int.ofNat (SS.n s))) }, { st := 1, sz := 65, n := 512, f := durF (SS.dur s) (SS.torn s) }, { st := 33281, sz := 1, n := 1, f := oneF (CV.opv (pB (SS.P s)) 66 (pW (SS.P s))) }, { st := 33282, sz := 1, n := 512, f := latF (lB (SS.P s)) (lW (SS.P s)) }, { st := 33794, sz := 5, n := 1, f := tailF (Int.ofNat (List.length (SS.P s))) (Int.ofNat (SS.wr s)) (SS.off s) (SS.armed s) (Int.ofNat (SS.left s)) }])) (T.n none (T.n none T.e T.e) T.e) (T.n none (T.n (some (AObj.rows 64 1 (SS.rdN s (Int.ofNat ix)) fun k x => CV.i IntKind.u8 (SS.rdB s (Int.ofNat ix) k))) T.e T.e) T.e), next := 5, log := [4, 3, 2, 0, 2, 1, 0, 1] })
  Orc.z))) ∧ (decide (Int.ofNat ix < (4 : Int)) = false → K (Res.st (XO.exit 4) (T.n none (T.n (some (AV.sv 5 L (opF K2 I2 F2 N2 T2))) (T.n none (T.n (some (AV.i IntKind.i64 kk))
  T.e T.e) (T.n none (T.n none T.e (T.n none T.e (T.n (some (AV.i IntKind.i64 (4 : Int))) T.e T.e))) T.e)) (T.n none (T.n (some (AV.p 0 0)) (T.n (some (AV.i IntKind.i64 br)) T.e
  T.e) T.e) (T.n (some (AV.sv 1 4 (lsF lw wb))) (T.n none T.e (T.n none T.e (T.n (some (AV.b (decide (Int.ofNat ix < (4 : Int))))) T.e T.e))) T.e))) (T.n none (T.n none (T.n (some
  (AV.b tt)) (T.n (some (AV.sv 1 4 (lsF ll nb))) T.e T.e) T.e) (T.n none (T.n none T.e (T.n none T.e (T.n (some (AV.i IntKind.i64 (Int.ofNat ix))) T.e T.e))) T.e)) T.e)) { tree := T.n (some (AObj.segs 73 33799 [{ st := 0, sz := 1, n := 1, f := oneF (CV.i IntKind.i64 (Int.ofNat (SS.n s))) }, { st := 1, sz := 65, n := 512, f := durF (SS.dur s) (SS.torn s) }, { st := 33281, sz := 1, n := 1, f := oneF (CV.opv (pB (SS.P s)) 66 (pW (SS.P s))) }, { st := 33282, sz := 1, n := 512, f := latF (lB (SS.P s)) (lW (SS.P s)) }, { st := 33794, sz := 5, n := 1, f := tailF (Int.ofNat (List.length (SS.P s))) (Int.ofNat (SS.wr s)) (SS.off s) (SS.armed s) (Int.ofNat (SS.left s)) }])) T.e T.e, next := 1, log := [] })
  Orc.z)) := by kernel_rfl

theorem u8_nn (n : Int) : ∃ k : Nat, wrapA .u8 n = Int.ofNat k := by
  cases n with
  | ofNat m => exact ⟨m % 256, rfl⟩
  | negSucc m =>
    have h : 0 ≤ wrapA .u8 (Int.negSucc m) := by
      rw [wrapA_eq]
      show 0 ≤ IntKind.u8.wrap (Int.negSucc m)
      simp [IntKind.wrap, IntKind.signed, IntKind.bits]
      try omega
    exact ⟨(wrapA .u8 (Int.negSucc m)).toNat, by simp; omega⟩
theorem fB_u8 (c : Int) : U8l (fB c) := fun k => u8_nn _
theorem bbF_u8 {w0 : Nat → Int} {I F : Nat → Int} {i : Nat} (h : U8l w0) : ∀ L k, U8l (bbF w0 I F i L k)
  | 0, k => h
  | L + 1, k => by
    show U8l ((bif decide (I L = Int.ofNat i) then fun j => bif Nat.blt j (bcN I i L) then bbF w0 I F i L j else fB (F L) else bbF w0 I F i L) k)
    cases decide (I L = Int.ofNat i)
    · exact bbF_u8 h L k
    · show U8l (bif Nat.blt k (bcN I i L) then bbF w0 I F i L k else fB (F L))
      cases Nat.blt k (bcN I i L)
      · exact fB_u8 _
      · exact bbF_u8 h L k
theorem natsEq_self (a : List Nat) : natsEq a a = true := (natsEq_iff a a).2 rfl

theorem cc1 : (true == true) = true := rfl
theorem cc2 : (true == false) = false := rfl
theorem cc3 : (false == true) = false := rfl
theorem cc4 : (false == false) = true := rfl
noncomputable def nowT (L ix : Nat) (lw : Nat → Nat) (wb : Nat → Nat → Int) (ll : Nat → Nat) (nb : Nat → Nat → Int) (K2 I2 F2 N2 : Nat → Int) (T2 : Nat → Bool) (kk br : Int) (tt : Bool) : List (Nat × AV) :=
  [(1, .sv 5 L (opF K2 I2 F2 N2 T2)), (7, .i .i64 kk), (8, .b tt), (9, .p 0 0), (13, .sv 1 4 (lsF lw wb)), (16, .sv 1 4 (lsF ll nb)), (17, .i .i64 br), (115, .i .i64 4), (116, .i .i64 (Int.ofNat ix))]

theorem now_torn (s : SS) (L ix : Nat) (lw : Nat → Nat) (wb : Nat → Nat → Int) (ll : Nat → Nat) (nb : Nat → Nat → Int) (K2 I2 F2 N2 : Nat → Int) (T2 : Nat → Bool) (kk br : Int) (tt : Bool)
    (hL : L ≤ 1000) (hi : ix < 4) (hl : ll ix = 0) (hn : s.n ≤ 512) (hR : s.rdE (Int.ofNat ix) = 14) (ht : tt = true) (u1 : ∀ k, U8l (wb k)) (u2 : ∀ k, U8l (nb k)) (hb : 0 ≤ br ∧ br ≤ 100) :
    ∃ o, ∀ K, (∀ tm1 H1, StIs 1 [0] [] tm1 H1 (nowT L (ix + 1) lw wb ll nb K2 I2 F2 N2 T2 kk (br + 1) tt) [some s.o] → K (.st .nrm tm1 H1) Orc.z) → runK Try.prog 1000000 (.code (loopAt Try.prog 6 2) 230 (mkT (nowT L ix lw wb ll nb K2 I2 F2 N2 T2 kk br tt)) (mkH [some s.o])) o K := by
  refine ⟨_, fun K hK => (nowL_vc s L ix lw wb ll nb K2 I2 F2 N2 T2 kk br tt K).mpr ?_⟩
  subst ht
  have hix : decide (Int.ofNat ix < 4) = true := by simp; omega
  have hl0 : decide (Int.ofNat (ll ix) = 0) = true := by rw [hl]; rfl
  have hE : decide (s.rdE (Int.ofNat ix) = 14) = true := by rw [hR]; rfl
  have b2 : (0 : Int) ≤ Int.ofNat ix ∧ Int.ofNat ix < 4 := ⟨by simp, by simp; omega⟩
  have b1 : (-9223372036854775808 : Int) ≤ Int.ofNat ix + 1 ∧ Int.ofNat ix + 1 ≤ 9223372036854775807 := ⟨by simp; omega, by simp; omega⟩
  have b3 : (-9223372036854775808 : Int) ≤ br + 1 ∧ br + 1 ≤ 9223372036854775807 := ⟨by omega, by omega⟩
  have hp := bcN_pos I2 ix L
  have c1 := bs_lp s L ix ix (lw ix) (wb ix) lw wb ll nb K2 I2 F2 N2 T2 kk br true (natsEq (bytesF (ll ix) fun i x => CV.i .u8 (nb ix i)) (bytesF (lw ix) fun i x => CV.i .u8 (wb ix i))) hL
  have c2 := gd_lp s L ix ix (bcN I2 ix L) (lnF (lw ix)) (bbF (wb ix) I2 F2 ix L) lw wb ll nb K2 I2 F2 N2 T2 kk br true (natsEq (bytesF (ll ix) fun i x => CV.i .u8 (nb ix i)) (bytesF (lw ix) fun i x => CV.i .u8 (wb ix i))) hi (by omega) (bbF_u8 (u1 ix) L) u2
  have c3 := read_con s (Int.ofNat ix) hn
  simp only [hix, hl0, hE, Bool.not_true, Bool.not_false, reduceCtorEq, beq_self_eq_true, false_implies, true_implies, and_true, true_and, Bool.true_eq_false, Bool.false_eq_true, cc1, cc2, cc3, cc4, decide_true, decide_false]
  exact ⟨b2, (u2 ix).u8s _, b2, (u1 ix).u8s _, b2, c1, c2, c3, b2, b3, b1, hK _ _ (st_is [0] (by kernel_rfl) rfl rfl rfl ⟨by kernel_rfl, by kernel_rfl, trivial⟩ rfl)⟩

theorem now_ok (s : SS) (L ix : Nat) (lw : Nat → Nat) (wb : Nat → Nat → Int) (ll : Nat → Nat) (nb : Nat → Nat → Int) (K2 I2 F2 N2 : Nat → Int) (T2 : Nat → Bool) (kk br : Int) (tt : Bool)
    (hL : L ≤ 1000) (hi : ix < 4) (hl : ll ix = 64) (hw : lw ix = 64) (hn : s.n ≤ 512) (hR : s.rdE (Int.ofNat ix) = 0) (hB : s.rdB (Int.ofNat ix) = nb ix) (u1 : ∀ k, U8l (wb k)) (u2 : ∀ k, U8l (nb k)) (hk : kk ≤ 9223372036854775807)
    (hG : nb ix = wb ix ∨ ∃ j, j < L ∧ I2 j = Int.ofNat ix ∧ nb ix = fB (F2 j)) (hS : tt = false → (lstS I2 F2 (Int.ofNat ix) ⟨kk, 64, wb ix⟩ L).n = 64 ∧ (lstS I2 F2 (Int.ofNat ix) ⟨kk, 64, wb ix⟩ L).b = nb ix) :
    ∃ o, ∀ K, (∀ tm1 H1, StIs 1 [0] [] tm1 H1 (nowT L (ix + 1) lw wb ll nb K2 I2 F2 N2 T2 kk br tt) [some s.o] → K (.st .nrm tm1 H1) Orc.z) → runK Try.prog 1000000 (.code (loopAt Try.prog 6 2) 230 (mkT (nowT L ix lw wb ll nb K2 I2 F2 N2 T2 kk br tt)) (mkH [some s.o])) o K := by
  refine ⟨_, fun K hK => (nowL_vc s L ix lw wb ll nb K2 I2 F2 N2 T2 kk br tt K).mpr ?_⟩
  have hix : decide (Int.ofNat ix < 4) = true := by simp; omega
  have hl0 : decide (Int.ofNat (ll ix) = 0) = false := by rw [hl]; rfl
  have hE : decide (s.rdE (Int.ofNat ix) = 0) = true := by rw [hR]; rfl
  have hN := SS.rdN_64 hR
  have b2 : (0 : Int) ≤ Int.ofNat ix ∧ Int.ofNat ix < 4 := ⟨by simp, by simp; omega⟩
  have b1 : (-9223372036854775808 : Int) ≤ Int.ofNat ix + 1 ∧ Int.ofNat ix + 1 ≤ 9223372036854775807 := ⟨by simp; omega, by simp; omega⟩
  have hp := bcN_pos I2 ix L
  have c1 := bs_lp s L ix ix (lw ix) (wb ix) lw wb ll nb K2 I2 F2 N2 T2 kk br tt (natsEq (bytesF (ll ix) fun i x => CV.i .u8 (nb ix i)) (bytesF (lw ix) fun i x => CV.i .u8 (wb ix i))) hL
  have c2 := gd_lp s L ix ix (bcN I2 ix L) (lnF (lw ix)) (bbF (wb ix) I2 F2 ix L) lw wb ll nb K2 I2 F2 N2 T2 kk br tt (natsEq (bytesF (ll ix) fun i x => CV.i .u8 (nb ix i)) (bytesF (lw ix) fun i x => CV.i .u8 (wb ix i))) hi (by omega) (bbF_u8 (u1 ix) L) u2
  have c3 := read_con s (Int.ofNat ix) hn
  have c4 := last_con L (lw ix) (wb ix) K2 I2 F2 N2 T2 (Int.ofNat ix) kk (by omega) hk
  have hGd : goodF (bytesF (ll ix) fun j x => CV.i .u8 (nb ix j)) (lnF (lw ix)) (bbF (wb ix) I2 F2 ix L) (natsEq (bytesF (ll ix) fun i x => CV.i .u8 (nb ix i)) (bytesF (lw ix) fun i x => CV.i .u8 (wb ix i))) (bcN I2 ix L) = true := by
    refine goodF_of ?_
    rcases hG with h | ⟨j, j1, j2, j3⟩
    · left; rw [hl, hw, h]; exact natsEq_self _
    · right
      obtain ⟨r, r1, r2, r3⟩ := bb_has (wb ix) I2 F2 ix L j j1 j2
      obtain ⟨q, rfl⟩ : ∃ q, r = q + 1 := ⟨r - 1, by omega⟩
      refine ⟨q + 1, r2, ?_⟩
      rw [r3, hl, j3]; exact natsEq_self _
  rw [hGd] at c2
  have hN1 : natsEq (bytesF (s.rdN (Int.ofNat ix)) fun k x => CV.i .u8 (s.rdB (Int.ofNat ix) k)) (bytesF (ll ix) fun i x => CV.i .u8 (nb ix i)) = true := by
    rw [hN, hl, hB]; exact natsEq_self _
  have u3 : U8s (s.rdN (Int.ofNat ix)) fun k x => CV.i .u8 (s.rdB (Int.ofNat ix) k) := by rw [hB]; exact (u2 ix).u8s _
  have i3 : 0 + s.rdN (Int.ofNat ix) ≤ s.rdN (Int.ofNat ix) := by omega
  cases tt with
  | true =>
    simp only [hix, hl0, hE, hGd, hN1, Bool.not_true, Bool.not_false, reduceCtorEq, beq_self_eq_true, false_implies, true_implies, and_true, true_and, Bool.true_eq_false, Bool.false_eq_true, cc1, cc2, cc3, cc4, decide_true, decide_false]
    exact ⟨b2, (u2 ix).u8s _, b2, (u1 ix).u8s _, b2, c1, c2, c3, b2, ⟨u3, i3⟩, b2, (u2 ix).u8s _, b1, hK _ _ (st_is [0] (by kernel_rfl) rfl rfl rfl ⟨by kernel_rfl, by kernel_rfl, trivial⟩ rfl)⟩
  | false =>
    obtain ⟨s1, s2⟩ := hS rfl
    rw [← hw] at s1 s2
    have hN2 : natsEq (bytesF (ll ix) fun i x => CV.i .u8 (nb ix i)) (bytesF (lstS I2 F2 (Int.ofNat ix) { kp := kk, n := lw ix, b := wb ix } L).n fun j x => CV.i .u8 ((lstS I2 F2 (Int.ofNat ix) { kp := kk, n := lw ix, b := wb ix } L).b j)) = true := by
      rw [s1, s2, hl, hw]; exact natsEq_self _
    have u4 : U8s (lstS I2 F2 (Int.ofNat ix) { kp := kk, n := lw ix, b := wb ix } L).n fun j x => CV.i .u8 ((lstS I2 F2 (Int.ofNat ix) { kp := kk, n := lw ix, b := wb ix } L).b j) := by rw [s2]; exact (u2 ix).u8s _
    simp only [hix, hl0, hE, hGd, hN1, hN2, Bool.not_true, Bool.not_false, reduceCtorEq, beq_self_eq_true, false_implies, true_implies, and_true, true_and, Bool.true_eq_false, Bool.false_eq_true, cc1, cc2, cc3, cc4, decide_true, decide_false]
    exact ⟨b2, (u2 ix).u8s _, b2, (u1 ix).u8s _, b2, c1, c2, c3, b2, ⟨u3, i3⟩, b2, (u2 ix).u8s _, b2, (u2 ix).u8s _, b2, c4, u4, b1, hK _ _ (st_is [0] (by kernel_rfl) rfl rfl rfl ⟨by kernel_rfl, by kernel_rfl, trivial⟩ rfl)⟩

theorem now_end (s : SS) (L : Nat) (lw : Nat → Nat) (wb : Nat → Nat → Int) (ll : Nat → Nat) (nb : Nat → Nat → Int) (K2 I2 F2 N2 : Nat → Int) (T2 : Nat → Bool) (kk br : Int) (tt : Bool) :
    ∃ o, ∀ K, (∀ tm1 H1, StIs 1 [0] [] tm1 H1 [(9, .p 0 0), (17, .i .i64 br)] [some s.o] → K (.st (.exit 4) tm1 H1) Orc.z) → runK Try.prog 1000000 (.code (loopAt Try.prog 6 2) 230 (mkT (nowT L 4 lw wb ll nb K2 I2 F2 N2 T2 kk br tt)) (mkH [some s.o])) o K := by
  refine ⟨_, fun K hK => (nowL_vc s L 4 lw wb ll nb K2 I2 F2 N2 T2 kk br tt K).mpr ⟨fun hlt => by simp at hlt, fun _ => ?_⟩⟩
  exact hK _ _ (st_is [0] (by kernel_rfl) rfl rfl rfl ⟨by kernel_rfl, by kernel_rfl, trivial⟩ rfl)

def brN (t : Nat → Bool) : Nat → Nat
  | 0 => 0
  | k + 1 => bif t k then brN t k + 1 else brN t k
theorem brN_le (t : Nat → Bool) : ∀ k, brN t k ≤ k
  | 0 => Nat.le_refl _
  | k + 1 => by
    have := brN_le t k
    show (bif t k then brN t k + 1 else brN t k) ≤ k + 1
    cases t k <;> simp <;> omega

/-- The loop over the four sectors. -/
theorem now_lp (A s : SS) (L : Nat) (K2 I2 F2 N2 : Nat → Int) (T2 : Nat → Bool) (kk : Int) (tt : Bool)
    (hL : L ≤ 1000) (hA : A.n = 4) (hAt : ∀ i, A.torn i = false) (hn : s.n = 4) (hP : s.P = []) (ho : s.off = false) (u1 : ∀ k, U8l (A.dur k)) (u2 : ∀ k, U8l (s.dur k)) (hk : kk ≤ 9223372036854775807)
    (ht : ∀ i, i < 4 → s.torn i = true → tt = true)
    (hG : ∀ i, i < 4 → s.torn i = false → s.dur i = A.dur i ∨ ∃ j, j < L ∧ I2 j = Int.ofNat i ∧ s.dur i = fB (F2 j))
    (hS : ∀ i, i < 4 → tt = false → (lstS I2 F2 (Int.ofNat i) ⟨kk, 64, A.dur i⟩ L).n = 64 ∧ (lstS I2 F2 (Int.ofNat i) ⟨kk, 64, A.dur i⟩ L).b = s.dur i) :
    LDoes Try.prog (loopAt Try.prog 6 2) 230 1 (mkT [(1, .sv 5 L (opF K2 I2 F2 N2 T2)), (7, .i .i64 kk), (8, .b tt), (9, .p 0 0), (13, .sv 1 A.n (imgF A)), (16, .sv 1 s.n (imgF s)), (17, .i .i64 0), (115, .i .i64 (Int.ofNat s.n)), (116, .i .i64 0)]) [some s.o]
      (.exit 4) (mkT [(9, .p 0 0), (17, .i .i64 (Int.ofNat (brN s.torn 4)))]) [some s.o] := by
  rw [hA, hn]
  refine loop_indV (D := Nat) (l' := [(9, .p 0 0), (17, .i .i64 (Int.ofNat (brN s.torn 4)))]) (fun i => (nowT L i (fun k => bif A.torn k then 0 else 64) A.dur (fun k => bif s.torn k then 0 else 64) s.dur K2 I2 F2 N2 T2 kk (Int.ofNat (brN s.torn i)) tt, [some s.o])) (fun i => 4 - i) (fun i => i ≤ 4) ?_ 0 (Nat.zero_le _)
  intro i hi
  refine ⟨Nat.le_refl 1, 1000000, ?_⟩
  have hlB : lB s.P i = false := by rw [hP]; rfl
  by_cases hlt : i < 4
  · have hin : decide (0 ≤ Int.ofNat i ∧ Int.ofNat i < Int.ofNat s.n) = true := by rw [hn]; simp; omega
    have hb := brN_le s.torn i
    cases e : s.torn i with
    | true =>
      have hR : s.rdE (Int.ofNat i) = 14 := by
        unfold SS.rdE; rw [ho, hin]; simp only [Int.ofNat_eq_natCast, Int.toNat_natCast, hlB, e]
      have eb : brN s.torn (i + 1) = brN s.torn i + 1 := by
        show (bif s.torn i then brN s.torn i + 1 else brN s.torn i) = _; rw [e]; rfl
      obtain ⟨o, h⟩ := now_torn s L i (fun k => bif A.torn k then 0 else 64) A.dur (fun k => bif s.torn k then 0 else 64) s.dur K2 I2 F2 N2 T2 kk (Int.ofNat (brN s.torn i)) tt hL hlt (by simp only [e]; rfl) (by omega) hR (ht i hlt e) u1 u2 ⟨by simp, by simp; omega⟩
      refine ⟨o, h _ fun tm1 H1 hst => .inl ⟨i + 1, [0], [], tm1, H1, _, _, hlt, by simp only; omega, rfl, hst, ?_, OVL.refl _⟩⟩
      simp only; rw [eb]; exact .refl _
    | false =>
      have hR : s.rdE (Int.ofNat i) = 0 := by
        unfold SS.rdE; rw [ho, hin]; simp only [Int.ofNat_eq_natCast, Int.toNat_natCast, hlB, e]
      have hB : s.rdB (Int.ofNat i) = s.dur i := by
        unfold SS.rdB; simp only [Int.ofNat_eq_natCast, Int.toNat_natCast, hlB]
      have eb : brN s.torn (i + 1) = brN s.torn i := by
        show (bif s.torn i then brN s.torn i + 1 else brN s.torn i) = _; rw [e]; rfl
      obtain ⟨o, h⟩ := now_ok s L i (fun k => bif A.torn k then 0 else 64) A.dur (fun k => bif s.torn k then 0 else 64) s.dur K2 I2 F2 N2 T2 kk (Int.ofNat (brN s.torn i)) tt hL hlt (by simp only [e]; rfl) (by simp only [hAt i]; rfl) (by omega) hR hB u1 u2 hk (hG i hlt e) (hS i hlt)
      refine ⟨o, h _ fun tm1 H1 hst => .inl ⟨i + 1, [0], [], tm1, H1, _, _, hlt, by simp only; omega, rfl, hst, ?_, OVL.refl _⟩⟩
      simp only; rw [eb]; exact .refl _
  · obtain rfl : i = 4 := by omega
    obtain ⟨o, h⟩ := now_end s L (fun k => bif A.torn k then 0 else 64) A.dur (fun k => bif s.torn k then 0 else 64) s.dur K2 I2 F2 N2 T2 kk (Int.ofNat (brN s.torn 4)) tt
    exact ⟨o, h _ fun tm1 H1 hst => .inr ⟨[0], [], tm1, H1, _, _, rfl, by simp, hst, .refl _, OVL.refl _⟩⟩

end Go.Proofs.St

set_option maxRecDepth 20000
namespace Go.Proofs.St
open Go Go.Sim Go.Proofs

theorem keeps_vc (L1 L2 : Nat) (K1 I1 F1 N1 K2 I2 F2 N2 : Nat → Int) (T1 T2 : Nat → Bool) (kk : Int) (tt : Bool) (K : Res → Orc → Prop) : runK Try.prog 1000000 (.call 6 [.sv 5 L1
  (opF K1 I1 F1 N1 T1), .sv 5 L2 (opF K2 I2 F2 N2 T2), .agg [.i .i64 kk, .b tt]] (mkH [])) (Orc.cal [] (AV.b true) [] (Orc.c (Orc.cal [] (AV.tup [AV.p 0 0, AV.i IntKind.i64 (0 :
  Int)]) [Upd.set (SS.o (SS.new 4))] (Orc.c (Orc.c (Orc.c (Orc.c (Orc.c (Orc.c (Orc.c (Orc.s (Orc.t (Orc.t (Orc.f (Orc.s (Orc.c (Orc.c (Orc.c Orc.z))) (Orc.lop [1] [1, 7, 8, 9, 59,
  60, 61] 1 (XO.exit 0) [(1, AV.sv 5 L2 (opF K2 I2 F2 N2 T2)), (7, AV.i IntKind.i64 kk), (8, AV.b tt), (9, AV.p 0 0)] [some (SS.o (kpS (SS.new 4) I1 F1 L1))] (Orc.cal [1] (AV.i
  IntKind.i64 (SS.faultE (kpS (SS.new 4) I1 F1 L1))) [Upd.set (SS.o (SS.bar (kpS (SS.new 4) I1 F1 L1)))] (Orc.s Orc.z (Orc.cal [1] (AV.sv 1 (SS.n (SS.bar (kpS (SS.new 4) I1 F1 L1)))
  (imgF (SS.bar (kpS (SS.new 4) I1 F1 L1)))) [Upd.keep] (Orc.lop [1] [1, 7, 8, 9, 13, 78, 79, 80] 1 (XO.exit 2) [(1, AV.sv 5 L2 (opF K2 I2 F2 N2 T2)), (7, AV.i IntKind.i64 kk), (8,
  AV.b tt), (9, AV.p 0 0), (13, AV.sv 1 (SS.n (SS.bar (kpS (SS.new 4) I1 F1 L1))) (imgF (SS.bar (kpS (SS.new 4) I1 F1 L1))))] [some (SS.o (kpS (SS.bar (kpS (SS.new 4) I1 F1 L1)) I2
  F2 L2))] (Orc.cal [1] (AV.tup []) [Upd.set (SS.o (SS.fail (kpS (SS.bar (kpS (SS.new 4) I1 F1 L1)) I2 F2 L2)))] (Orc.cal [1] (AV.i IntKind.i64 (SS.revE (SS.fail (kpS (SS.bar (kpS
  (SS.new 4) I1 F1 L1)) I2 F2 L2)))) [Upd.set (SS.o (SS.revived (SS.fail (kpS (SS.bar (kpS (SS.new 4) I1 F1 L1)) I2 F2 L2)) kk tt))] (Orc.c (Orc.c (Orc.cal [1] (AV.i IntKind.i64
  (Int.ofNat (List.length (SS.P (SS.revived (SS.fail (kpS (SS.bar (kpS (SS.new 4) I1 F1 L1)) I2 F2 L2)) kk tt))))) [Upd.keep] (Orc.c (Orc.c (Orc.s Orc.z (Orc.cal [1] (AV.sv 1 (SS.n
  (SS.revived (SS.fail (kpS (SS.bar (kpS (SS.new 4) I1 F1 L1)) I2 F2 L2)) kk tt)) (imgF (SS.revived (SS.fail (kpS (SS.bar (kpS (SS.new 4) I1 F1 L1)) I2 F2 L2)) kk tt))) [Upd.keep]
  (Orc.s (Orc.t (Orc.t (Orc.f (Orc.s Orc.z (Orc.lop [1] [1, 7, 8, 9, 13, 16, 17, 115, 116] 1 (XO.exit 4) [(9, AV.p 0 0), (17, AV.i IntKind.i64 (Int.ofNat (brN (SS.torn (SS.revived
  (SS.fail (kpS (SS.bar (kpS (SS.new 4) I1 F1 L1)) I2 F2 L2)) kk tt)) 4)))] [some (SS.o (SS.revived (SS.fail (kpS (SS.bar (kpS (SS.new 4) I1 F1 L1)) I2 F2 L2)) kk tt))] Orc.z)))))
  (Orc.f (Orc.f (Orc.t (Orc.c Orc.z))))))))))))))))))))))) (Orc.f (Orc.f (Orc.t (Orc.c (Orc.c (Orc.c (Orc.c Orc.z)))))))))))))))))) K = (True ∧ True ∧ Con Try.prog 11 [] [] (AV.b
  true) [] ∧ True ∧ Con Try.prog 9 [AV.i IntKind.i64 (4 : Int)] [] (AV.tup [AV.p 0 0, AV.i IntKind.i64 (0 : Int)]) [Upd.set (SS.o (SS.new 4))] ∧ True ∧ ((!decide ((100 : Int) <
  Int.ofNat L1)) = true → (!decide ((100 : Int) < Int.ofNat L1)) = true ∧ (!decide ((100 : Int) < Int.ofNat L1)) = true ∧ decide ((100 : Int) < Int.ofNat L1) = false ∧ (decide ((100
  : Int) < Int.ofNat L2) = true → True ∧ K (Res.rv (AV.b true) { tree := T.n (some (AObj.cells 57 2 [] (T.n (some (AV.i IntKind.i64 kk)) (T.n (some (AV.b tt)) T.e T.e) T.e))) (T.n (some (AObj.segs 73 33799 [{ st := 0, sz := 1, n := 1, f := oneF (CV.i IntKind.i64 (Int.ofNat (SS.n (SS.new 4)))) }, { st := 1, sz := 65, n := 512, f := durF (SS.dur (SS.new 4)) (SS.torn (SS.new 4)) }, { st := 33281, sz := 1, n := 1, f := oneF (CV.opv (pB (SS.P (SS.new 4))) 66 (pW (SS.P (SS.new 4)))) }, { st := 33282, sz := 1, n := 512, f := latF (lB (SS.P (SS.new 4))) (lW (SS.P (SS.new 4))) }, { st := 33794, sz := 5, n := 1, f := tailF (Int.ofNat (List.length (SS.P (SS.new 4)))) (Int.ofNat (SS.wr (SS.new 4))) (SS.off (SS.new 4)) (SS.armed (SS.new 4)) (Int.ofNat (SS.left (SS.new 4))) }])) T.e T.e) T.e, next := 2, log := [1, 0] })
  Orc.z) ∧ (decide ((100 : Int) < Int.ofNat L2) = false → LDoes Try.prog (loopAt Try.prog 6 0) 230 1 (mkT [(1, AV.sv 5 L2 (opF K2 I2 F2 N2 T2)), (7, AV.i IntKind.i64 kk), (8, AV.b
  tt), (9, AV.p 0 0), (59, AV.sv 5 L1 (opF K1 I1 F1 N1 T1)), (60, AV.i IntKind.i64 (Int.ofNat L1)), (61, AV.i IntKind.i64 (0 : Int))]) [some (SS.o (SS.new 4))] (XO.exit 0) (mkT [(1,
  AV.sv 5 L2 (opF K2 I2 F2 N2 T2)), (7, AV.i IntKind.i64 kk), (8, AV.b tt), (9, AV.p 0 0)]) [some (SS.o (kpS (SS.new 4) I1 F1 L1))] ∧ Con Try.prog 16 [AV.p 0 0] [some (SS.o (kpS
  (SS.new 4) I1 F1 L1))] (AV.i IntKind.i64 (SS.faultE (kpS (SS.new 4) I1 F1 L1))) [Upd.set (SS.o (SS.bar (kpS (SS.new 4) I1 F1 L1)))] ∧ ((!decide (SS.faultE (kpS (SS.new 4) I1 F1
  L1) = (0 : Int))) = true → K (Res.rv (AV.b false) { tree := T.n (some (AObj.cells 57 2 [] (T.n (some (AV.i IntKind.i64 kk)) (T.n (some (AV.b tt)) T.e T.e) T.e))) (T.n (some (AObj.segs 73 33799 [{ st := 0, sz := 1, n := 1, f := oneF (CV.i IntKind.i64 (Int.ofNat (SS.n (SS.bar (kpS (SS.new 4) I1 F1 L1))))) }, { st := 1, sz := 65, n := 512, f := durF (SS.dur (SS.bar (kpS (SS.new 4) I1 F1 L1))) (SS.torn (SS.bar (kpS (SS.new 4) I1 F1 L1))) }, { st := 33281, sz := 1, n := 1, f := oneF (CV.opv (pB (SS.P (SS.bar (kpS (SS.new 4) I1 F1 L1)))) 66 (pW (SS.P (SS.bar (kpS (SS.new 4) I1 F1 L1))))) }, { st := 33282, sz := 1, n := 512, f := latF (lB (SS.P (SS.bar (kpS (SS.new 4) I1 F1 L1)))) (lW (SS.P (SS.bar (kpS (SS.new 4) I1 F1 L1)))) }, { st := 33794, sz := 5, n := 1, f := tailF (Int.ofNat (List.length (SS.P (SS.bar (kpS (SS.new 4) I1 F1 L1))))) (Int.ofNat (SS.wr (SS.bar (kpS (SS.new 4) I1 F1 L1)))) (SS.off (SS.bar (kpS (SS.new 4) I1 F1 L1))) (SS.armed (SS.bar (kpS (SS.new 4) I1 F1 L1))) (Int.ofNat (SS.left (SS.bar (kpS (SS.new 4) I1 F1 L1)))) }])) T.e T.e) T.e, next := 2, log := [1, 1, 1, 0] })
  Orc.z) ∧ ((!decide (SS.faultE (kpS (SS.new 4) I1 F1 L1) = (0 : Int))) = false → Con Try.prog 32 [AV.p 0 0] [some (SS.o (SS.bar (kpS (SS.new 4) I1 F1 L1)))] (AV.sv 1 (SS.n (SS.bar
  (kpS (SS.new 4) I1 F1 L1))) (imgF (SS.bar (kpS (SS.new 4) I1 F1 L1)))) [Upd.keep] ∧ LDoes Try.prog (loopAt Try.prog 6 1) 230 1 (mkT [(1, AV.sv 5 L2 (opF K2 I2 F2 N2 T2)), (7, AV.i
  IntKind.i64 kk), (8, AV.b tt), (9, AV.p 0 0), (13, AV.sv 1 (SS.n (SS.bar (kpS (SS.new 4) I1 F1 L1))) (imgF (SS.bar (kpS (SS.new 4) I1 F1 L1)))), (78, AV.sv 5 L2 (opF K2 I2 F2 N2
  T2)), (79, AV.i IntKind.i64 (Int.ofNat L2)), (80, AV.i IntKind.i64 (0 : Int))]) [some (SS.o (SS.bar (kpS (SS.new 4) I1 F1 L1)))] (XO.exit 2) (mkT [(1, AV.sv 5 L2 (opF K2 I2 F2 N2
  T2)), (7, AV.i IntKind.i64 kk), (8, AV.b tt), (9, AV.p 0 0), (13, AV.sv 1 (SS.n (SS.bar (kpS (SS.new 4) I1 F1 L1))) (imgF (SS.bar (kpS (SS.new 4) I1 F1 L1))))]) [some (SS.o (kpS
  (SS.bar (kpS (SS.new 4) I1 F1 L1)) I2 F2 L2))] ∧ Con Try.prog 20 [AV.p 0 0] [some (SS.o (kpS (SS.bar (kpS (SS.new 4) I1 F1 L1)) I2 F2 L2))] (AV.tup []) [Upd.set (SS.o (SS.fail
  (kpS (SS.bar (kpS (SS.new 4) I1 F1 L1)) I2 F2 L2)))] ∧ Con Try.prog 22 [AV.p 0 0, AV.i IntKind.i64 kk, AV.b tt] [some (SS.o (SS.fail (kpS (SS.bar (kpS (SS.new 4) I1 F1 L1)) I2 F2
  L2)))] (AV.i IntKind.i64 (SS.revE (SS.fail (kpS (SS.bar (kpS (SS.new 4) I1 F1 L1)) I2 F2 L2)))) [Upd.set (SS.o (SS.revived (SS.fail (kpS (SS.bar (kpS (SS.new 4) I1 F1 L1)) I2 F2
  L2)) kk tt))] ∧ Con Try.prog 28 [AV.p 0 0] [some (SS.o (SS.revived (SS.fail (kpS (SS.bar (kpS (SS.new 4) I1 F1 L1)) I2 F2 L2)) kk tt))] (AV.i IntKind.i64 (Int.ofNat (List.length
  (SS.P (SS.revived (SS.fail (kpS (SS.bar (kpS (SS.new 4) I1 F1 L1)) I2 F2 L2)) kk tt))))) [Upd.keep] ∧ ((!decide (Int.ofNat (List.length (SS.P (SS.revived (SS.fail (kpS (SS.bar
  (kpS (SS.new 4) I1 F1 L1)) I2 F2 L2)) kk tt))) = (0 : Int))) = true → K (Res.rv (AV.b false) { tree := T.n (some (AObj.cells 57 2 [] (T.n (some (AV.i IntKind.i64 kk)) (T.n (some (AV.b tt)) T.e T.e) T.e))) (T.n (some (AObj.segs 73 33799 [{ st := 0, sz := 1, n := 1, f := oneF (CV.i IntKind.i64 (Int.ofNat (SS.n (SS.revived (SS.fail (kpS (SS.bar (kpS (SS.new 4) I1 F1 L1)) I2 F2 L2)) kk tt)))) }, { st := 1, sz := 65, n := 512, f := durF (SS.dur (SS.revived (SS.fail (kpS (SS.bar (kpS (SS.new 4) I1 F1 L1)) I2 F2 L2)) kk tt)) (SS.torn (SS.revived (SS.fail (kpS (SS.bar (kpS (SS.new 4) I1 F1 L1)) I2 F2 L2)) kk tt)) }, { st := 33281, sz := 1, n := 1, f := oneF (CV.opv (pB (SS.P (SS.revived (SS.fail (kpS (SS.bar (kpS (SS.new 4) I1 F1 L1)) I2 F2 L2)) kk tt))) 66 (pW (SS.P (SS.revived (SS.fail (kpS (SS.bar (kpS (SS.new 4) I1 F1 L1)) I2 F2 L2)) kk tt)))) }, { st := 33282, sz := 1, n := 512, f := latF (lB (SS.P (SS.revived (SS.fail (kpS (SS.bar (kpS (SS.new 4) I1 F1 L1)) I2 F2 L2)) kk tt))) (lW (SS.P (SS.revived (SS.fail (kpS (SS.bar (kpS (SS.new 4) I1 F1 L1)) I2 F2 L2)) kk tt))) }, { st := 33794, sz := 5, n := 1, f := tailF (Int.ofNat (List.length (SS.P (SS.revived (SS.fail (kpS (SS.bar (kpS (SS.new 4) I1 F1 L1)) I2 F2 L2)) kk tt)))) (Int.ofNat (SS.wr (SS.revived (SS.fail (kpS (SS.bar (kpS (SS.new 4) I1 F1 L1)) I2 F2 L2)) kk tt))) (SS.off (SS.revived (SS.fail (kpS (SS.bar (kpS (SS.new 4) I1 F1 L1)) I2 F2 L2)) kk tt)) (SS.armed (SS.revived (SS.fail (kpS (SS.bar (kpS (SS.new 4) I1 F1 L1)) I2 F2 L2)) kk tt)) (Int.ofNat (SS.left (SS.revived (SS.fail (kpS (SS.bar (kpS (SS.new 4) I1 F1 L1)) I2 F2 L2)) kk tt))) }])) T.e T.e) T.e, next := 2, log := [1, 1, 1, 1, 1, 1, 0] })
  Orc.z) ∧ ((!decide (Int.ofNat (List.length (SS.P (SS.revived (SS.fail (kpS (SS.bar (kpS (SS.new 4) I1 F1 L1)) I2 F2 L2)) kk tt))) = (0 : Int))) = false → Con Try.prog 32 [AV.p 0
  0] [some (SS.o (SS.revived (SS.fail (kpS (SS.bar (kpS (SS.new 4) I1 F1 L1)) I2 F2 L2)) kk tt))] (AV.sv 1 (SS.n (SS.revived (SS.fail (kpS (SS.bar (kpS (SS.new 4) I1 F1 L1)) I2 F2
  L2)) kk tt)) (imgF (SS.revived (SS.fail (kpS (SS.bar (kpS (SS.new 4) I1 F1 L1)) I2 F2 L2)) kk tt))) [Upd.keep] ∧ ((!!decide (Int.ofNat (SS.n (SS.bar (kpS (SS.new 4) I1 F1 L1))) =
  (4 : Int))) = true → (!!decide (Int.ofNat (SS.n (SS.bar (kpS (SS.new 4) I1 F1 L1))) = (4 : Int))) = true ∧ (!!decide (Int.ofNat (SS.n (SS.bar (kpS (SS.new 4) I1 F1 L1))) = (4 :
  Int))) = true ∧ (!decide (Int.ofNat (SS.n (SS.bar (kpS (SS.new 4) I1 F1 L1))) = (4 : Int))) = false ∧ ((!decide (Int.ofNat (SS.n (SS.revived (SS.fail (kpS (SS.bar (kpS (SS.new 4)
  I1 F1 L1)) I2 F2 L2)) kk tt)) = (4 : Int))) = true → K (Res.rv (AV.b false) { tree := T.n (some (AObj.cells 57 2 [] (T.n (some (AV.i IntKind.i64 kk)) (T.n (some (AV.b tt)) T.e T.e) T.e))) (T.n (some (AObj.segs 73 33799 [{ st := 0, sz := 1, n := 1, f := oneF (CV.i IntKind.i64 (Int.ofNat (SS.n (SS.revived (SS.fail (kpS (SS.bar (kpS (SS.new 4) I1 F1 L1)) I2 F2 L2)) kk tt)))) }, { st := 1, sz := 65, n := 512, f := durF (SS.dur (SS.revived (SS.fail (kpS (SS.bar (kpS (SS.new 4) I1 F1 L1)) I2 F2 L2)) kk tt)) (SS.torn (SS.revived (SS.fail (kpS (SS.bar (kpS (SS.new 4) I1 F1 L1)) I2 F2 L2)) kk tt)) }, { st := 33281, sz := 1, n := 1, f := oneF (CV.opv (pB (SS.P (SS.revived (SS.fail (kpS (SS.bar (kpS (SS.new 4) I1 F1 L1)) I2 F2 L2)) kk tt))) 66 (pW (SS.P (SS.revived (SS.fail (kpS (SS.bar (kpS (SS.new 4) I1 F1 L1)) I2 F2 L2)) kk tt)))) }, { st := 33282, sz := 1, n := 512, f := latF (lB (SS.P (SS.revived (SS.fail (kpS (SS.bar (kpS (SS.new 4) I1 F1 L1)) I2 F2 L2)) kk tt))) (lW (SS.P (SS.revived (SS.fail (kpS (SS.bar (kpS (SS.new 4) I1 F1 L1)) I2 F2 L2)) kk tt))) }, { st := 33794, sz := 5, n := 1, f := tailF (Int.ofNat (List.length (SS.P (SS.revived (SS.fail (kpS (SS.bar (kpS (SS.new 4) I1 F1 L1)) I2 F2 L2)) kk tt)))) (Int.ofNat (SS.wr (SS.revived (SS.fail (kpS (SS.bar (kpS (SS.new 4) I1 F1 L1)) I2 F2 L2)) kk tt))) (SS.off (SS.revived (SS.fail (kpS (SS.bar (kpS (SS.new 4) I1 F1 L1)) I2 F2 L2)) kk tt)) (SS.armed (SS.revived (SS.fail (kpS (SS.bar (kpS (SS.new 4) I1 F1 L1)) I2 F2 L2)) kk tt)) (Int.ofNat (SS.left (SS.revived (SS.fail (kpS (SS.bar (kpS (SS.new 4) I1 F1 L1)) I2 F2 L2)) kk tt))) }])) T.e T.e) T.e, next := 2, log := [1, 1, 1, 1, 1, 1, 0] })
  Orc.z) ∧ ((!decide (Int.ofNat (SS.n (SS.revived (SS.fail (kpS (SS.bar (kpS (SS.new 4) I1 F1 L1)) I2 F2 L2)) kk tt)) = (4 : Int))) = false → LDoes Try.prog (loopAt Try.prog 6 2)
  230 1 (mkT [(1, AV.sv 5 L2 (opF K2 I2 F2 N2 T2)), (7, AV.i IntKind.i64 kk), (8, AV.b tt), (9, AV.p 0 0), (13, AV.sv 1 (SS.n (SS.bar (kpS (SS.new 4) I1 F1 L1))) (imgF (SS.bar (kpS
  (SS.new 4) I1 F1 L1)))), (16, AV.sv 1 (SS.n (SS.revived (SS.fail (kpS (SS.bar (kpS (SS.new 4) I1 F1 L1)) I2 F2 L2)) kk tt)) (imgF (SS.revived (SS.fail (kpS (SS.bar (kpS (SS.new 4)
  I1 F1 L1)) I2 F2 L2)) kk tt))), (17, AV.i IntKind.i64 (0 : Int)), (115, AV.i IntKind.i64 (Int.ofNat (SS.n (SS.revived (SS.fail (kpS (SS.bar (kpS (SS.new 4) I1 F1 L1)) I2 F2 L2))
  kk tt)))), (116, AV.i IntKind.i64 (0 : Int))]) [some (SS.o (SS.revived (SS.fail (kpS (SS.bar (kpS (SS.new 4) I1 F1 L1)) I2 F2 L2)) kk tt))] (XO.exit 4) (mkT [(9, AV.p 0 0), (17,
  AV.i IntKind.i64 (Int.ofNat (brN (SS.torn (SS.revived (SS.fail (kpS (SS.bar (kpS (SS.new 4) I1 F1 L1)) I2 F2 L2)) kk tt)) 4)))]) [some (SS.o (SS.revived (SS.fail (kpS (SS.bar (kpS
  (SS.new 4) I1 F1 L1)) I2 F2 L2)) kk tt))] ∧ K (Res.rv (AV.b (decide (Int.ofNat (brN (SS.torn (SS.revived (SS.fail (kpS (SS.bar (kpS (SS.new 4) I1 F1 L1)) I2 F2 L2)) kk tt)) 4) ≤
  (1 : Int)))) { tree := T.n (some (AObj.cells 57 2 [] (T.n (some (AV.i IntKind.i64 kk)) (T.n (some (AV.b tt)) T.e T.e) T.e))) (T.n (some (AObj.segs 73 33799 [{ st := 0, sz := 1, n := 1, f := oneF (CV.i IntKind.i64 (Int.ofNat (SS.n (SS.revived (SS.fail (kpS (SS.bar (kpS (SS.new 4) I1 F1 L1)) I2 F2 L2)) kk tt)))) }, { st := 1, sz := 65, n := 512, f := durF (SS.dur (SS.revived (SS.fail (kpS (SS.bar (kpS (SS.new 4) I1 F1 L1)) I2 F2 L2)) kk tt)) (SS.torn (SS.revived (SS.fail (kpS (SS.bar (kpS (SS.new 4) I1 F1 L1)) I2 F2 L2)) kk tt)) }, { st := 33281, sz := 1, n := 1, f := oneF (CV.opv (pB (SS.P (SS.revived (SS.fail (kpS (SS.bar (kpS (SS.new 4) I1 F1 L1)) I2 F2 L2)) kk tt))) 66 (pW (SS.P (SS.revived (SS.fail (kpS (SS.bar (kpS (SS.new 4) I1 F1 L1)) I2 F2 L2)) kk tt)))) }, { st := 33282, sz := 1, n := 512, f := latF (lB (SS.P (SS.revived (SS.fail (kpS (SS.bar (kpS (SS.new 4) I1 F1 L1)) I2 F2 L2)) kk tt))) (lW (SS.P (SS.revived (SS.fail (kpS (SS.bar (kpS (SS.new 4) I1 F1 L1)) I2 F2 L2)) kk tt))) }, { st := 33794, sz := 5, n := 1, f := tailF (Int.ofNat (List.length (SS.P (SS.revived (SS.fail (kpS (SS.bar (kpS (SS.new 4) I1 F1 L1)) I2 F2 L2)) kk tt)))) (Int.ofNat (SS.wr (SS.revived (SS.fail (kpS (SS.bar (kpS (SS.new 4) I1 F1 L1)) I2 F2 L2)) kk tt))) (SS.off (SS.revived (SS.fail (kpS (SS.bar (kpS (SS.new 4) I1 F1 L1)) I2 F2 L2)) kk tt)) (SS.armed (SS.revived (SS.fail (kpS (SS.bar (kpS (SS.new 4) I1 F1 L1)) I2 F2 L2)) kk tt)) (Int.ofNat (SS.left (SS.revived (SS.fail (kpS (SS.bar (kpS (SS.new 4) I1 F1 L1)) I2 F2 L2)) kk tt))) }])) T.e T.e) T.e, next := 2, log := [1, 1, 1, 1, 1, 1, 1, 0] })
  Orc.z)) ∧ ((!!decide (Int.ofNat (SS.n (SS.bar (kpS (SS.new 4) I1 F1 L1))) = (4 : Int))) = false → (!!decide (Int.ofNat (SS.n (SS.bar (kpS (SS.new 4) I1 F1 L1))) = (4 : Int))) =
  false ∧ (!!decide (Int.ofNat (SS.n (SS.bar (kpS (SS.new 4) I1 F1 L1))) = (4 : Int))) = false ∧ (!decide (Int.ofNat (SS.n (SS.bar (kpS (SS.new 4) I1 F1 L1))) = (4 : Int))) = true ∧
  K (Res.rv (AV.b false) { tree := T.n (some (AObj.cells 57 2 [] (T.n (some (AV.i IntKind.i64 kk)) (T.n (some (AV.b tt)) T.e T.e) T.e))) (T.n (some (AObj.segs 73 33799 [{ st := 0, sz := 1, n := 1, f := oneF (CV.i IntKind.i64 (Int.ofNat (SS.n (SS.revived (SS.fail (kpS (SS.bar (kpS (SS.new 4) I1 F1 L1)) I2 F2 L2)) kk tt)))) }, { st := 1, sz := 65, n := 512, f := durF (SS.dur (SS.revived (SS.fail (kpS (SS.bar (kpS (SS.new 4) I1 F1 L1)) I2 F2 L2)) kk tt)) (SS.torn (SS.revived (SS.fail (kpS (SS.bar (kpS (SS.new 4) I1 F1 L1)) I2 F2 L2)) kk tt)) }, { st := 33281, sz := 1, n := 1, f := oneF (CV.opv (pB (SS.P (SS.revived (SS.fail (kpS (SS.bar (kpS (SS.new 4) I1 F1 L1)) I2 F2 L2)) kk tt))) 66 (pW (SS.P (SS.revived (SS.fail (kpS (SS.bar (kpS (SS.new 4) I1 F1 L1)) I2 F2 L2)) kk tt)))) }, { st := 33282, sz := 1, n := 512, f := latF (lB (SS.P (SS.revived (SS.fail (kpS (SS.bar (kpS (SS.new 4) I1 F1 L1)) I2 F2 L2)) kk tt))) (lW (SS.P (SS.revived (SS.fail (kpS (SS.bar (kpS (SS.new 4) I1 F1 L1)) I2 F2 L2)) kk tt))) }, { st := 33794, sz := 5, n := 1, f := tailF (Int.ofNat (List.length (SS.P (SS.revived (SS.fail (kpS (SS.bar (kpS (SS.new 4) I1 F1 L1)) I2 F2 L2)) kk tt)))) (Int.ofNat (SS.wr (SS.revived (SS.fail (kpS (SS.bar (kpS (SS.new 4) I1 F1 L1)) I2 F2 L2)) kk tt))) (SS.off (SS.revived (SS.fail (kpS (SS.bar (kpS (SS.new 4) I1 F1 L1)) I2 F2 L2)) kk tt)) (SS.armed (SS.revived (SS.fail (kpS (SS.bar (kpS (SS.new 4) I1 F1 L1)) I2 F2 L2)) kk tt)) (Int.ofNat (SS.left (SS.revived (SS.fail (kpS (SS.bar (kpS (SS.new 4) I1 F1 L1)) I2 F2 L2)) kk tt))) }])) T.e T.e) T.e, next := 2, log := [1, 1, 1, 1, 1, 1, 0] })
  Orc.z))))) ∧ ((!decide ((100 : Int) < Int.ofNat L1)) = false → (!decide ((100 : Int) < Int.ofNat L1)) = false ∧ (!decide ((100 : Int) < Int.ofNat L1)) = false ∧ decide ((100 :
  Int) < Int.ofNat L1) = true ∧ True ∧ K (Res.rv (AV.b true) { tree := T.n (some (AObj.cells 57 2 [] (T.n (some (AV.i IntKind.i64 kk)) (T.n (some (AV.b tt)) T.e T.e) T.e))) (T.n (some (AObj.segs 73 33799 [{ st := 0, sz := 1, n := 1, f := oneF (CV.i IntKind.i64 (Int.ofNat (SS.n (SS.new 4)))) }, { st := 1, sz := 65, n := 512, f := durF (SS.dur (SS.new 4)) (SS.torn (SS.new 4)) }, { st := 33281, sz := 1, n := 1, f := oneF (CV.opv (pB (SS.P (SS.new 4))) 66 (pW (SS.P (SS.new 4)))) }, { st := 33282, sz := 1, n := 512, f := latF (lB (SS.P (SS.new 4))) (lW (SS.P (SS.new 4))) }, { st := 33794, sz := 5, n := 1, f := tailF (Int.ofNat (List.length (SS.P (SS.new 4)))) (Int.ofNat (SS.wr (SS.new 4))) (SS.off (SS.new 4)) (SS.armed (SS.new 4)) (Int.ofNat (SS.left (SS.new 4))) }])) T.e T.e) T.e, next := 2, log := [1, 0] })
  Orc.z)) := by kernel_rfl

theorem brN_one {t : Nat → Bool} {q : Nat} (h : ∀ i, t i = true → i = q) : ∀ k, brN t k ≤ 1 ∧ (k ≤ q → brN t k = 0)
  | 0 => ⟨Nat.zero_le _, fun _ => rfl⟩
  | k + 1 => by
    obtain ⟨h1, h2⟩ := brN_one h k
    show (bif t k then brN t k + 1 else brN t k) ≤ 1 ∧ (k + 1 ≤ q → (bif t k then brN t k + 1 else brN t k) = 0)
    cases e : t k with
    | true =>
      have := h k e
      subst this
      have := h2 (Nat.le_refl _)
      exact ⟨by show brN t k + 1 ≤ 1; omega, fun q => by omega⟩
    | false => exact ⟨h1, fun q => h2 (by omega)⟩

theorem durL_u8 {dur : Nat → Nat → Int} {I F : Nat → Int} {L k : Nat} (h : ∀ i, U8l (dur i)) (i : Nat) : U8l (durL dur ((pL I F L).drop k) i) := by
  rcases durL_or dur i ((pL I F L).drop k) with e | ⟨w, hw, _, e⟩
  · rw [e]; exact h i
  · obtain ⟨j, _, _, e2, _⟩ := pL_mem (List.mem_of_mem_drop hw)
    rw [e, e2]; exact fB_u8 _
theorem durL_from {dur : Nat → Nat → Int} {I F : Nat → Int} {L k : Nat} (i : Nat) : durL dur ((pL I F L).drop k) i = dur i ∨ ∃ j, j < L ∧ I j = Int.ofNat i ∧ durL dur ((pL I F L).drop k) i = fB (F j) := by
  rcases durL_or dur i ((pL I F L).drop k) with e | ⟨w, hw, e1, e⟩
  · exact .inl e
  · obtain ⟨j, hj, h2, e2, _⟩ := pL_mem (List.mem_of_mem_drop hw)
    exact .inr ⟨j, hj, by rw [h2, e1], by rw [e, e2]⟩

/-- What stands behind the first writes and the Barrier. -/
structure KpA (A : SS) (m : Nat) : Prop where
  n : A.n = 4
  off : A.off = false
  armed : A.armed = false
  P : A.P = []
  torn : ∀ i, A.torn i = false
  u8 : ∀ k, U8l (A.dur k)
  ok : A.OkB m
theorem new_okB : (SS.new 4).OkB 0 := ⟨by show 4 ≤ 512; omega, Nat.le_refl 0, Nat.le_refl 0, by show (0 : Nat) < _; omega, fun w hw => by cases hw⟩
theorem kpA_of (I F : Nat → Int) (L : Nat) : KpA (kpS (SS.new 4) I F L).bar L ∧ (kpS (SS.new 4) I F L).faultE = 0 := by
  have hk := kpS_ok new_okB I F L
  rw [Nat.zero_add] at hk
  obtain ⟨wr, e⟩ := kpS_eq (A := SS.new 4) rfl rfl rfl rfl I F L
  rw [e] at hk ⊢
  have hw := hk.wr
  refine ⟨⟨rfl, rfl, rfl, rfl, fun i => tornL_no rfl _, fun k => durL_u8 (fun i j => ⟨0, rfl⟩) k, ⟨by show 4 ≤ 512; omega, Nat.zero_le _, hw, by show (0 : Nat) < _; omega, fun w hw => by cases hw⟩⟩, rfl⟩

/-- What stands behind Revive. -/
structure KpR (A R : SS) (I F : Nat → Int) (L : Nat) (kk : Int) (tt : Bool) : Prop where
  n : R.n = 4
  off : R.off = false
  P : R.P = []
  u8 : ∀ k, U8l (R.dur k)
  t1 : ∀ i, i < 4 → R.torn i = true → tt = true
  t2 : brN R.torn 4 ≤ 1
  d : ∀ i, i < 4 → R.torn i = false → R.dur i = A.dur i ∨ ∃ j, j < L ∧ I j = Int.ofNat i ∧ R.dur i = fB (F j)
  l : ∀ i, i < 4 → tt = false → (lstS I F (Int.ofNat i) ⟨kk, 64, A.dur i⟩ L).n = 64 ∧ (lstS I F (Int.ofNat i) ⟨kk, 64, A.dur i⟩ L).b = R.dur i
theorem kpR_of {A : SS} {m : Nat} (h : KpA A m) (I F : Nat → Int) (L : Nat) (kk : Int) (tt : Bool) : KpR A ((kpS A I F L).fail.revived kk tt) I F L kk tt ∧ (kpS A I F L).fail.revE = 0 := by
  obtain ⟨wr, e⟩ := kpS_eq h.n h.off h.armed h.P I F L
  rw [e]
  refine ⟨?_, rfl⟩
  obtain ⟨n, dur, torn, P, w0, off, armed, left⟩ := A
  obtain ⟨h1, h2, h3, h4, h5, h6, h7⟩ := h
  simp only at h1 h2 h3 h4 h5 h6
  subst h1 h2 h3 h4
  cases hd : (tt && Nat.blt (keepN kk (pL I F L).length) (pL I F L).length) with
  | true =>
    have ht : tt = true := by revert hd; cases tt <;> simp
    subst ht
    have er : (SS.fail { n := 4, dur := dur, torn := torn, P := pL I F L, wr := wr, off := false, armed := false, left := left }).revived kk true = SS.on (SS.lay (SS.flush (SS.fail { n := 4, dur := dur, torn := torn, P := pL I F L, wr := wr, off := false, armed := false, left := left }) (keepN kk (pL I F L).length)) (oA (pL I F L) (keepN kk (pL I F L).length)) (fun _ => 0) true) := by
      show (match true && Nat.blt (keepN kk (pL I F L).length) (pL I F L).length with | true => _ | false => _) = _
      rw [hd]; rfl
    rw [er]
    generalize hq : oA (pL I F L) (keepN kk (pL I F L).length) = q
    refine ⟨rfl, rfl, rfl, fun k => ?_, fun _ _ _ => rfl, ?_, fun i _ hi => ?_, fun _ _ hf => by cases hf⟩
    · show U8l (bif Nat.beq k q then (fun _ => 0) else durL dur ((pL I F L).drop ((pL I F L).length - keepN kk (pL I F L).length)) k)
      cases Nat.beq k q
      · exact durL_u8 h6 k
      · exact fun _ => ⟨0, rfl⟩
    · refine (brN_one (q := q) (fun i hi => ?_) 4).1
      have hi : (bif Nat.beq i q then true else tornL torn ((pL I F L).drop ((pL I F L).length - keepN kk (pL I F L).length)) i) = true := hi
      rw [tornL_no (h5 i)] at hi
      cases hb : Nat.beq i q with
      | true => exact Nat.eq_of_beq_eq_true hb
      | false => rw [hb] at hi; cases hi
    · have hi : (bif Nat.beq i q then true else tornL torn ((pL I F L).drop ((pL I F L).length - keepN kk (pL I F L).length)) i) = false := hi
      cases hb : Nat.beq i q with
      | true => rw [hb] at hi; cases hi
      | false =>
        have ed : (SS.on (SS.lay (SS.flush (SS.fail { n := 4, dur := dur, torn := torn, P := pL I F L, wr := wr, off := false, armed := false, left := left }) (keepN kk (pL I F L).length)) q (fun _ => 0) true)).dur i = durL dur ((pL I F L).drop ((pL I F L).length - keepN kk (pL I F L).length)) i := by
          show (bif Nat.beq i q then (fun _ => 0) else durL dur ((pL I F L).drop ((pL I F L).length - keepN kk (pL I F L).length)) i) = _
          rw [hb]; rfl
        rw [ed]
        exact durL_from i
  | false =>
    have er : (SS.fail { n := 4, dur := dur, torn := torn, P := pL I F L, wr := wr, off := false, armed := false, left := left }).revived kk tt = SS.on (SS.flush (SS.fail { n := 4, dur := dur, torn := torn, P := pL I F L, wr := wr, off := false, armed := false, left := left }) (keepN kk (pL I F L).length)) := by
      show (match tt && Nat.blt (keepN kk (pL I F L).length) (pL I F L).length with | true => _ | false => _) = _
      rw [hd]; rfl
    rw [er]
    have tn : ∀ i, tornL torn ((pL I F L).drop ((pL I F L).length - keepN kk (pL I F L).length)) i = false := fun i => tornL_no (h5 i) _
    refine ⟨rfl, rfl, rfl, fun k => durL_u8 h6 k, fun i _ hi => ?_, ?_, fun i _ _ => durL_from i, fun i _ hf => ?_⟩
    · have hi : tornL torn ((pL I F L).drop ((pL I F L).length - keepN kk (pL I F L).length)) i = true := hi
      rw [tn i] at hi; cases hi
    · refine (brN_one (q := 0) (fun i hi => ?_) 4).1
      have hi : tornL torn ((pL I F L).drop ((pL I F L).length - keepN kk (pL I F L).length)) i = true := hi
      rw [tn i] at hi; cases hi
    · obtain ⟨l1, l2, _⟩ := lst_eq dur I F i kk L
      exact ⟨l1, l2⟩

theorem keeps_con (L1 L2 : Nat) (K1 I1 F1 N1 K2 I2 F2 N2 : Nat → Int) (T1 T2 : Nat → Bool) (kk : Int) (tt : Bool) (hk : kk ≤ 9223372036854775807) :
    Con Try.prog 6 [.sv 5 L1 (opF K1 I1 F1 N1 T1), .sv 5 L2 (opF K2 I2 F2 N2 T2), .agg [.i .i64 kk, .b tt]] [] (.b true) [] := by
  refine con_plain rfl ((keeps_vc L1 L2 K1 I1 F1 N1 K2 I2 F2 N2 T1 T2 kk tt _).mpr ?_)
  have d4 : decide (Int.ofNat 4 = 4) = true := by decide
  have d0 : decide ((0 : Int) = 0) = true := by decide
  by_cases c1 : 100 < L1
  · have e1 : decide (100 < Int.ofNat L1) = true := by simp; omega
    simp only [e1, Bool.not_true, Bool.not_false, reduceCtorEq, false_implies, true_implies, and_true, true_and, Bool.true_eq_false, Bool.false_eq_true]
    exact ⟨awake_con, newF_con, _, _, rfl, rfl⟩
  · have e1 : decide (100 < Int.ofNat L1) = false := by simp; omega
    by_cases c2 : 100 < L2
    · have e2 : decide (100 < Int.ofNat L2) = true := by simp; omega
      simp only [e1, e2, Bool.not_true, Bool.not_false, reduceCtorEq, false_implies, true_implies, and_true, true_and, Bool.true_eq_false, Bool.false_eq_true]
      exact ⟨awake_con, newF_con, _, _, rfl, rfl⟩
    · have e2 : decide (100 < Int.ofNat L2) = false := by simp; omega
      obtain ⟨hA, hf⟩ := kpA_of I1 F1 L1
      have hk1 := kpS_ok new_okB I1 F1 L1
      have k1 := kpA_lp (SS.new 4) L1 L2 K1 I1 F1 N1 K2 I2 F2 N2 T1 T2 kk tt new_okB (by omega)
      have k2 := barrier_con (kpS (SS.new 4) I1 F1 L1) (by have := hk1.P; omega) (fun q hq => by have := hk1.at_ q hq; have := hk1.n; omega)
      rw [hf] at k2
      generalize (kpS (SS.new 4) I1 F1 L1).bar = A at hA k2 ⊢
      obtain ⟨hR, hE⟩ := kpR_of hA I2 F2 L2 kk tt
      have hk2 := kpS_ok hA.ok I2 F2 L2
      have k3 := image_con A (by rw [hA.n]; omega)
      have k4 := kpB_lp A L2 A.n L1 (imgF A) K2 I2 F2 N2 T2 kk tt hA.ok (by omega)
      have k5 := fail2_con (kpS A I2 F2 L2)
      have k6 := revive_con (kpS A I2 F2 L2).fail kk tt (by show (kpS A I2 F2 L2).P.length ≤ _; have := hk2.P; omega) (fun q hq => by have := hk2.at_ q hq; have := hk2.n; omega)
      rw [hE] at k6
      generalize (kpS A I2 F2 L2).fail.revived kk tt = R at hR k6 ⊢
      have k7 := pending2_con R
      have k8 := image_con R (by rw [hR.n]; omega)
      have k9 := now_lp A R L2 K2 I2 F2 N2 T2 kk tt (by omega) hA.n hA.torn hR.n hR.P hR.off hA.u8 hR.u8 hk hR.t1 hR.d hR.l
      have p0 : decide (Int.ofNat R.P.length = 0) = true := by rw [hR.P]; rfl
      have n1 : decide (Int.ofNat A.n = 4) = true := by rw [hA.n]; rfl
      have n2 : decide (Int.ofNat R.n = 4) = true := by rw [hR.n]; rfl
      have b1 : decide (Int.ofNat (brN R.torn 4) ≤ 1) = true := by have := hR.t2; simp; omega
      simp only [e1, e2, hf, hE, p0, n1, n2, b1, decide_true, Bool.not_true, Bool.not_false, reduceCtorEq, false_implies, true_implies, and_true, true_and, Bool.true_eq_false, Bool.false_eq_true]
      exact ⟨awake_con, newF_con, k1, k2, k3, k4, k5, k6, k7, k8, k9, _, _, rfl, rfl⟩

end Go.Proofs.St
