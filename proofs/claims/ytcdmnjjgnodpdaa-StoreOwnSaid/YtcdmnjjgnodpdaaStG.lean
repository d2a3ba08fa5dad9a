/- Runs over unknown values, told by the kernel: part StG. -/
import Derived.Test.YtcdmnjjgnodpdaaStF
set_option linter.unusedSimpArgs false
set_option linter.unusedVariables false
set_option maxRecDepth 20000
namespace Go.Proofs.St
open Go Go.Sim Go.Proofs

noncomputable def uImg : Code := loopAt Try.prog 32 0
noncomputable def uImg2 : Code := loopAt Try.prog 32 0
noncomputable def bl0 (c : Int) : List Nat := [Sim.byteOf (CV.i IntKind.u8 (bif Nat.blt 0 64 then fB c 0 else (91 : Int))),
  Sim.byteOf (CV.i IntKind.u8 (bif Nat.blt 1 64 then fB c 1 else (91 : Int))),
  Sim.byteOf (CV.i IntKind.u8 (bif Nat.blt 2 64 then fB c 2 else (91 : Int))),
  Sim.byteOf (CV.i IntKind.u8 (bif Nat.blt 3 64 then fB c 3 else (91 : Int))),
  Sim.byteOf (CV.i IntKind.u8 (bif Nat.blt 4 64 then fB c 4 else (91 : Int))),
  Sim.byteOf (CV.i IntKind.u8 (bif Nat.blt 5 64 then fB c 5 else (91 : Int))),
  Sim.byteOf (CV.i IntKind.u8 (bif Nat.blt 6 64 then fB c 6 else (91 : Int))),
  Sim.byteOf (CV.i IntKind.u8 (bif Nat.blt 7 64 then fB c 7 else (91 : Int))),
  Sim.byteOf (CV.i IntKind.u8 (bif Nat.blt 8 64 then fB c 8 else (91 : Int))),
  Sim.byteOf (CV.i IntKind.u8 (bif Nat.blt 9 64 then fB c 9 else (91 : Int))),
  Sim.byteOf (CV.i IntKind.u8 (bif Nat.blt 10 64 then fB c 10 else (91 : Int))),
  Sim.byteOf (CV.i IntKind.u8 (bif Nat.blt 11 64 then fB c 11 else (91 : Int))),
  Sim.byteOf (CV.i IntKind.u8 (bif Nat.blt 12 64 then fB c 12 else (91 : Int))),
  Sim.byteOf (CV.i IntKind.u8 (bif Nat.blt 13 64 then fB c 13 else (91 : Int))),
  Sim.byteOf (CV.i IntKind.u8 (bif Nat.blt 14 64 then fB c 14 else (91 : Int))),
  Sim.byteOf (CV.i IntKind.u8 (bif Nat.blt 15 64 then fB c 15 else (91 : Int))),
  Sim.byteOf (CV.i IntKind.u8 (bif Nat.blt 16 64 then fB c 16 else (91 : Int))),
  Sim.byteOf (CV.i IntKind.u8 (bif Nat.blt 17 64 then fB c 17 else (91 : Int))),
  Sim.byteOf (CV.i IntKind.u8 (bif Nat.blt 18 64 then fB c 18 else (91 : Int))),
  Sim.byteOf (CV.i IntKind.u8 (bif Nat.blt 19 64 then fB c 19 else (91 : Int))),
  Sim.byteOf (CV.i IntKind.u8 (bif Nat.blt 20 64 then fB c 20 else (91 : Int))),
  Sim.byteOf (CV.i IntKind.u8 (bif Nat.blt 21 64 then fB c 21 else (91 : Int))),
  Sim.byteOf (CV.i IntKind.u8 (bif Nat.blt 22 64 then fB c 22 else (91 : Int))),
  Sim.byteOf (CV.i IntKind.u8 (bif Nat.blt 23 64 then fB c 23 else (91 : Int))),
  Sim.byteOf (CV.i IntKind.u8 (bif Nat.blt 24 64 then fB c 24 else (91 : Int))),
  Sim.byteOf (CV.i IntKind.u8 (bif Nat.blt 25 64 then fB c 25 else (91 : Int))),
  Sim.byteOf (CV.i IntKind.u8 (bif Nat.blt 26 64 then fB c 26 else (91 : Int))),
  Sim.byteOf (CV.i IntKind.u8 (bif Nat.blt 27 64 then fB c 27 else (91 : Int))),
  Sim.byteOf (CV.i IntKind.u8 (bif Nat.blt 28 64 then fB c 28 else (91 : Int))),
  Sim.byteOf (CV.i IntKind.u8 (bif Nat.blt 29 64 then fB c 29 else (91 : Int))),
  Sim.byteOf (CV.i IntKind.u8 (bif Nat.blt 30 64 then fB c 30 else (91 : Int))),
  Sim.byteOf (CV.i IntKind.u8 (bif Nat.blt 31 64 then fB c 31 else (91 : Int))),
  Sim.byteOf (CV.i IntKind.u8 (bif Nat.blt 32 64 then fB c 32 else (91 : Int))),
  Sim.byteOf (CV.i IntKind.u8 (bif Nat.blt 33 64 then fB c 33 else (91 : Int))),
  Sim.byteOf (CV.i IntKind.u8 (bif Nat.blt 34 64 then fB c 34 else (91 : Int))),
  Sim.byteOf (CV.i IntKind.u8 (bif Nat.blt 35 64 then fB c 35 else (91 : Int))),
  Sim.byteOf (CV.i IntKind.u8 (bif Nat.blt 36 64 then fB c 36 else (91 : Int))),
  Sim.byteOf (CV.i IntKind.u8 (bif Nat.blt 37 64 then fB c 37 else (91 : Int))),
  Sim.byteOf (CV.i IntKind.u8 (bif Nat.blt 38 64 then fB c 38 else (91 : Int))),
  Sim.byteOf (CV.i IntKind.u8 (bif Nat.blt 39 64 then fB c 39 else (91 : Int))),
  Sim.byteOf (CV.i IntKind.u8 (bif Nat.blt 40 64 then fB c 40 else (91 : Int))),
  Sim.byteOf (CV.i IntKind.u8 (bif Nat.blt 41 64 then fB c 41 else (91 : Int))),
  Sim.byteOf (CV.i IntKind.u8 (bif Nat.blt 42 64 then fB c 42 else (91 : Int))),
  Sim.byteOf (CV.i IntKind.u8 (bif Nat.blt 43 64 then fB c 43 else (91 : Int))),
  Sim.byteOf (CV.i IntKind.u8 (bif Nat.blt 44 64 then fB c 44 else (91 : Int))),
  Sim.byteOf (CV.i IntKind.u8 (bif Nat.blt 45 64 then fB c 45 else (91 : Int))),
  Sim.byteOf (CV.i IntKind.u8 (bif Nat.blt 46 64 then fB c 46 else (91 : Int))),
  Sim.byteOf (CV.i IntKind.u8 (bif Nat.blt 47 64 then fB c 47 else (91 : Int))),
  Sim.byteOf (CV.i IntKind.u8 (bif Nat.blt 48 64 then fB c 48 else (91 : Int))),
  Sim.byteOf (CV.i IntKind.u8 (bif Nat.blt 49 64 then fB c 49 else (91 : Int))),
  Sim.byteOf (CV.i IntKind.u8 (bif Nat.blt 50 64 then fB c 50 else (91 : Int))),
  Sim.byteOf (CV.i IntKind.u8 (bif Nat.blt 51 64 then fB c 51 else (91 : Int))),
  Sim.byteOf (CV.i IntKind.u8 (bif Nat.blt 52 64 then fB c 52 else (91 : Int))),
  Sim.byteOf (CV.i IntKind.u8 (bif Nat.blt 53 64 then fB c 53 else (91 : Int))),
  Sim.byteOf (CV.i IntKind.u8 (bif Nat.blt 54 64 then fB c 54 else (91 : Int))),
  Sim.byteOf (CV.i IntKind.u8 (bif Nat.blt 55 64 then fB c 55 else (91 : Int))),
  Sim.byteOf (CV.i IntKind.u8 (bif Nat.blt 56 64 then fB c 56 else (91 : Int))),
  Sim.byteOf (CV.i IntKind.u8 (bif Nat.blt 57 64 then fB c 57 else (91 : Int))),
  Sim.byteOf (CV.i IntKind.u8 (bif Nat.blt 58 64 then fB c 58 else (91 : Int))),
  Sim.byteOf (CV.i IntKind.u8 (bif Nat.blt 59 64 then fB c 59 else (91 : Int))),
  Sim.byteOf (CV.i IntKind.u8 (bif Nat.blt 60 64 then fB c 60 else (91 : Int))),
  Sim.byteOf (CV.i IntKind.u8 (bif Nat.blt 61 64 then fB c 61 else (91 : Int))),
  Sim.byteOf (CV.i IntKind.u8 (bif Nat.blt 62 64 then fB c 62 else (91 : Int))),
  Sim.byteOf (CV.i IntKind.u8 (bif Nat.blt 63 64 then fB c 63 else (91 : Int))), 91, 92]
noncomputable def bl1 (c : Int) : List Nat := [Sim.byteOf (CV.i IntKind.u8 (fB c 0)),
  Sim.byteOf (CV.i IntKind.u8 (fB c 1)),
  Sim.byteOf (CV.i IntKind.u8 (fB c 2)),
  Sim.byteOf (CV.i IntKind.u8 (fB c 3)),
  Sim.byteOf (CV.i IntKind.u8 (fB c 4)),
  Sim.byteOf (CV.i IntKind.u8 (fB c 5)),
  Sim.byteOf (CV.i IntKind.u8 (fB c 6)),
  Sim.byteOf (CV.i IntKind.u8 (fB c 7)),
  Sim.byteOf (CV.i IntKind.u8 (fB c 8)),
  Sim.byteOf (CV.i IntKind.u8 (fB c 9)),
  Sim.byteOf (CV.i IntKind.u8 (fB c 10)),
  Sim.byteOf (CV.i IntKind.u8 (fB c 11)),
  Sim.byteOf (CV.i IntKind.u8 (fB c 12)),
  Sim.byteOf (CV.i IntKind.u8 (fB c 13)),
  Sim.byteOf (CV.i IntKind.u8 (fB c 14)),
  Sim.byteOf (CV.i IntKind.u8 (fB c 15)),
  Sim.byteOf (CV.i IntKind.u8 (fB c 16)),
  Sim.byteOf (CV.i IntKind.u8 (fB c 17)),
  Sim.byteOf (CV.i IntKind.u8 (fB c 18)),
  Sim.byteOf (CV.i IntKind.u8 (fB c 19)),
  Sim.byteOf (CV.i IntKind.u8 (fB c 20)),
  Sim.byteOf (CV.i IntKind.u8 (fB c 21)),
  Sim.byteOf (CV.i IntKind.u8 (fB c 22)),
  Sim.byteOf (CV.i IntKind.u8 (fB c 23)),
  Sim.byteOf (CV.i IntKind.u8 (fB c 24)),
  Sim.byteOf (CV.i IntKind.u8 (fB c 25)),
  Sim.byteOf (CV.i IntKind.u8 (fB c 26)),
  Sim.byteOf (CV.i IntKind.u8 (fB c 27)),
  Sim.byteOf (CV.i IntKind.u8 (fB c 28)),
  Sim.byteOf (CV.i IntKind.u8 (fB c 29)),
  Sim.byteOf (CV.i IntKind.u8 (fB c 30)),
  Sim.byteOf (CV.i IntKind.u8 (fB c 31)),
  Sim.byteOf (CV.i IntKind.u8 (fB c 32)),
  Sim.byteOf (CV.i IntKind.u8 (fB c 33)),
  Sim.byteOf (CV.i IntKind.u8 (fB c 34)),
  Sim.byteOf (CV.i IntKind.u8 (fB c 35)),
  Sim.byteOf (CV.i IntKind.u8 (fB c 36)),
  Sim.byteOf (CV.i IntKind.u8 (fB c 37)),
  Sim.byteOf (CV.i IntKind.u8 (fB c 38)),
  Sim.byteOf (CV.i IntKind.u8 (fB c 39)),
  Sim.byteOf (CV.i IntKind.u8 (fB c 40)),
  Sim.byteOf (CV.i IntKind.u8 (fB c 41)),
  Sim.byteOf (CV.i IntKind.u8 (fB c 42)),
  Sim.byteOf (CV.i IntKind.u8 (fB c 43)),
  Sim.byteOf (CV.i IntKind.u8 (fB c 44)),
  Sim.byteOf (CV.i IntKind.u8 (fB c 45)),
  Sim.byteOf (CV.i IntKind.u8 (fB c 46)),
  Sim.byteOf (CV.i IntKind.u8 (fB c 47)),
  Sim.byteOf (CV.i IntKind.u8 (fB c 48)),
  Sim.byteOf (CV.i IntKind.u8 (fB c 49)),
  Sim.byteOf (CV.i IntKind.u8 (fB c 50)),
  Sim.byteOf (CV.i IntKind.u8 (fB c 51)),
  Sim.byteOf (CV.i IntKind.u8 (fB c 52)),
  Sim.byteOf (CV.i IntKind.u8 (fB c 53)),
  Sim.byteOf (CV.i IntKind.u8 (fB c 54)),
  Sim.byteOf (CV.i IntKind.u8 (fB c 55)),
  Sim.byteOf (CV.i IntKind.u8 (fB c 56)),
  Sim.byteOf (CV.i IntKind.u8 (fB c 57)),
  Sim.byteOf (CV.i IntKind.u8 (fB c 58)),
  Sim.byteOf (CV.i IntKind.u8 (fB c 59)),
  Sim.byteOf (CV.i IntKind.u8 (fB c 60)),
  Sim.byteOf (CV.i IntKind.u8 (fB c 61)),
  Sim.byteOf (CV.i IntKind.u8 (fB c 62)),
  Sim.byteOf (CV.i IntKind.u8 (fB c 63)), 91, 92]
noncomputable def bl2 (c : Int) : List Nat := [Sim.byteOf (CV.i IntKind.u8 (SS.rdB (SS.wrote (SS.two (fullB c)) 0 (fullB c)) (0 : Int) 0)),
  Sim.byteOf (CV.i IntKind.u8 (SS.rdB (SS.wrote (SS.two (fullB c)) 0 (fullB c)) (0 : Int) 1)),
  Sim.byteOf (CV.i IntKind.u8 (SS.rdB (SS.wrote (SS.two (fullB c)) 0 (fullB c)) (0 : Int) 2)),
  Sim.byteOf (CV.i IntKind.u8 (SS.rdB (SS.wrote (SS.two (fullB c)) 0 (fullB c)) (0 : Int) 3)),
  Sim.byteOf (CV.i IntKind.u8 (SS.rdB (SS.wrote (SS.two (fullB c)) 0 (fullB c)) (0 : Int) 4)),
  Sim.byteOf (CV.i IntKind.u8 (SS.rdB (SS.wrote (SS.two (fullB c)) 0 (fullB c)) (0 : Int) 5)),
  Sim.byteOf (CV.i IntKind.u8 (SS.rdB (SS.wrote (SS.two (fullB c)) 0 (fullB c)) (0 : Int) 6)),
  Sim.byteOf (CV.i IntKind.u8 (SS.rdB (SS.wrote (SS.two (fullB c)) 0 (fullB c)) (0 : Int) 7)),
  Sim.byteOf (CV.i IntKind.u8 (SS.rdB (SS.wrote (SS.two (fullB c)) 0 (fullB c)) (0 : Int) 8)),
  Sim.byteOf (CV.i IntKind.u8 (SS.rdB (SS.wrote (SS.two (fullB c)) 0 (fullB c)) (0 : Int) 9)),
  Sim.byteOf (CV.i IntKind.u8 (SS.rdB (SS.wrote (SS.two (fullB c)) 0 (fullB c)) (0 : Int) 10)),
  Sim.byteOf (CV.i IntKind.u8 (SS.rdB (SS.wrote (SS.two (fullB c)) 0 (fullB c)) (0 : Int) 11)),
  Sim.byteOf (CV.i IntKind.u8 (SS.rdB (SS.wrote (SS.two (fullB c)) 0 (fullB c)) (0 : Int) 12)),
  Sim.byteOf (CV.i IntKind.u8 (SS.rdB (SS.wrote (SS.two (fullB c)) 0 (fullB c)) (0 : Int) 13)),
  Sim.byteOf (CV.i IntKind.u8 (SS.rdB (SS.wrote (SS.two (fullB c)) 0 (fullB c)) (0 : Int) 14)),
  Sim.byteOf (CV.i IntKind.u8 (SS.rdB (SS.wrote (SS.two (fullB c)) 0 (fullB c)) (0 : Int) 15)),
  Sim.byteOf (CV.i IntKind.u8 (SS.rdB (SS.wrote (SS.two (fullB c)) 0 (fullB c)) (0 : Int) 16)),
  Sim.byteOf (CV.i IntKind.u8 (SS.rdB (SS.wrote (SS.two (fullB c)) 0 (fullB c)) (0 : Int) 17)),
  Sim.byteOf (CV.i IntKind.u8 (SS.rdB (SS.wrote (SS.two (fullB c)) 0 (fullB c)) (0 : Int) 18)),
  Sim.byteOf (CV.i IntKind.u8 (SS.rdB (SS.wrote (SS.two (fullB c)) 0 (fullB c)) (0 : Int) 19)),
  Sim.byteOf (CV.i IntKind.u8 (SS.rdB (SS.wrote (SS.two (fullB c)) 0 (fullB c)) (0 : Int) 20)),
  Sim.byteOf (CV.i IntKind.u8 (SS.rdB (SS.wrote (SS.two (fullB c)) 0 (fullB c)) (0 : Int) 21)),
  Sim.byteOf (CV.i IntKind.u8 (SS.rdB (SS.wrote (SS.two (fullB c)) 0 (fullB c)) (0 : Int) 22)),
  Sim.byteOf (CV.i IntKind.u8 (SS.rdB (SS.wrote (SS.two (fullB c)) 0 (fullB c)) (0 : Int) 23)),
  Sim.byteOf (CV.i IntKind.u8 (SS.rdB (SS.wrote (SS.two (fullB c)) 0 (fullB c)) (0 : Int) 24)),
  Sim.byteOf (CV.i IntKind.u8 (SS.rdB (SS.wrote (SS.two (fullB c)) 0 (fullB c)) (0 : Int) 25)),
  Sim.byteOf (CV.i IntKind.u8 (SS.rdB (SS.wrote (SS.two (fullB c)) 0 (fullB c)) (0 : Int) 26)),
  Sim.byteOf (CV.i IntKind.u8 (SS.rdB (SS.wrote (SS.two (fullB c)) 0 (fullB c)) (0 : Int) 27)),
  Sim.byteOf (CV.i IntKind.u8 (SS.rdB (SS.wrote (SS.two (fullB c)) 0 (fullB c)) (0 : Int) 28)),
  Sim.byteOf (CV.i IntKind.u8 (SS.rdB (SS.wrote (SS.two (fullB c)) 0 (fullB c)) (0 : Int) 29)),
  Sim.byteOf (CV.i IntKind.u8 (SS.rdB (SS.wrote (SS.two (fullB c)) 0 (fullB c)) (0 : Int) 30)),
  Sim.byteOf (CV.i IntKind.u8 (SS.rdB (SS.wrote (SS.two (fullB c)) 0 (fullB c)) (0 : Int) 31)),
  Sim.byteOf (CV.i IntKind.u8 (SS.rdB (SS.wrote (SS.two (fullB c)) 0 (fullB c)) (0 : Int) 32)),
  Sim.byteOf (CV.i IntKind.u8 (SS.rdB (SS.wrote (SS.two (fullB c)) 0 (fullB c)) (0 : Int) 33)),
  Sim.byteOf (CV.i IntKind.u8 (SS.rdB (SS.wrote (SS.two (fullB c)) 0 (fullB c)) (0 : Int) 34)),
  Sim.byteOf (CV.i IntKind.u8 (SS.rdB (SS.wrote (SS.two (fullB c)) 0 (fullB c)) (0 : Int) 35)),
  Sim.byteOf (CV.i IntKind.u8 (SS.rdB (SS.wrote (SS.two (fullB c)) 0 (fullB c)) (0 : Int) 36)),
  Sim.byteOf (CV.i IntKind.u8 (SS.rdB (SS.wrote (SS.two (fullB c)) 0 (fullB c)) (0 : Int) 37)),
  Sim.byteOf (CV.i IntKind.u8 (SS.rdB (SS.wrote (SS.two (fullB c)) 0 (fullB c)) (0 : Int) 38)),
  Sim.byteOf (CV.i IntKind.u8 (SS.rdB (SS.wrote (SS.two (fullB c)) 0 (fullB c)) (0 : Int) 39)),
  Sim.byteOf (CV.i IntKind.u8 (SS.rdB (SS.wrote (SS.two (fullB c)) 0 (fullB c)) (0 : Int) 40)),
  Sim.byteOf (CV.i IntKind.u8 (SS.rdB (SS.wrote (SS.two (fullB c)) 0 (fullB c)) (0 : Int) 41)),
  Sim.byteOf (CV.i IntKind.u8 (SS.rdB (SS.wrote (SS.two (fullB c)) 0 (fullB c)) (0 : Int) 42)),
  Sim.byteOf (CV.i IntKind.u8 (SS.rdB (SS.wrote (SS.two (fullB c)) 0 (fullB c)) (0 : Int) 43)),
  Sim.byteOf (CV.i IntKind.u8 (SS.rdB (SS.wrote (SS.two (fullB c)) 0 (fullB c)) (0 : Int) 44)),
  Sim.byteOf (CV.i IntKind.u8 (SS.rdB (SS.wrote (SS.two (fullB c)) 0 (fullB c)) (0 : Int) 45)),
  Sim.byteOf (CV.i IntKind.u8 (SS.rdB (SS.wrote (SS.two (fullB c)) 0 (fullB c)) (0 : Int) 46)),
  Sim.byteOf (CV.i IntKind.u8 (SS.rdB (SS.wrote (SS.two (fullB c)) 0 (fullB c)) (0 : Int) 47)),
  Sim.byteOf (CV.i IntKind.u8 (SS.rdB (SS.wrote (SS.two (fullB c)) 0 (fullB c)) (0 : Int) 48)),
  Sim.byteOf (CV.i IntKind.u8 (SS.rdB (SS.wrote (SS.two (fullB c)) 0 (fullB c)) (0 : Int) 49)),
  Sim.byteOf (CV.i IntKind.u8 (SS.rdB (SS.wrote (SS.two (fullB c)) 0 (fullB c)) (0 : Int) 50)),
  Sim.byteOf (CV.i IntKind.u8 (SS.rdB (SS.wrote (SS.two (fullB c)) 0 (fullB c)) (0 : Int) 51)),
  Sim.byteOf (CV.i IntKind.u8 (SS.rdB (SS.wrote (SS.two (fullB c)) 0 (fullB c)) (0 : Int) 52)),
  Sim.byteOf (CV.i IntKind.u8 (SS.rdB (SS.wrote (SS.two (fullB c)) 0 (fullB c)) (0 : Int) 53)),
  Sim.byteOf (CV.i IntKind.u8 (SS.rdB (SS.wrote (SS.two (fullB c)) 0 (fullB c)) (0 : Int) 54)),
  Sim.byteOf (CV.i IntKind.u8 (SS.rdB (SS.wrote (SS.two (fullB c)) 0 (fullB c)) (0 : Int) 55)),
  Sim.byteOf (CV.i IntKind.u8 (SS.rdB (SS.wrote (SS.two (fullB c)) 0 (fullB c)) (0 : Int) 56)),
  Sim.byteOf (CV.i IntKind.u8 (SS.rdB (SS.wrote (SS.two (fullB c)) 0 (fullB c)) (0 : Int) 57)),
  Sim.byteOf (CV.i IntKind.u8 (SS.rdB (SS.wrote (SS.two (fullB c)) 0 (fullB c)) (0 : Int) 58)),
  Sim.byteOf (CV.i IntKind.u8 (SS.rdB (SS.wrote (SS.two (fullB c)) 0 (fullB c)) (0 : Int) 59)),
  Sim.byteOf (CV.i IntKind.u8 (SS.rdB (SS.wrote (SS.two (fullB c)) 0 (fullB c)) (0 : Int) 60)),
  Sim.byteOf (CV.i IntKind.u8 (SS.rdB (SS.wrote (SS.two (fullB c)) 0 (fullB c)) (0 : Int) 61)),
  Sim.byteOf (CV.i IntKind.u8 (SS.rdB (SS.wrote (SS.two (fullB c)) 0 (fullB c)) (0 : Int) 62)),
  Sim.byteOf (CV.i IntKind.u8 (SS.rdB (SS.wrote (SS.two (fullB c)) 0 (fullB c)) (0 : Int) 63))]
noncomputable def bl3 (c : Int) : List Nat := [Sim.byteOf (CV.i IntKind.u8 (fB c 0)),
  Sim.byteOf (CV.i IntKind.u8 (fB c 1)),
  Sim.byteOf (CV.i IntKind.u8 (fB c 2)),
  Sim.byteOf (CV.i IntKind.u8 (fB c 3)),
  Sim.byteOf (CV.i IntKind.u8 (fB c 4)),
  Sim.byteOf (CV.i IntKind.u8 (fB c 5)),
  Sim.byteOf (CV.i IntKind.u8 (fB c 6)),
  Sim.byteOf (CV.i IntKind.u8 (fB c 7)),
  Sim.byteOf (CV.i IntKind.u8 (fB c 8)),
  Sim.byteOf (CV.i IntKind.u8 (fB c 9)),
  Sim.byteOf (CV.i IntKind.u8 (fB c 10)),
  Sim.byteOf (CV.i IntKind.u8 (fB c 11)),
  Sim.byteOf (CV.i IntKind.u8 (fB c 12)),
  Sim.byteOf (CV.i IntKind.u8 (fB c 13)),
  Sim.byteOf (CV.i IntKind.u8 (fB c 14)),
  Sim.byteOf (CV.i IntKind.u8 (fB c 15)),
  Sim.byteOf (CV.i IntKind.u8 (fB c 16)),
  Sim.byteOf (CV.i IntKind.u8 (fB c 17)),
  Sim.byteOf (CV.i IntKind.u8 (fB c 18)),
  Sim.byteOf (CV.i IntKind.u8 (fB c 19)),
  Sim.byteOf (CV.i IntKind.u8 (fB c 20)),
  Sim.byteOf (CV.i IntKind.u8 (fB c 21)),
  Sim.byteOf (CV.i IntKind.u8 (fB c 22)),
  Sim.byteOf (CV.i IntKind.u8 (fB c 23)),
  Sim.byteOf (CV.i IntKind.u8 (fB c 24)),
  Sim.byteOf (CV.i IntKind.u8 (fB c 25)),
  Sim.byteOf (CV.i IntKind.u8 (fB c 26)),
  Sim.byteOf (CV.i IntKind.u8 (fB c 27)),
  Sim.byteOf (CV.i IntKind.u8 (fB c 28)),
  Sim.byteOf (CV.i IntKind.u8 (fB c 29)),
  Sim.byteOf (CV.i IntKind.u8 (fB c 30)),
  Sim.byteOf (CV.i IntKind.u8 (fB c 31)),
  Sim.byteOf (CV.i IntKind.u8 (fB c 32)),
  Sim.byteOf (CV.i IntKind.u8 (fB c 33)),
  Sim.byteOf (CV.i IntKind.u8 (fB c 34)),
  Sim.byteOf (CV.i IntKind.u8 (fB c 35)),
  Sim.byteOf (CV.i IntKind.u8 (fB c 36)),
  Sim.byteOf (CV.i IntKind.u8 (fB c 37)),
  Sim.byteOf (CV.i IntKind.u8 (fB c 38)),
  Sim.byteOf (CV.i IntKind.u8 (fB c 39)),
  Sim.byteOf (CV.i IntKind.u8 (fB c 40)),
  Sim.byteOf (CV.i IntKind.u8 (fB c 41)),
  Sim.byteOf (CV.i IntKind.u8 (fB c 42)),
  Sim.byteOf (CV.i IntKind.u8 (fB c 43)),
  Sim.byteOf (CV.i IntKind.u8 (fB c 44)),
  Sim.byteOf (CV.i IntKind.u8 (fB c 45)),
  Sim.byteOf (CV.i IntKind.u8 (fB c 46)),
  Sim.byteOf (CV.i IntKind.u8 (fB c 47)),
  Sim.byteOf (CV.i IntKind.u8 (fB c 48)),
  Sim.byteOf (CV.i IntKind.u8 (fB c 49)),
  Sim.byteOf (CV.i IntKind.u8 (fB c 50)),
  Sim.byteOf (CV.i IntKind.u8 (fB c 51)),
  Sim.byteOf (CV.i IntKind.u8 (fB c 52)),
  Sim.byteOf (CV.i IntKind.u8 (fB c 53)),
  Sim.byteOf (CV.i IntKind.u8 (fB c 54)),
  Sim.byteOf (CV.i IntKind.u8 (fB c 55)),
  Sim.byteOf (CV.i IntKind.u8 (fB c 56)),
  Sim.byteOf (CV.i IntKind.u8 (fB c 57)),
  Sim.byteOf (CV.i IntKind.u8 (fB c 58)),
  Sim.byteOf (CV.i IntKind.u8 (fB c 59)),
  Sim.byteOf (CV.i IntKind.u8 (fB c 60)),
  Sim.byteOf (CV.i IntKind.u8 (fB c 61)),
  Sim.byteOf (CV.i IntKind.u8 (fB c 62)),
  Sim.byteOf (CV.i IntKind.u8 (fB c 63))]
noncomputable def bl4 (c : Int) : List Nat := [Sim.byteOf (CV.i IntKind.u8 (SS.dur (SS.wrote (SS.two (fullB c)) 0 (fullB c)) 0 0)),
  Sim.byteOf (CV.i IntKind.u8 (SS.dur (SS.wrote (SS.two (fullB c)) 0 (fullB c)) 0 1)),
  Sim.byteOf (CV.i IntKind.u8 (SS.dur (SS.wrote (SS.two (fullB c)) 0 (fullB c)) 0 2)),
  Sim.byteOf (CV.i IntKind.u8 (SS.dur (SS.wrote (SS.two (fullB c)) 0 (fullB c)) 0 3)),
  Sim.byteOf (CV.i IntKind.u8 (SS.dur (SS.wrote (SS.two (fullB c)) 0 (fullB c)) 0 4)),
  Sim.byteOf (CV.i IntKind.u8 (SS.dur (SS.wrote (SS.two (fullB c)) 0 (fullB c)) 0 5)),
  Sim.byteOf (CV.i IntKind.u8 (SS.dur (SS.wrote (SS.two (fullB c)) 0 (fullB c)) 0 6)),
  Sim.byteOf (CV.i IntKind.u8 (SS.dur (SS.wrote (SS.two (fullB c)) 0 (fullB c)) 0 7)),
  Sim.byteOf (CV.i IntKind.u8 (SS.dur (SS.wrote (SS.two (fullB c)) 0 (fullB c)) 0 8)),
  Sim.byteOf (CV.i IntKind.u8 (SS.dur (SS.wrote (SS.two (fullB c)) 0 (fullB c)) 0 9)),
  Sim.byteOf (CV.i IntKind.u8 (SS.dur (SS.wrote (SS.two (fullB c)) 0 (fullB c)) 0 10)),
  Sim.byteOf (CV.i IntKind.u8 (SS.dur (SS.wrote (SS.two (fullB c)) 0 (fullB c)) 0 11)),
  Sim.byteOf (CV.i IntKind.u8 (SS.dur (SS.wrote (SS.two (fullB c)) 0 (fullB c)) 0 12)),
  Sim.byteOf (CV.i IntKind.u8 (SS.dur (SS.wrote (SS.two (fullB c)) 0 (fullB c)) 0 13)),
  Sim.byteOf (CV.i IntKind.u8 (SS.dur (SS.wrote (SS.two (fullB c)) 0 (fullB c)) 0 14)),
  Sim.byteOf (CV.i IntKind.u8 (SS.dur (SS.wrote (SS.two (fullB c)) 0 (fullB c)) 0 15)),
  Sim.byteOf (CV.i IntKind.u8 (SS.dur (SS.wrote (SS.two (fullB c)) 0 (fullB c)) 0 16)),
  Sim.byteOf (CV.i IntKind.u8 (SS.dur (SS.wrote (SS.two (fullB c)) 0 (fullB c)) 0 17)),
  Sim.byteOf (CV.i IntKind.u8 (SS.dur (SS.wrote (SS.two (fullB c)) 0 (fullB c)) 0 18)),
  Sim.byteOf (CV.i IntKind.u8 (SS.dur (SS.wrote (SS.two (fullB c)) 0 (fullB c)) 0 19)),
  Sim.byteOf (CV.i IntKind.u8 (SS.dur (SS.wrote (SS.two (fullB c)) 0 (fullB c)) 0 20)),
  Sim.byteOf (CV.i IntKind.u8 (SS.dur (SS.wrote (SS.two (fullB c)) 0 (fullB c)) 0 21)),
  Sim.byteOf (CV.i IntKind.u8 (SS.dur (SS.wrote (SS.two (fullB c)) 0 (fullB c)) 0 22)),
  Sim.byteOf (CV.i IntKind.u8 (SS.dur (SS.wrote (SS.two (fullB c)) 0 (fullB c)) 0 23)),
  Sim.byteOf (CV.i IntKind.u8 (SS.dur (SS.wrote (SS.two (fullB c)) 0 (fullB c)) 0 24)),
  Sim.byteOf (CV.i IntKind.u8 (SS.dur (SS.wrote (SS.two (fullB c)) 0 (fullB c)) 0 25)),
  Sim.byteOf (CV.i IntKind.u8 (SS.dur (SS.wrote (SS.two (fullB c)) 0 (fullB c)) 0 26)),
  Sim.byteOf (CV.i IntKind.u8 (SS.dur (SS.wrote (SS.two (fullB c)) 0 (fullB c)) 0 27)),
  Sim.byteOf (CV.i IntKind.u8 (SS.dur (SS.wrote (SS.two (fullB c)) 0 (fullB c)) 0 28)),
  Sim.byteOf (CV.i IntKind.u8 (SS.dur (SS.wrote (SS.two (fullB c)) 0 (fullB c)) 0 29)),
  Sim.byteOf (CV.i IntKind.u8 (SS.dur (SS.wrote (SS.two (fullB c)) 0 (fullB c)) 0 30)),
  Sim.byteOf (CV.i IntKind.u8 (SS.dur (SS.wrote (SS.two (fullB c)) 0 (fullB c)) 0 31)),
  Sim.byteOf (CV.i IntKind.u8 (SS.dur (SS.wrote (SS.two (fullB c)) 0 (fullB c)) 0 32)),
  Sim.byteOf (CV.i IntKind.u8 (SS.dur (SS.wrote (SS.two (fullB c)) 0 (fullB c)) 0 33)),
  Sim.byteOf (CV.i IntKind.u8 (SS.dur (SS.wrote (SS.two (fullB c)) 0 (fullB c)) 0 34)),
  Sim.byteOf (CV.i IntKind.u8 (SS.dur (SS.wrote (SS.two (fullB c)) 0 (fullB c)) 0 35)),
  Sim.byteOf (CV.i IntKind.u8 (SS.dur (SS.wrote (SS.two (fullB c)) 0 (fullB c)) 0 36)),
  Sim.byteOf (CV.i IntKind.u8 (SS.dur (SS.wrote (SS.two (fullB c)) 0 (fullB c)) 0 37)),
  Sim.byteOf (CV.i IntKind.u8 (SS.dur (SS.wrote (SS.two (fullB c)) 0 (fullB c)) 0 38)),
  Sim.byteOf (CV.i IntKind.u8 (SS.dur (SS.wrote (SS.two (fullB c)) 0 (fullB c)) 0 39)),
  Sim.byteOf (CV.i IntKind.u8 (SS.dur (SS.wrote (SS.two (fullB c)) 0 (fullB c)) 0 40)),
  Sim.byteOf (CV.i IntKind.u8 (SS.dur (SS.wrote (SS.two (fullB c)) 0 (fullB c)) 0 41)),
  Sim.byteOf (CV.i IntKind.u8 (SS.dur (SS.wrote (SS.two (fullB c)) 0 (fullB c)) 0 42)),
  Sim.byteOf (CV.i IntKind.u8 (SS.dur (SS.wrote (SS.two (fullB c)) 0 (fullB c)) 0 43)),
  Sim.byteOf (CV.i IntKind.u8 (SS.dur (SS.wrote (SS.two (fullB c)) 0 (fullB c)) 0 44)),
  Sim.byteOf (CV.i IntKind.u8 (SS.dur (SS.wrote (SS.two (fullB c)) 0 (fullB c)) 0 45)),
  Sim.byteOf (CV.i IntKind.u8 (SS.dur (SS.wrote (SS.two (fullB c)) 0 (fullB c)) 0 46)),
  Sim.byteOf (CV.i IntKind.u8 (SS.dur (SS.wrote (SS.two (fullB c)) 0 (fullB c)) 0 47)),
  Sim.byteOf (CV.i IntKind.u8 (SS.dur (SS.wrote (SS.two (fullB c)) 0 (fullB c)) 0 48)),
  Sim.byteOf (CV.i IntKind.u8 (SS.dur (SS.wrote (SS.two (fullB c)) 0 (fullB c)) 0 49)),
  Sim.byteOf (CV.i IntKind.u8 (SS.dur (SS.wrote (SS.two (fullB c)) 0 (fullB c)) 0 50)),
  Sim.byteOf (CV.i IntKind.u8 (SS.dur (SS.wrote (SS.two (fullB c)) 0 (fullB c)) 0 51)),
  Sim.byteOf (CV.i IntKind.u8 (SS.dur (SS.wrote (SS.two (fullB c)) 0 (fullB c)) 0 52)),
  Sim.byteOf (CV.i IntKind.u8 (SS.dur (SS.wrote (SS.two (fullB c)) 0 (fullB c)) 0 53)),
  Sim.byteOf (CV.i IntKind.u8 (SS.dur (SS.wrote (SS.two (fullB c)) 0 (fullB c)) 0 54)),
  Sim.byteOf (CV.i IntKind.u8 (SS.dur (SS.wrote (SS.two (fullB c)) 0 (fullB c)) 0 55)),
  Sim.byteOf (CV.i IntKind.u8 (SS.dur (SS.wrote (SS.two (fullB c)) 0 (fullB c)) 0 56)),
  Sim.byteOf (CV.i IntKind.u8 (SS.dur (SS.wrote (SS.two (fullB c)) 0 (fullB c)) 0 57)),
  Sim.byteOf (CV.i IntKind.u8 (SS.dur (SS.wrote (SS.two (fullB c)) 0 (fullB c)) 0 58)),
  Sim.byteOf (CV.i IntKind.u8 (SS.dur (SS.wrote (SS.two (fullB c)) 0 (fullB c)) 0 59)),
  Sim.byteOf (CV.i IntKind.u8 (SS.dur (SS.wrote (SS.two (fullB c)) 0 (fullB c)) 0 60)),
  Sim.byteOf (CV.i IntKind.u8 (SS.dur (SS.wrote (SS.two (fullB c)) 0 (fullB c)) 0 61)),
  Sim.byteOf (CV.i IntKind.u8 (SS.dur (SS.wrote (SS.two (fullB c)) 0 (fullB c)) 0 62)),
  Sim.byteOf (CV.i IntKind.u8 (SS.dur (SS.wrote (SS.two (fullB c)) 0 (fullB c)) 0 63))]
noncomputable def bl5 (c : Int) : List Nat := [Sim.byteOf (CV.i IntKind.u8 (SS.dur (SS.wrote (SS.two (fullB c)) 0 (fullB c)) 1 0)),
  Sim.byteOf (CV.i IntKind.u8 (SS.dur (SS.wrote (SS.two (fullB c)) 0 (fullB c)) 1 1)),
  Sim.byteOf (CV.i IntKind.u8 (SS.dur (SS.wrote (SS.two (fullB c)) 0 (fullB c)) 1 2)),
  Sim.byteOf (CV.i IntKind.u8 (SS.dur (SS.wrote (SS.two (fullB c)) 0 (fullB c)) 1 3)),
  Sim.byteOf (CV.i IntKind.u8 (SS.dur (SS.wrote (SS.two (fullB c)) 0 (fullB c)) 1 4)),
  Sim.byteOf (CV.i IntKind.u8 (SS.dur (SS.wrote (SS.two (fullB c)) 0 (fullB c)) 1 5)),
  Sim.byteOf (CV.i IntKind.u8 (SS.dur (SS.wrote (SS.two (fullB c)) 0 (fullB c)) 1 6)),
  Sim.byteOf (CV.i IntKind.u8 (SS.dur (SS.wrote (SS.two (fullB c)) 0 (fullB c)) 1 7)),
  Sim.byteOf (CV.i IntKind.u8 (SS.dur (SS.wrote (SS.two (fullB c)) 0 (fullB c)) 1 8)),
  Sim.byteOf (CV.i IntKind.u8 (SS.dur (SS.wrote (SS.two (fullB c)) 0 (fullB c)) 1 9)),
  Sim.byteOf (CV.i IntKind.u8 (SS.dur (SS.wrote (SS.two (fullB c)) 0 (fullB c)) 1 10)),
  Sim.byteOf (CV.i IntKind.u8 (SS.dur (SS.wrote (SS.two (fullB c)) 0 (fullB c)) 1 11)),
  Sim.byteOf (CV.i IntKind.u8 (SS.dur (SS.wrote (SS.two (fullB c)) 0 (fullB c)) 1 12)),
  Sim.byteOf (CV.i IntKind.u8 (SS.dur (SS.wrote (SS.two (fullB c)) 0 (fullB c)) 1 13)),
  Sim.byteOf (CV.i IntKind.u8 (SS.dur (SS.wrote (SS.two (fullB c)) 0 (fullB c)) 1 14)),
  Sim.byteOf (CV.i IntKind.u8 (SS.dur (SS.wrote (SS.two (fullB c)) 0 (fullB c)) 1 15)),
  Sim.byteOf (CV.i IntKind.u8 (SS.dur (SS.wrote (SS.two (fullB c)) 0 (fullB c)) 1 16)),
  Sim.byteOf (CV.i IntKind.u8 (SS.dur (SS.wrote (SS.two (fullB c)) 0 (fullB c)) 1 17)),
  Sim.byteOf (CV.i IntKind.u8 (SS.dur (SS.wrote (SS.two (fullB c)) 0 (fullB c)) 1 18)),
  Sim.byteOf (CV.i IntKind.u8 (SS.dur (SS.wrote (SS.two (fullB c)) 0 (fullB c)) 1 19)),
  Sim.byteOf (CV.i IntKind.u8 (SS.dur (SS.wrote (SS.two (fullB c)) 0 (fullB c)) 1 20)),
  Sim.byteOf (CV.i IntKind.u8 (SS.dur (SS.wrote (SS.two (fullB c)) 0 (fullB c)) 1 21)),
  Sim.byteOf (CV.i IntKind.u8 (SS.dur (SS.wrote (SS.two (fullB c)) 0 (fullB c)) 1 22)),
  Sim.byteOf (CV.i IntKind.u8 (SS.dur (SS.wrote (SS.two (fullB c)) 0 (fullB c)) 1 23)),
  Sim.byteOf (CV.i IntKind.u8 (SS.dur (SS.wrote (SS.two (fullB c)) 0 (fullB c)) 1 24)),
  Sim.byteOf (CV.i IntKind.u8 (SS.dur (SS.wrote (SS.two (fullB c)) 0 (fullB c)) 1 25)),
  Sim.byteOf (CV.i IntKind.u8 (SS.dur (SS.wrote (SS.two (fullB c)) 0 (fullB c)) 1 26)),
  Sim.byteOf (CV.i IntKind.u8 (SS.dur (SS.wrote (SS.two (fullB c)) 0 (fullB c)) 1 27)),
  Sim.byteOf (CV.i IntKind.u8 (SS.dur (SS.wrote (SS.two (fullB c)) 0 (fullB c)) 1 28)),
  Sim.byteOf (CV.i IntKind.u8 (SS.dur (SS.wrote (SS.two (fullB c)) 0 (fullB c)) 1 29)),
  Sim.byteOf (CV.i IntKind.u8 (SS.dur (SS.wrote (SS.two (fullB c)) 0 (fullB c)) 1 30)),
  Sim.byteOf (CV.i IntKind.u8 (SS.dur (SS.wrote (SS.two (fullB c)) 0 (fullB c)) 1 31)),
  Sim.byteOf (CV.i IntKind.u8 (SS.dur (SS.wrote (SS.two (fullB c)) 0 (fullB c)) 1 32)),
  Sim.byteOf (CV.i IntKind.u8 (SS.dur (SS.wrote (SS.two (fullB c)) 0 (fullB c)) 1 33)),
  Sim.byteOf (CV.i IntKind.u8 (SS.dur (SS.wrote (SS.two (fullB c)) 0 (fullB c)) 1 34)),
  Sim.byteOf (CV.i IntKind.u8 (SS.dur (SS.wrote (SS.two (fullB c)) 0 (fullB c)) 1 35)),
  Sim.byteOf (CV.i IntKind.u8 (SS.dur (SS.wrote (SS.two (fullB c)) 0 (fullB c)) 1 36)),
  Sim.byteOf (CV.i IntKind.u8 (SS.dur (SS.wrote (SS.two (fullB c)) 0 (fullB c)) 1 37)),
  Sim.byteOf (CV.i IntKind.u8 (SS.dur (SS.wrote (SS.two (fullB c)) 0 (fullB c)) 1 38)),
  Sim.byteOf (CV.i IntKind.u8 (SS.dur (SS.wrote (SS.two (fullB c)) 0 (fullB c)) 1 39)),
  Sim.byteOf (CV.i IntKind.u8 (SS.dur (SS.wrote (SS.two (fullB c)) 0 (fullB c)) 1 40)),
  Sim.byteOf (CV.i IntKind.u8 (SS.dur (SS.wrote (SS.two (fullB c)) 0 (fullB c)) 1 41)),
  Sim.byteOf (CV.i IntKind.u8 (SS.dur (SS.wrote (SS.two (fullB c)) 0 (fullB c)) 1 42)),
  Sim.byteOf (CV.i IntKind.u8 (SS.dur (SS.wrote (SS.two (fullB c)) 0 (fullB c)) 1 43)),
  Sim.byteOf (CV.i IntKind.u8 (SS.dur (SS.wrote (SS.two (fullB c)) 0 (fullB c)) 1 44)),
  Sim.byteOf (CV.i IntKind.u8 (SS.dur (SS.wrote (SS.two (fullB c)) 0 (fullB c)) 1 45)),
  Sim.byteOf (CV.i IntKind.u8 (SS.dur (SS.wrote (SS.two (fullB c)) 0 (fullB c)) 1 46)),
  Sim.byteOf (CV.i IntKind.u8 (SS.dur (SS.wrote (SS.two (fullB c)) 0 (fullB c)) 1 47)),
  Sim.byteOf (CV.i IntKind.u8 (SS.dur (SS.wrote (SS.two (fullB c)) 0 (fullB c)) 1 48)),
  Sim.byteOf (CV.i IntKind.u8 (SS.dur (SS.wrote (SS.two (fullB c)) 0 (fullB c)) 1 49)),
  Sim.byteOf (CV.i IntKind.u8 (SS.dur (SS.wrote (SS.two (fullB c)) 0 (fullB c)) 1 50)),
  Sim.byteOf (CV.i IntKind.u8 (SS.dur (SS.wrote (SS.two (fullB c)) 0 (fullB c)) 1 51)),
  Sim.byteOf (CV.i IntKind.u8 (SS.dur (SS.wrote (SS.two (fullB c)) 0 (fullB c)) 1 52)),
  Sim.byteOf (CV.i IntKind.u8 (SS.dur (SS.wrote (SS.two (fullB c)) 0 (fullB c)) 1 53)),
  Sim.byteOf (CV.i IntKind.u8 (SS.dur (SS.wrote (SS.two (fullB c)) 0 (fullB c)) 1 54)),
  Sim.byteOf (CV.i IntKind.u8 (SS.dur (SS.wrote (SS.two (fullB c)) 0 (fullB c)) 1 55)),
  Sim.byteOf (CV.i IntKind.u8 (SS.dur (SS.wrote (SS.two (fullB c)) 0 (fullB c)) 1 56)),
  Sim.byteOf (CV.i IntKind.u8 (SS.dur (SS.wrote (SS.two (fullB c)) 0 (fullB c)) 1 57)),
  Sim.byteOf (CV.i IntKind.u8 (SS.dur (SS.wrote (SS.two (fullB c)) 0 (fullB c)) 1 58)),
  Sim.byteOf (CV.i IntKind.u8 (SS.dur (SS.wrote (SS.two (fullB c)) 0 (fullB c)) 1 59)),
  Sim.byteOf (CV.i IntKind.u8 (SS.dur (SS.wrote (SS.two (fullB c)) 0 (fullB c)) 1 60)),
  Sim.byteOf (CV.i IntKind.u8 (SS.dur (SS.wrote (SS.two (fullB c)) 0 (fullB c)) 1 61)),
  Sim.byteOf (CV.i IntKind.u8 (SS.dur (SS.wrote (SS.two (fullB c)) 0 (fullB c)) 1 62)),
  Sim.byteOf (CV.i IntKind.u8 (SS.dur (SS.wrote (SS.two (fullB c)) 0 (fullB c)) 1 63))]

theorem own_vc (c : Int) (K : Res → Orc → Prop) : runK Try.prog 1000000 (.call 8 [.i .u8 c] (mkH [])) (Orc.cal [] (AV.b true) [] (Orc.c (Orc.cal [] (AV.lr 0 1 0 64 false) [Upd.set
  (AObj.rows 5 1 64 (fF c))] (Orc.cal [3, 2] (AV.tup [AV.p 2 0, AV.i IntKind.i64 (0 : Int)]) [Upd.keep, Upd.keep, Upd.set (SS.o (SS.two (fullB c)))] (Orc.c (Orc.c (Orc.c (Orc.c
  (Orc.c (Orc.c (Orc.c (Orc.cal [4, 2] (AV.i IntKind.i64 (0 : Int)) [Upd.set (SS.o (SS.wrote (SS.two (fullB c)) 0 (fullB c))), Upd.keep] (Orc.c (Orc.c (Orc.c (Orc.c (Orc.c (Orc.c
  (Orc.cal [] (AV.lr 0 1 0 64 false) [Upd.set (AObj.rows 5 1 64 (fF c))] (Orc.c (Orc.c (Orc.c (Orc.c (Orc.s Orc.z (Orc.lop [2, 4] [0, 3, 4, 56, 57, 58] 2 (XO.exit 0) [(0, AV.i
  IntKind.u8 c), (4, AV.p 1 0)] [none, some (SS.o (SS.wrote (SS.two (fullB c)) 0 (fullB c)))] (Orc.cal [4] (AV.tup [AV.lr 1 1 0 (SS.rdN (SS.wrote (SS.two (fullB c)) 0 (fullB c)) (0
  : Int)) true, AV.i IntKind.i64 (SS.rdE (SS.wrote (SS.two (fullB c)) 0 (fullB c)) (0 : Int))]) [Upd.keep, Upd.set (AObj.rows 64 1 (SS.rdN (SS.wrote (SS.two (fullB c)) 0 (fullB c))
  (0 : Int)) fun k x => CV.i IntKind.u8 (SS.rdB (SS.wrote (SS.two (fullB c)) 0 (fullB c)) (0 : Int) k))] (Orc.cal [4] (AV.tup [AV.lr 1 1 0 (SS.rdN (SS.wrote (SS.two (fullB c)) 0
  (fullB c)) (0 : Int)) true, AV.i IntKind.i64 (SS.rdE (SS.wrote (SS.two (fullB c)) 0 (fullB c)) (0 : Int))]) [Upd.keep, Upd.set (AObj.rows 64 1 (SS.rdN (SS.wrote (SS.two (fullB c))
  0 (fullB c)) (0 : Int)) fun k x => CV.i IntKind.u8 (SS.rdB (SS.wrote (SS.two (fullB c)) 0 (fullB c)) (0 : Int) k))] (Orc.inl (Orc.c (Orc.c (Orc.inl (Orc.c (Orc.c (Orc.c (Orc.c
  (Orc.cal [] (AV.lr 0 1 0 64 true) [Upd.set (AObj.rows 64 1 64 fun k x => CV.i IntKind.u8 (SS.dur (SS.wrote (SS.two (fullB c)) 0 (fullB c)) 0 k))] (Orc.c (Orc.inl (Orc.c (Orc.c
  (Orc.c (Orc.c (Orc.cal [] (AV.lr 0 1 0 64 true) [Upd.set (AObj.rows 64 1 64 fun k x => CV.i IntKind.u8 (SS.dur (SS.wrote (SS.two (fullB c)) 0 (fullB c)) 1 k))] (Orc.c (Orc.inl
  (Orc.c (Orc.inl (Orc.c (Orc.c (Orc.inl (Orc.c (Orc.c (Orc.c (Orc.c (Orc.cal [] (AV.lr 0 1 0 64 true) [Upd.set (AObj.rows 64 1 64 fun k x => CV.i IntKind.u8 (SS.dur (SS.wrote
  (SS.two (fullB c)) 0 (fullB c)) 0 k))] (Orc.c (Orc.inl (Orc.c (Orc.c (Orc.c (Orc.c (Orc.cal [] (AV.lr 0 1 0 64 true) [Upd.set (AObj.rows 64 1 64 fun k x => CV.i IntKind.u8 (SS.dur
  (SS.wrote (SS.two (fullB c)) 0 (fullB c)) 1 k))] (Orc.c (Orc.inl (Orc.c (Orc.c (Orc.c (Orc.c (Orc.c (Orc.c (Orc.lop [6, 7, 8, 9, 10, 11, 12, 13] [0, 7, 9, 11, 12, 87, 88, 89] 8
  (XO.exit 2) [(0, AV.i IntKind.u8 c), (7, AV.lr 0 1 0 64 true), (9, AV.lr 1 1 0 64 true), (11, AV.l 2 0 2 2 1 true), (12, AV.l 5 0 2 2 1 true)] [some (AObj.rows 64 1 64 fun x x_1
  => CV.i IntKind.u8 (97 : Int)), some (AObj.rows 64 1 64 fun k x => CV.i IntKind.u8 (SS.rdB (SS.wrote (SS.two (fullB c)) 0 (fullB c)) (0 : Int) k)), some (cellsD 35 [AV.l0] [AV.lr
  3 1 0 64 true, AV.lr 4 1 0 64 true]), some (AObj.rows 64 1 64 fun x x_1 => CV.i IntKind.u8 (112 : Int)), some (AObj.rows 64 1 64 fun x x_1 => CV.i IntKind.u8 (113 : Int)), some
  (cellsD 35 [AV.l0] [AV.lr 6 1 0 64 true, AV.lr 7 1 0 64 true]), some (AObj.rows 64 1 64 fun k x => CV.i IntKind.u8 (SS.dur (SS.wrote (SS.two (fullB c)) 0 (fullB c)) 0 k)), some
  (AObj.rows 64 1 64 fun k x => CV.i IntKind.u8 (SS.dur (SS.wrote (SS.two (fullB c)) 0 (fullB c)) 1 k))] (Orc.lop [6, 7, 8, 9, 10, 11, 12, 13] [0, 7, 9, 11, 12, 14] 0 (XO.exit 4)
  [(0, AV.i IntKind.u8 c), (9, AV.lr 0 1 0 64 true), (12, AV.l 1 0 2 2 1 true)] [some (AObj.rows 64 1 64 fun k x => CV.i IntKind.u8 (SS.rdB (SS.wrote (SS.two (fullB c)) 0 (fullB c))
  (0 : Int) k)), some (cellsD 35 [AV.l0] [AV.lr 2 1 0 64 true, AV.lr 3 1 0 64 true]), some (AObj.rows 64 1 64 fun k x => CV.i IntKind.u8 (SS.dur (SS.wrote (SS.two (fullB c)) 0
  (fullB c)) 0 k)), some (AObj.rows 64 1 64 fun k x => CV.i IntKind.u8 (SS.dur (SS.wrote (SS.two (fullB c)) 0 (fullB c)) 1 k))] (Orc.inl (Orc.c (Orc.inl (Orc.c (Orc.inl (Orc.inl
  (Orc.c (Orc.c (Orc.cal [] (AV.lr 0 1 0 64 false) [Upd.set (AObj.rows 5 1 64 (fF c))] (Orc.s (Orc.t (Orc.c (Orc.t (Orc.t (Orc.t (Orc.t (Orc.t (Orc.s (Orc.t (Orc.c (Orc.t (Orc.t
  (Orc.t (Orc.t (Orc.t (Orc.s (Orc.t (Orc.t (Orc.inl (Orc.inl (Orc.c (Orc.c (Orc.t (Orc.t (Orc.c (Orc.c (Orc.c (Orc.c (Orc.c (Orc.c (Orc.c (Orc.c (Orc.c (Orc.inl (Orc.inl (Orc.c
  (Orc.c (Orc.c (Orc.c (Orc.c (Orc.c (Orc.inl (Orc.c (Orc.c (Orc.c (Orc.c (Orc.c (Orc.inl (Orc.c (Orc.c (Orc.c (Orc.c (Orc.c (Orc.c (Orc.c (Orc.c (Orc.c (Orc.inl (Orc.c (Orc.c
  (Orc.c (Orc.c (Orc.c (Orc.inl (Orc.c (Orc.c (Orc.c (Orc.c (Orc.c (Orc.inl (Orc.c (Orc.c (Orc.c (Orc.c (Orc.c (Orc.inl (Orc.c (Orc.c (Orc.c (Orc.c
  Orc.z)))))))))))))))))))))))))))))))))))))))))))))))))))))))))))))))) (Orc.f (Orc.f (Orc.f (Orc.f (Orc.c (Orc.c (Orc.c (Orc.c (Orc.c (Orc.c (Orc.c (Orc.c (Orc.c (Orc.c (Orc.c
  (Orc.c (Orc.c (Orc.c (Orc.c (Orc.c (Orc.c (Orc.c (Orc.c (Orc.c (Orc.c (Orc.c (Orc.c (Orc.c (Orc.c (Orc.c (Orc.c (Orc.c (Orc.c (Orc.c (Orc.c (Orc.c (Orc.c (Orc.c (Orc.c (Orc.c
  Orc.z)))))))))))))))))))))))))))))))))))))))))))))))) (Orc.f (Orc.f (Orc.f (Orc.f (Orc.f (Orc.f (Orc.c (Orc.c (Orc.c (Orc.c (Orc.c (Orc.c (Orc.c (Orc.c (Orc.c (Orc.c (Orc.c (Orc.c
  (Orc.c (Orc.c (Orc.c (Orc.c (Orc.c (Orc.c (Orc.c (Orc.c (Orc.c (Orc.c (Orc.c (Orc.c (Orc.c (Orc.c (Orc.c (Orc.c (Orc.c (Orc.c (Orc.c (Orc.c (Orc.c (Orc.c (Orc.c (Orc.c (Orc.c
  (Orc.c (Orc.c (Orc.c (Orc.c Orc.z))))))))))))))))))))))))))))))))))))))))))))))))))))))) (Orc.f (Orc.f (Orc.f (Orc.f (Orc.f (Orc.f (Orc.c (Orc.c (Orc.c (Orc.c (Orc.c (Orc.c (Orc.c
  (Orc.c (Orc.c (Orc.c (Orc.c (Orc.c (Orc.c (Orc.c (Orc.c (Orc.c (Orc.c (Orc.c (Orc.c (Orc.c (Orc.c (Orc.c (Orc.c (Orc.c (Orc.c (Orc.c (Orc.c (Orc.c (Orc.c (Orc.c (Orc.c (Orc.c
  (Orc.c (Orc.c (Orc.c (Orc.c (Orc.c (Orc.c (Orc.c (Orc.c (Orc.c (Orc.c (Orc.c (Orc.c (Orc.c (Orc.c (Orc.c (Orc.c
  Orc.z)))))))))))))))))))))))))))))))))))))))))))))))))))))))))))))))))))))))))))))))))))))))))))))))))))))))))))))))))))))))))))))))))))))))) K = (Con Try.prog 11 [] [] (AV.b
  true) [] ∧ True ∧ Con Try.prog 25 [AV.i IntKind.u8 c, AV.i IntKind.i64 (64 : Int)] [] (AV.lr 0 1 0 64 false) [Upd.set (AObj.rows 5 1 64 (fF c))] ∧ (64 ≤ 64 ∧ True ∧ 66 ≤
  140737488355328 ∧ 900 ≤ 281474976710656) ∧ (True ∧ (0 : Int) ≤ (64 : Int) ∧ 0 ≤ 64 ∧ 64 ≤ 66 ∧ (0 = 0 ∨ 0 < 66)) ∧ (True ∧ (0 : Int) ≤ (64 : Int) ∧ 0 ≤ 64 ∧ 64 ≤ 66 ∧ (0 = 0 ∨ 0 <
  66)) ∧ Con Try.prog 10 [AV.l 0 0 2 2 1 true] [some (cellsO 35 [AV.lr 1 1 0 64 false, AV.lr 1 1 0 64 false]), some (AObj.rows 5 1 66 (appZ 64 (fun i x => CV.i IntKind.u8 (fB c i))
  (listF 1 [CV.i IntKind.u8 (91 : Int), CV.i IntKind.u8 (92 : Int)] 2)))] (AV.tup [AV.p 2 0, AV.i IntKind.i64 (0 : Int)]) [Upd.keep, Upd.keep, Upd.set (SS.o (SS.two (fullB c)))] ∧
  True ∧ (True ∧ (0 : Int) ≤ (64 : Int) ∧ 0 ≤ 64 ∧ 64 ≤ 66 ∧ (0 = 0 ∨ 0 < 66)) ∧ Con Try.prog 24 [AV.p 0 0, AV.i IntKind.i64 (0 : Int), AV.lr 1 1 0 64 false] [some (SS.o (SS.two
  (fullB c))), some (AObj.rows 5 1 66 (appZ 64 (fun i x => CV.i IntKind.u8 (fB c i)) (listF 1 [CV.i IntKind.u8 (91 : Int), CV.i IntKind.u8 (92 : Int)] 2)))] (AV.i IntKind.i64 (0 :
  Int)) [Upd.set (SS.o (SS.wrote (SS.two (fullB c)) 0 (fullB c))), Upd.keep] ∧ (U8s 66 (appZ 64 (fun i x => CV.i IntKind.u8 (fB c i)) fun i j => zipCV (Nat.beq i 0) (List.getD [CV.i
  IntKind.u8 (91 : Int), CV.i IntKind.u8 (92 : Int)] j CV.p0) (Nat.rec (motive := fun x => List CV → Nat → Nat → CV) (fun x x_1 x_2 => CV.p0) (fun n ih cvs => Nat.rec (motive := fun
  x => Nat → Nat → CV) (fun x j => List.getD cvs j CV.p0) (fun x x_1 i j => zipCV (Nat.beq i 0) (List.getD cvs j CV.p0) (ih (List.drop 1 cvs) (i - 1) j)) n) 1 [CV.i IntKind.u8 (92 :
  Int)] (i - 1) j)) ∧ 66 ≤ 66) ∧ Con Try.prog 25 [AV.i IntKind.u8 c, AV.i IntKind.i64 (64 : Int)] [] (AV.lr 0 1 0 64 false) [Upd.set (AObj.rows 5 1 64 (fF c))] ∧ (U8s 64 (fF c) ∧ 64
  ≤ 64) ∧ 66 ≤ 1073741824 ∧ ((!natsEq (bl0 c) (bl1 c)) = true → K (Res.rv (AV.b false) { tree := T.n none (T.n (some (AObj.cells 5 2 [] (T.n (some (AV.i IntKind.u8 (91 : Int))) (T.n (some (AV.i IntKind.u8 (92 : Int))) T.e T.e) T.e))) (T.n (some (AObj.cells 35 2 [] (T.n (some (AV.lr 2 1 0 64 false)) (T.n (some (AV.lr 2 1 0 64 false)) T.e T.e) T.e))) T.e T.e) (T.n (some (AObj.rows 5 1 64 (fF c))) T.e T.e)) (T.n (some (AObj.rows 5 1 66 (appZ 64 (fun i x => CV.i IntKind.u8 (fB c i)) fun i j => zipCV (Nat.beq i 0) (List.getD [CV.i IntKind.u8 (91 : Int), CV.i IntKind.u8 (92 : Int)] j CV.p0) (Nat.rec (motive := fun x => List CV → Nat → Nat → CV) (fun x x_1 x_2 => CV.p0) (fun n ih cvs => Nat.rec (motive := fun x => Nat → Nat → CV) (fun x j => List.getD cvs j CV.p0) (fun x x_1 i j => zipCV (Nat.beq i 0) (List.getD cvs j CV.p0) (ih (List.drop 1 cvs) (i - 1) j)) n) 1 [CV.i IntKind.u8 (92 : Int)] (i - 1) j)))) (T.n (some (AObj.segs 73 33799 [{ st := 0, sz := 1, n := 1, f := oneF (CV.i IntKind.i64 (Int.ofNat (SS.n (SS.wrote (SS.two (fullB c)) 0 (fullB c))))) }, { st := 1, sz := 65, n := 512, f := durF (SS.dur (SS.wrote (SS.two (fullB c)) 0 (fullB c))) (SS.torn (SS.wrote (SS.two (fullB c)) 0 (fullB c))) }, { st := 33281, sz := 1, n := 1, f := oneF (CV.opv (pB (SS.P (SS.wrote (SS.two (fullB c)) 0 (fullB c)))) 66 (pW (SS.P (SS.wrote (SS.two (fullB c)) 0 (fullB c))))) }, { st := 33282, sz := 1, n := 512, f := latF (lB (SS.P (SS.wrote (SS.two (fullB c)) 0 (fullB c)))) (lW (SS.P (SS.wrote (SS.two (fullB c)) 0 (fullB c)))) }, { st := 33794, sz := 5, n := 1, f := tailF (Int.ofNat (List.length (SS.P (SS.wrote (SS.two (fullB c)) 0 (fullB c))))) (Int.ofNat (SS.wr (SS.wrote (SS.two (fullB c)) 0 (fullB c)))) (SS.off (SS.wrote (SS.two (fullB c)) 0 (fullB c))) (SS.armed (SS.wrote (SS.two (fullB c)) 0 (fullB c))) (Int.ofNat (SS.left (SS.wrote (SS.two (fullB c)) 0 (fullB c)))) }])) T.e T.e) T.e), next := 6, log := [5, 4, 4, 3, 2, 0, 1, 0] })
  Orc.z) ∧ ((!natsEq (bl0 c) (bl1 c)) = false → LDoes Try.prog (loopAt Try.prog 8 0) 203 2 (mkT [(0, AV.i IntKind.u8 c), (3, AV.lr 0 1 0 66 false), (4, AV.p 1 0), (56, AV.lr 0 1 0
  66 false), (57, AV.i IntKind.i64 (Int.ofNat 66)), (58, AV.i IntKind.i64 (0 : Int))]) [some (AObj.rows 5 1 66 (appZ 64 (fun i x => CV.i IntKind.u8 (fB c i)) fun i j => zipCV
  (Nat.beq i 0) (List.getD [CV.i IntKind.u8 (91 : Int), CV.i IntKind.u8 (92 : Int)] j CV.p0) (Nat.rec (motive := fun x => List CV → Nat → Nat → CV) (fun x x_1 x_2 => CV.p0) (fun n
  ih cvs => Nat.rec (motive := fun x => Nat → Nat → CV) (fun x j => List.getD cvs j CV.p0) (fun x x_1 i j => zipCV (Nat.beq i 0) (List.getD cvs j CV.p0) (ih (List.drop 1 cvs) (i -
  1) j)) n) 1 [CV.i IntKind.u8 (92 : Int)] (i - 1) j))), some (SS.o (SS.wrote (SS.two (fullB c)) 0 (fullB c)))] (XO.exit 0) (mkT [(0, AV.i IntKind.u8 c), (4, AV.p 1 0)]) [none, some
  (SS.o (SS.wrote (SS.two (fullB c)) 0 (fullB c)))] ∧ Con Try.prog 14 [AV.p 0 0, AV.i IntKind.i64 (0 : Int)] [some (SS.o (SS.wrote (SS.two (fullB c)) 0 (fullB c)))] (AV.tup [AV.lr 1
  1 0 (SS.rdN (SS.wrote (SS.two (fullB c)) 0 (fullB c)) (0 : Int)) true, AV.i IntKind.i64 (SS.rdE (SS.wrote (SS.two (fullB c)) 0 (fullB c)) (0 : Int))]) [Upd.keep, Upd.set
  (AObj.rows 64 1 (SS.rdN (SS.wrote (SS.two (fullB c)) 0 (fullB c)) (0 : Int)) fun k x => CV.i IntKind.u8 (SS.rdB (SS.wrote (SS.two (fullB c)) 0 (fullB c)) (0 : Int) k))] ∧ Con
  Try.prog 14 [AV.p 0 0, AV.i IntKind.i64 (0 : Int)] [some (SS.o (SS.wrote (SS.two (fullB c)) 0 (fullB c)))] (AV.tup [AV.lr 1 1 0 (SS.rdN (SS.wrote (SS.two (fullB c)) 0 (fullB c))
  (0 : Int)) true, AV.i IntKind.i64 (SS.rdE (SS.wrote (SS.two (fullB c)) 0 (fullB c)) (0 : Int))]) [Upd.keep, Upd.set (AObj.rows 64 1 (SS.rdN (SS.wrote (SS.two (fullB c)) 0 (fullB
  c)) (0 : Int)) fun k x => CV.i IntKind.u8 (SS.rdB (SS.wrote (SS.two (fullB c)) 0 (fullB c)) (0 : Int) k))] ∧ True ∧ True ∧ True ∧ True ∧ True ∧ True ∧ True ∧ True ∧ True ∧ True ∧
  Con Try.prog 37 [AV.agg (cvL (fun k => CV.i IntKind.u8 (SS.dur (SS.wrote (SS.two (fullB c)) 0 (fullB c)) 0 k)) 0 64)] [] (AV.lr 0 1 0 64 true) [Upd.set (AObj.rows 64 1 64 fun k x
  => CV.i IntKind.u8 (SS.dur (SS.wrote (SS.two (fullB c)) 0 (fullB c)) 0 k))] ∧ ((-9223372036854775808 : Int) ≤ (1 : Int) ∧ (1 : Int) ≤ (9223372036854775807 : Int)) ∧ True ∧ True ∧
  True ∧ True ∧ True ∧ True ∧ True ∧ Con Try.prog 37 [AV.agg (cvL (fun k => CV.i IntKind.u8 (SS.dur (SS.wrote (SS.two (fullB c)) 0 (fullB c)) 1 k)) 0 64)] [] (AV.lr 0 1 0 64 true)
  [Upd.set (AObj.rows 64 1 64 fun k x => CV.i IntKind.u8 (SS.dur (SS.wrote (SS.two (fullB c)) 0 (fullB c)) 1 k))] ∧ ((-9223372036854775808 : Int) ≤ (2 : Int) ∧ (2 : Int) ≤
  (9223372036854775807 : Int)) ∧ True ∧ True ∧ True ∧ True ∧ True ∧ True ∧ True ∧ True ∧ True ∧ True ∧ Con Try.prog 37 [AV.agg (cvL (fun k => CV.i IntKind.u8 (SS.dur (SS.wrote
  (SS.two (fullB c)) 0 (fullB c)) 0 k)) 0 64)] [] (AV.lr 0 1 0 64 true) [Upd.set (AObj.rows 64 1 64 fun k x => CV.i IntKind.u8 (SS.dur (SS.wrote (SS.two (fullB c)) 0 (fullB c)) 0
  k))] ∧ ((-9223372036854775808 : Int) ≤ (1 : Int) ∧ (1 : Int) ≤ (9223372036854775807 : Int)) ∧ True ∧ True ∧ True ∧ True ∧ True ∧ True ∧ True ∧ Con Try.prog 37 [AV.agg (cvL (fun k
  => CV.i IntKind.u8 (SS.dur (SS.wrote (SS.two (fullB c)) 0 (fullB c)) 1 k)) 0 64)] [] (AV.lr 0 1 0 64 true) [Upd.set (AObj.rows 64 1 64 fun k x => CV.i IntKind.u8 (SS.dur (SS.wrote
  (SS.two (fullB c)) 0 (fullB c)) 1 k))] ∧ ((-9223372036854775808 : Int) ≤ (2 : Int) ∧ (2 : Int) ≤ (9223372036854775807 : Int)) ∧ LDoes Try.prog (loopAt Try.prog 8 1) 203 8 (mkT
  [(0, AV.i IntKind.u8 c), (7, AV.lr 0 1 0 64 true), (9, AV.lr 1 1 0 64 true), (11, AV.l 2 0 2 2 1 true), (12, AV.l 5 0 2 2 1 true), (87, AV.lr 0 1 0 64 true), (88, AV.i IntKind.i64
  (64 : Int)), (89, AV.i IntKind.i64 (0 : Int))]) [some (AObj.rows 64 1 64 fun k x => CV.i IntKind.u8 (SS.rdB (SS.wrote (SS.two (fullB c)) 0 (fullB c)) (0 : Int) k)), some
  (AObj.rows 64 1 64 fun k x => CV.i IntKind.u8 (SS.rdB (SS.wrote (SS.two (fullB c)) 0 (fullB c)) (0 : Int) k)), some (cellsD 35 [AV.l0] [AV.lr 3 1 0 64 true, AV.lr 4 1 0 64 true]),
  some (AObj.rows 64 1 64 fun k x => CV.i IntKind.u8 (SS.dur (SS.wrote (SS.two (fullB c)) 0 (fullB c)) 0 k)), some (AObj.rows 64 1 64 fun k x => CV.i IntKind.u8 (SS.dur (SS.wrote
  (SS.two (fullB c)) 0 (fullB c)) 1 k)), some (cellsD 35 [AV.l0] [AV.lr 6 1 0 64 true, AV.lr 7 1 0 64 true]), some (AObj.rows 64 1 64 fun k x => CV.i IntKind.u8 (SS.dur (SS.wrote
  (SS.two (fullB c)) 0 (fullB c)) 0 k)), some (AObj.rows 64 1 64 fun k x => CV.i IntKind.u8 (SS.dur (SS.wrote (SS.two (fullB c)) 0 (fullB c)) 1 k))] (XO.exit 2) (mkT [(0, AV.i
  IntKind.u8 c), (7, AV.lr 0 1 0 64 true), (9, AV.lr 1 1 0 64 true), (11, AV.l 2 0 2 2 1 true), (12, AV.l 5 0 2 2 1 true)]) [some (AObj.rows 64 1 64 fun x x_1 => CV.i IntKind.u8 (97
  : Int)), some (AObj.rows 64 1 64 fun k x => CV.i IntKind.u8 (SS.rdB (SS.wrote (SS.two (fullB c)) 0 (fullB c)) (0 : Int) k)), some (cellsD 35 [AV.l0] [AV.lr 3 1 0 64 true, AV.lr 4
  1 0 64 true]), some (AObj.rows 64 1 64 fun x x_1 => CV.i IntKind.u8 (112 : Int)), some (AObj.rows 64 1 64 fun x x_1 => CV.i IntKind.u8 (113 : Int)), some (cellsD 35 [AV.l0] [AV.lr
  6 1 0 64 true, AV.lr 7 1 0 64 true]), some (AObj.rows 64 1 64 fun k x => CV.i IntKind.u8 (SS.dur (SS.wrote (SS.two (fullB c)) 0 (fullB c)) 0 k)), some (AObj.rows 64 1 64 fun k x
  => CV.i IntKind.u8 (SS.dur (SS.wrote (SS.two (fullB c)) 0 (fullB c)) 1 k))] ∧ LDoes Try.prog (loopAt Try.prog 8 2) 203 0 (mkT [(0, AV.i IntKind.u8 c), (7, AV.lr 0 1 0 64 true),
  (9, AV.lr 1 1 0 64 true), (11, AV.l 2 0 2 2 1 true), (12, AV.l 5 0 2 2 1 true), (14, AV.i IntKind.i64 (0 : Int))]) (zO' 64 true 64 64 (fun x x_1 => CV.i IntKind.u8 (97 : Int))
  (fun x x_1 => CV.i IntKind.u8 (112 : Int)) (SS.rdB (SS.wrote (SS.two (fullB c)) 0 (fullB c)) (0 : Int)) (SS.dur (SS.wrote (SS.two (fullB c)) 0 (fullB c)) 0) (SS.dur (SS.wrote
  (SS.two (fullB c)) 0 (fullB c)) 1)) (XO.exit 4) (mkT [(0, AV.i IntKind.u8 c), (9, AV.lr 0 1 0 64 true), (12, AV.l 1 0 2 2 1 true)]) [some (AObj.rows 64 1 64 fun k x => CV.i
  IntKind.u8 (SS.rdB (SS.wrote (SS.two (fullB c)) 0 (fullB c)) (0 : Int) k)), some (cellsD 35 [AV.l0] [AV.lr 2 1 0 64 true, AV.lr 3 1 0 64 true]), some (AObj.rows 64 1 64 fun k x =>
  CV.i IntKind.u8 (SS.dur (SS.wrote (SS.two (fullB c)) 0 (fullB c)) 0 k)), some (AObj.rows 64 1 64 fun k x => CV.i IntKind.u8 (SS.dur (SS.wrote (SS.two (fullB c)) 0 (fullB c)) 1
  k))] ∧ True ∧ True ∧ True ∧ Con Try.prog 25 [AV.i IntKind.u8 c, AV.i IntKind.i64 (64 : Int)] [] (AV.lr 0 1 0 64 false) [Upd.set (AObj.rows 5 1 64 (fF c))] ∧ (U8s 64 (fF c) ∧ 64 ≤
  64) ∧ ((U8s 64 fun k x => CV.i IntKind.u8 (SS.rdB (SS.wrote (SS.two (fullB c)) 0 (fullB c)) (0 : Int) k)) ∧ 64 ≤ 64) ∧ (natsEq (bl2 c) (bl3 c) = true → natsEq (bl2 c) (bl3 c) =
  true ∧ natsEq (bl2 c) (bl3 c) = true ∧ natsEq (bl2 c) (bl3 c) = true ∧ ((U8s 64 fun k x => CV.i IntKind.u8 (SS.dur (SS.wrote (SS.two (fullB c)) 0 (fullB c)) 0 k)) ∧ 64 ≤ 64) ∧
  natsEq (bl2 c) (bl3 c) = true ∧ natsEq (bl2 c) (bl3 c) = true ∧ natsEq (bl2 c) (bl3 c) = true ∧ (natsEq (bl4 c) (bl3 c) = true → natsEq (bl4 c) (bl3 c) = true ∧ natsEq (bl4 c)
  (bl3 c) = true ∧ natsEq (bl4 c) (bl3 c) = true ∧ ((U8s 64 fun k x => CV.i IntKind.u8 (SS.dur (SS.wrote (SS.two (fullB c)) 0 (fullB c)) 1 k)) ∧ 64 ≤ 64) ∧ natsEq (bl4 c) (bl3 c) =
  true ∧ natsEq (bl4 c) (bl3 c) = true ∧ natsEq (bl4 c) (bl3 c) = true ∧ (natsEq (bl5 c) (bl3 c) = true → natsEq (bl5 c) (bl3 c) = true ∧ natsEq (bl5 c) (bl3 c) = true ∧ True ∧
  natsEq (bl5 c) (bl3 c) = true ∧ natsEq (bl5 c) (bl3 c) = true ∧ True ∧ True ∧ True ∧ True ∧ True ∧ True ∧ True ∧ True ∧ K (Res.rv (AV.b true) { tree := T.n none (T.n (some (AObj.cells 5 2 [] (T.n (some (AV.i IntKind.u8 (91 : Int))) (T.n (some (AV.i IntKind.u8 (92 : Int))) T.e T.e) T.e))) (T.n (some (AObj.cells 35 2 [] (T.n (some (AV.lr 2 1 0 64 false)) (T.n (some (AV.lr 2 1 0 64 false)) T.e T.e) T.e))) (T.n none (T.n (some (AObj.cells 35 2 [AV.l0] (T.n (some (AV.lr 16 1 0 64 true)) (T.n (some (AV.lr 17 1 0 64 true)) T.e T.e) T.e))) T.e T.e) T.e) (T.n none T.e T.e)) (T.n (some (AObj.rows 5 1 64 (fF c))) (T.n none (T.n (some (AObj.rows 64 1 64 fun k x => CV.i IntKind.u8 (SS.dur (SS.wrote (SS.two (fullB c)) 0 (fullB c)) 1 k))) T.e T.e) T.e) (T.n none T.e T.e))) (T.n none (T.n (some (AObj.segs 73 33799 [{ st := 0, sz := 1, n := 1, f := oneF (CV.i IntKind.i64 (Int.ofNat (SS.n (SS.wrote (SS.two (fullB c)) 0 (fullB c))))) }, { st := 1, sz := 65, n := 512, f := durF (SS.dur (SS.wrote (SS.two (fullB c)) 0 (fullB c))) (SS.torn (SS.wrote (SS.two (fullB c)) 0 (fullB c))) }, { st := 33281, sz := 1, n := 1, f := oneF (CV.opv (pB (SS.P (SS.wrote (SS.two (fullB c)) 0 (fullB c)))) 66 (pW (SS.P (SS.wrote (SS.two (fullB c)) 0 (fullB c))))) }, { st := 33282, sz := 1, n := 512, f := latF (lB (SS.P (SS.wrote (SS.two (fullB c)) 0 (fullB c)))) (lW (SS.P (SS.wrote (SS.two (fullB c)) 0 (fullB c)))) }, { st := 33794, sz := 5, n := 1, f := tailF (Int.ofNat (List.length (SS.P (SS.wrote (SS.two (fullB c)) 0 (fullB c))))) (Int.ofNat (SS.wr (SS.wrote (SS.two (fullB c)) 0 (fullB c)))) (SS.off (SS.wrote (SS.two (fullB c)) 0 (fullB c))) (SS.armed (SS.wrote (SS.two (fullB c)) 0 (fullB c))) (Int.ofNat (SS.left (SS.wrote (SS.two (fullB c)) 0 (fullB c)))) }])) (T.n none (T.n (some (AObj.rows 64 1 64 fun k x => CV.i IntKind.u8 (SS.dur (SS.wrote (SS.two (fullB c)) 0 (fullB c)) 0 k))) T.e T.e) T.e) (T.n none T.e T.e)) (T.n none (T.n none (T.n (some (AObj.rows 5 1 64 (fF c))) T.e T.e) T.e) (T.n (some (AObj.rows 64 1 64 fun k x => CV.i IntKind.u8 (SS.rdB (SS.wrote (SS.two (fullB c)) 0 (fullB c)) (0 : Int) k))) T.e T.e))), next := 19, log := [18, 17, 16, 15, 14, 13, 12, 11, 10, 9, 8, 7, 6, 13, 12, 11, 10, 9, 8, 7, 6, 11, 13, 11, 12, 11, 8, 10, 8, 9, 8, 7, 6, 4, 2, 5, 4, 4, 3, 2, 0, 1, 0] })
  Orc.z) ∧ (natsEq (bl5 c) (bl3 c) = false → natsEq (bl5 c) (bl3 c) = false ∧ natsEq (bl5 c) (bl3 c) = false ∧ natsEq (bl5 c) (bl3 c) = false ∧ natsEq (bl5 c) (bl3 c) = false ∧ K
  (Res.rv (AV.b false) { tree := T.n none (T.n (some (AObj.cells 5 2 [] (T.n (some (AV.i IntKind.u8 (91 : Int))) (T.n (some (AV.i IntKind.u8 (92 : Int))) T.e T.e) T.e))) (T.n (some (AObj.cells 35 2 [] (T.n (some (AV.lr 2 1 0 64 false)) (T.n (some (AV.lr 2 1 0 64 false)) T.e T.e) T.e))) (T.n none (T.n (some (AObj.cells 35 2 [AV.l0] (T.n (some (AV.lr 16 1 0 64 true)) (T.n (some (AV.lr 17 1 0 64 true)) T.e T.e) T.e))) T.e T.e) T.e) (T.n none T.e T.e)) (T.n (some (AObj.rows 5 1 64 (fF c))) (T.n none (T.n (some (AObj.rows 64 1 64 fun k x => CV.i IntKind.u8 (SS.dur (SS.wrote (SS.two (fullB c)) 0 (fullB c)) 1 k))) T.e T.e) T.e) (T.n none T.e T.e))) (T.n none (T.n (some (AObj.segs 73 33799 [{ st := 0, sz := 1, n := 1, f := oneF (CV.i IntKind.i64 (Int.ofNat (SS.n (SS.wrote (SS.two (fullB c)) 0 (fullB c))))) }, { st := 1, sz := 65, n := 512, f := durF (SS.dur (SS.wrote (SS.two (fullB c)) 0 (fullB c))) (SS.torn (SS.wrote (SS.two (fullB c)) 0 (fullB c))) }, { st := 33281, sz := 1, n := 1, f := oneF (CV.opv (pB (SS.P (SS.wrote (SS.two (fullB c)) 0 (fullB c)))) 66 (pW (SS.P (SS.wrote (SS.two (fullB c)) 0 (fullB c))))) }, { st := 33282, sz := 1, n := 512, f := latF (lB (SS.P (SS.wrote (SS.two (fullB c)) 0 (fullB c)))) (lW (SS.P (SS.wrote (SS.two (fullB c)) 0 (fullB c)))) }, { st := 33794, sz := 5, n := 1, f := tailF (Int.ofNat (List.length (SS.P (SS.wrote (SS.two (fullB c)) 0 (fullB c))))) (Int.ofNat (SS.wr (SS.wrote (SS.two (fullB c)) 0 (fullB c)))) (SS.off (SS.wrote (SS.two (fullB c)) 0 (fullB c))) (SS.armed (SS.wrote (SS.two (fullB c)) 0 (fullB c))) (Int.ofNat (SS.left (SS.wrote (SS.two (fullB c)) 0 (fullB c)))) }])) (T.n none (T.n (some (AObj.rows 64 1 64 fun k x => CV.i IntKind.u8 (SS.dur (SS.wrote (SS.two (fullB c)) 0 (fullB c)) 0 k))) T.e T.e) T.e) (T.n none T.e T.e)) (T.n none (T.n none (T.n (some (AObj.rows 5 1 64 (fF c))) T.e T.e) T.e) (T.n (some (AObj.rows 64 1 64 fun k x => CV.i IntKind.u8 (SS.rdB (SS.wrote (SS.two (fullB c)) 0 (fullB c)) (0 : Int) k))) T.e T.e))), next := 19, log := [18, 17, 16, 15, 14, 13, 12, 11, 10, 9, 8, 7, 6, 13, 12, 11, 10, 9, 8, 7, 6, 11, 13, 11, 12, 11, 8, 10, 8, 9, 8, 7, 6, 4, 2, 5, 4, 4, 3, 2, 0, 1, 0] })
  Orc.z)) ∧ (natsEq (bl4 c) (bl3 c) = false → natsEq (bl4 c) (bl3 c) = false ∧ natsEq (bl4 c) (bl3 c) = false ∧ natsEq (bl4 c) (bl3 c) = false ∧ natsEq (bl4 c) (bl3 c) = false ∧
  natsEq (bl4 c) (bl3 c) = false ∧ natsEq (bl4 c) (bl3 c) = false ∧ K (Res.rv (AV.b false) { tree := T.n none (T.n (some (AObj.cells 5 2 [] (T.n (some (AV.i IntKind.u8 (91 : Int))) (T.n (some (AV.i IntKind.u8 (92 : Int))) T.e T.e) T.e))) (T.n (some (AObj.cells 35 2 [] (T.n (some (AV.lr 2 1 0 64 false)) (T.n (some (AV.lr 2 1 0 64 false)) T.e T.e) T.e))) (T.n none (T.n (some (AObj.cells 35 2 [AV.l0] (T.n (some (AV.lr 16 1 0 64 true)) (T.n (some (AV.lr 17 1 0 64 true)) T.e T.e) T.e))) T.e T.e) T.e) (T.n none T.e T.e)) (T.n (some (AObj.rows 5 1 64 (fF c))) (T.n none (T.n (some (AObj.rows 64 1 64 fun k x => CV.i IntKind.u8 (SS.dur (SS.wrote (SS.two (fullB c)) 0 (fullB c)) 1 k))) T.e T.e) T.e) (T.n none T.e T.e))) (T.n none (T.n (some (AObj.segs 73 33799 [{ st := 0, sz := 1, n := 1, f := oneF (CV.i IntKind.i64 (Int.ofNat (SS.n (SS.wrote (SS.two (fullB c)) 0 (fullB c))))) }, { st := 1, sz := 65, n := 512, f := durF (SS.dur (SS.wrote (SS.two (fullB c)) 0 (fullB c))) (SS.torn (SS.wrote (SS.two (fullB c)) 0 (fullB c))) }, { st := 33281, sz := 1, n := 1, f := oneF (CV.opv (pB (SS.P (SS.wrote (SS.two (fullB c)) 0 (fullB c)))) 66 (pW (SS.P (SS.wrote (SS.two (fullB c)) 0 (fullB c))))) }, { st := 33282, sz := 1, n := 512, f := latF (lB (SS.P (SS.wrote (SS.two (fullB c)) 0 (fullB c)))) (lW (SS.P (SS.wrote (SS.two (fullB c)) 0 (fullB c)))) }, { st := 33794, sz := 5, n := 1, f := tailF (Int.ofNat (List.length (SS.P (SS.wrote (SS.two (fullB c)) 0 (fullB c))))) (Int.ofNat (SS.wr (SS.wrote (SS.two (fullB c)) 0 (fullB c)))) (SS.off (SS.wrote (SS.two (fullB c)) 0 (fullB c))) (SS.armed (SS.wrote (SS.two (fullB c)) 0 (fullB c))) (Int.ofNat (SS.left (SS.wrote (SS.two (fullB c)) 0 (fullB c)))) }])) (T.n none (T.n (some (AObj.rows 64 1 64 fun k x => CV.i IntKind.u8 (SS.dur (SS.wrote (SS.two (fullB c)) 0 (fullB c)) 0 k))) T.e T.e) T.e) (T.n none T.e T.e)) (T.n none (T.n none (T.n (some (AObj.rows 5 1 64 (fF c))) T.e T.e) T.e) (T.n (some (AObj.rows 64 1 64 fun k x => CV.i IntKind.u8 (SS.rdB (SS.wrote (SS.two (fullB c)) 0 (fullB c)) (0 : Int) k))) T.e T.e))), next := 19, log := [18, 17, 16, 15, 14, 13, 12, 11, 10, 9, 8, 7, 6, 13, 12, 11, 10, 9, 8, 7, 6, 11, 13, 11, 12, 11, 8, 10, 8, 9, 8, 7, 6, 4, 2, 5, 4, 4, 3, 2, 0, 1, 0] })
  Orc.z)) ∧ (natsEq (bl2 c) (bl3 c) = false → natsEq (bl2 c) (bl3 c) = false ∧ natsEq (bl2 c) (bl3 c) = false ∧ natsEq (bl2 c) (bl3 c) = false ∧ natsEq (bl2 c) (bl3 c) = false ∧
  natsEq (bl2 c) (bl3 c) = false ∧ natsEq (bl2 c) (bl3 c) = false ∧ K (Res.rv (AV.b false) { tree := T.n none (T.n (some (AObj.cells 5 2 [] (T.n (some (AV.i IntKind.u8 (91 : Int))) (T.n (some (AV.i IntKind.u8 (92 : Int))) T.e T.e) T.e))) (T.n (some (AObj.cells 35 2 [] (T.n (some (AV.lr 2 1 0 64 false)) (T.n (some (AV.lr 2 1 0 64 false)) T.e T.e) T.e))) (T.n none (T.n (some (AObj.cells 35 2 [AV.l0] (T.n (some (AV.lr 16 1 0 64 true)) (T.n (some (AV.lr 17 1 0 64 true)) T.e T.e) T.e))) T.e T.e) T.e) (T.n none T.e T.e)) (T.n (some (AObj.rows 5 1 64 (fF c))) (T.n none (T.n (some (AObj.rows 64 1 64 fun k x => CV.i IntKind.u8 (SS.dur (SS.wrote (SS.two (fullB c)) 0 (fullB c)) 1 k))) T.e T.e) T.e) (T.n none T.e T.e))) (T.n none (T.n (some (AObj.segs 73 33799 [{ st := 0, sz := 1, n := 1, f := oneF (CV.i IntKind.i64 (Int.ofNat (SS.n (SS.wrote (SS.two (fullB c)) 0 (fullB c))))) }, { st := 1, sz := 65, n := 512, f := durF (SS.dur (SS.wrote (SS.two (fullB c)) 0 (fullB c))) (SS.torn (SS.wrote (SS.two (fullB c)) 0 (fullB c))) }, { st := 33281, sz := 1, n := 1, f := oneF (CV.opv (pB (SS.P (SS.wrote (SS.two (fullB c)) 0 (fullB c)))) 66 (pW (SS.P (SS.wrote (SS.two (fullB c)) 0 (fullB c))))) }, { st := 33282, sz := 1, n := 512, f := latF (lB (SS.P (SS.wrote (SS.two (fullB c)) 0 (fullB c)))) (lW (SS.P (SS.wrote (SS.two (fullB c)) 0 (fullB c)))) }, { st := 33794, sz := 5, n := 1, f := tailF (Int.ofNat (List.length (SS.P (SS.wrote (SS.two (fullB c)) 0 (fullB c))))) (Int.ofNat (SS.wr (SS.wrote (SS.two (fullB c)) 0 (fullB c)))) (SS.off (SS.wrote (SS.two (fullB c)) 0 (fullB c))) (SS.armed (SS.wrote (SS.two (fullB c)) 0 (fullB c))) (Int.ofNat (SS.left (SS.wrote (SS.two (fullB c)) 0 (fullB c)))) }])) (T.n none (T.n (some (AObj.rows 64 1 64 fun k x => CV.i IntKind.u8 (SS.dur (SS.wrote (SS.two (fullB c)) 0 (fullB c)) 0 k))) T.e T.e) T.e) (T.n none T.e T.e)) (T.n none (T.n none (T.n (some (AObj.rows 5 1 64 (fF c))) T.e T.e) T.e) (T.n (some (AObj.rows 64 1 64 fun k x => CV.i IntKind.u8 (SS.rdB (SS.wrote (SS.two (fullB c)) 0 (fullB c)) (0 : Int) k))) T.e T.e))), next := 19, log := [18, 17, 16, 15, 14, 13, 12, 11, 10, 9, 8, 7, 6, 13, 12, 11, 10, 9, 8, 7, 6, 11, 13, 11, 12, 11, 8, 10, 8, 9, 8, 7, 6, 4, 2, 5, 4, 4, 3, 2, 0, 1, 0] })
  Orc.z))) := by kernel_rfl

theorem u8_pos (n : Int) : ∃ k : Nat, wrapA .u8 n = Int.ofNat k := by
  cases n with
  | ofNat m => exact ⟨m % 256, rfl⟩
  | negSucc m =>
    have h : 0 ≤ wrapA .u8 (Int.negSucc m) := by
      rw [wrapA_eq]
      show 0 ≤ IntKind.u8.wrap (Int.negSucc m)
      simp [IntKind.wrap, IntKind.signed, IntKind.bits]
      try omega
    exact ⟨(wrapA .u8 (Int.negSucc m)).toNat, by simp; omega⟩
theorem fF_u8 (c : Int) (n : Nat) : U8s n (fF c) := fun i _ => by
  obtain ⟨k, hk⟩ := u8_pos (c + wrapA .u8 (Int.ofNat i))
  exact ⟨k, congrArg (CV.i .u8) hk⟩
theorem fullB_pos (c : Int) (i : Nat) : ∃ k : Nat, fullB c i = Int.ofNat k := by
  unfold fullB
  split
  · exact u8_pos _
  · split
    · exact ⟨91, rfl⟩
    · exact ⟨92, rfl⟩
theorem own_u8 (c : Int) : U8s 66 (ownF c) := fun i hi => by
  obtain ⟨k, hk⟩ := fullB_pos c i
  exact ⟨k, by rw [ownF_eq c i hi, hk]⟩
theorem full_u8 (c : Int) (n : Nat) (f : Nat → Int) (hf : ∀ k, k < n → f k = fullB c k) : U8s n fun k _ => CV.i .u8 (f k) := fun i hi => by
  obtain ⟨k, hk⟩ := fullB_pos c i
  exact ⟨k, by show CV.i .u8 (f i) = _; rw [hf i hi, hk]⟩

/-- StoreOwn answers true. -/
theorem own_con (c : Int) : Con Try.prog 8 [.i .u8 c] [] (.b true) [] := by
  have e1 : natsEq (bl0 c) (bl1 c) = true := (natsEq_iff _ _).2 (by kernel_rfl)
  have e2 : natsEq (bl2 c) (bl3 c) = true := (natsEq_iff _ _).2 (by kernel_rfl)
  have e3 : natsEq (bl4 c) (bl3 c) = true := (natsEq_iff _ _).2 (by kernel_rfl)
  have e4 : natsEq (bl5 c) (bl3 c) = true := (natsEq_iff _ _).2 (by kernel_rfl)
  have b1 : (-9223372036854775808 : Int) ≤ 1 ∧ (1 : Int) ≤ 9223372036854775807 := ⟨by omega, by omega⟩
  have b2 : (-9223372036854775808 : Int) ≤ 2 ∧ (2 : Int) ≤ 9223372036854775807 := ⟨by omega, by omega⟩
  refine con_plain rfl ((own_vc c _).mpr ⟨awake_con, trivial, fill64_con _, ⟨Nat.le_refl _, trivial, by omega, by omega⟩, ⟨trivial, by omega, by omega, by omega, by omega⟩, ⟨trivial, by omega, by omega, by omega, by omega⟩, from2o_con c, trivial, ⟨trivial, by omega, by omega, by omega, by omega⟩, write2o_con c _, ⟨own_u8 c, Nat.le_refl _⟩, fill64_con _, ⟨fF_u8 c 64, Nat.le_refl _⟩, by omega, fun h => by rw [e1] at h; simp at h, fun _ => ?_⟩)
  refine ⟨x_lp _ _ _ _ (by omega), read_con _ _ (show 2 ≤ 512 by omega), read_con _ _ (show 2 ≤ 512 by omega), trivial, trivial, trivial, trivial, trivial, trivial, trivial, trivial, trivial, trivial, list_con _, b1, trivial, trivial, trivial, trivial, trivial, trivial, trivial, list_con _, b2, trivial, trivial, trivial, trivial, trivial, trivial, trivial, trivial, trivial, trivial, list_con _, b1, trivial, trivial, trivial, trivial, trivial, trivial, trivial, list_con _, b2, y_lp _ _ _ _ _ _ _, z_lp _ _ _ _ _ _, trivial, trivial, trivial, fill64_con _, ⟨fF_u8 c 64, Nat.le_refl _⟩, ⟨full_u8 c 64 _ (fun k _ => rfl), Nat.le_refl _⟩, fun _ => ⟨e2, e2, e2, ⟨full_u8 c 64 _ (fun k _ => rfl), Nat.le_refl _⟩, e2, e2, e2, fun _ => ⟨e3, e3, e3, ⟨full_u8 c 64 _ (fun k _ => rfl), Nat.le_refl _⟩, e3, e3, e3, fun _ => ⟨e4, e4, trivial, e4, e4, trivial, trivial, trivial, trivial, trivial, trivial, trivial, trivial, _, _, rfl, rfl⟩, fun h => by rw [e4] at h; simp at h⟩, fun h => by rw [e3] at h; simp at h⟩, fun h => by rw [e2] at h; simp at h⟩

end Go.Proofs.St
