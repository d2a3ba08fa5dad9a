/- Runs over unknown values, told by the kernel: part ClD. -/
import Derived.Test.YtdanngdphoploaaDoorClA
set_option linter.unusedSimpArgs false
set_option linter.unusedVariables false
namespace Go.Proofs.Cl
open Go Go.Sim Go.Proofs Go.Proofs.Cd Go.Proofs.St Go.Proofs.YtdanngdphoploaaDoor
/-- A script's calls. -/
noncomputable def opF (K I : Nat → Int) (X : Nat → List Nat) (T : Nat → Bool) : Nat → Nat → CV := fun i j => match j with
  | 0 => .i .i64 (K i)
  | 1 => .i .i64 (I i)
  | 2 => .s (X i)
  | _ => .b (T i)
/-- A call's block, and that of four cells. -/
noncomputable def opO (k i : Int) (x : List Nat) (t : Bool) : AObj := .cells 75 4 [.i .i64 0, .i .i64 0, .s [], .b false] (setAll .e 0 [.i .i64 k, .i .i64 i, .s x, .b t])
noncomputable def wasO (a : Nat → Nat) (d : Nat → List Nat) : AObj :=
  .cells 85 8 [.i .i64 0, .s [], .i .i64 0, .s [], .i .i64 0, .s [], .i .i64 0, .s []] (setAll .e 0 [.i .i64 (Int.ofNat (a 0)), .s (d 0), .i .i64 (Int.ofNat (a 1)), .s (d 1), .i .i64 (Int.ofNat (a 2)), .s (d 2), .i .i64 (Int.ofNat (a 3)), .s (d 3)])
end Go.Proofs.Cl

set_option maxRecDepth 20000
namespace Go.Proofs.Cl
open Go Go.Sim Go.Proofs Go.Proofs.Cd Go.Proofs.St Go.Proofs.YtdanngdphoploaaDoor

noncomputable def nw0 : SS := SS.new 512
noncomputable def nw1 : SS := SS.new 3
noncomputable def nk0 : CS := opened nw0 256

theorem names_vc (K : Res → Orc → Prop) : runK Tryd.prog 1000000 (.call 9 [] (mkH [])) (Orc.cal [] (AV.tup [AV.p 0 0, AV.i IntKind.i64 (0 : Int)]) [Upd.set (SS.o nw0)] (Orc.cal [0]
  (AV.tup [AV.p0, AV.i IntKind.i64 (2 : Int)]) [Upd.keep] (Orc.cal [0] (AV.tup [AV.p0, AV.i IntKind.i64 (2 : Int)]) [Upd.keep] (Orc.cal [0] (AV.tup [AV.p 1 0, AV.i IntKind.i64 (0 :
  Int)]) [Upd.keep, Upd.set (CS.oa nk0)] (Orc.cal [] (AV.tup [AV.p0, AV.i IntKind.i64 (1 : Int)]) [] (Orc.cal [] (AV.tup [AV.p 0 0, AV.i IntKind.i64 (0 : Int)]) [Upd.set (SS.o nw1)]
  (Orc.cal [2] (AV.tup [AV.p0, AV.i IntKind.i64 (12 : Int)]) [Upd.keep] (Orc.cal [] (AV.b true) [] (Orc.c (Orc.c (Orc.c (Orc.c (Orc.c (Orc.c (Orc.c (Orc.c (Orc.c (Orc.c (Orc.c
  (Orc.c (Orc.c (Orc.c (Orc.c (Orc.c (Orc.c (Orc.c (Orc.c (Orc.c (Orc.c (Orc.c (Orc.c (Orc.cal [1, 0] (AV.i IntKind.i64 (256 : Int)) [Upd.keep, Upd.keep] (Orc.c (Orc.c (Orc.c (Orc.c
  (Orc.c (Orc.c (Orc.c (Orc.c (Orc.c (Orc.c (Orc.c (Orc.c (Orc.c (Orc.c Orc.z)))))))))))))))))))))))))))))))))))))))))))))) K = (Con Tryd.prog 14 [AV.i IntKind.i64 (512 : Int)] []
  (AV.tup [AV.p 0 0, AV.i IntKind.i64 (0 : Int)]) [Upd.set (SS.o nw0)] ∧ Con Tryd.prog 43 [AV.p 0 0, AV.i IntKind.i64 (0 : Int)] [some (SS.o nw0)] (AV.tup [AV.p0, AV.i IntKind.i64
  (2 : Int)]) [Upd.keep] ∧ Con Tryd.prog 43 [AV.p 0 0, AV.i IntKind.i64 (257 : Int)] [some (SS.o nw0)] (AV.tup [AV.p0, AV.i IntKind.i64 (2 : Int)]) [Upd.keep] ∧ Con Tryd.prog 43
  [AV.p 0 0, AV.i IntKind.i64 (256 : Int)] [some (SS.o nw0)] (AV.tup [AV.p 1 0, AV.i IntKind.i64 (0 : Int)]) [Upd.keep, Upd.set (CS.oa nk0)] ∧ Con Tryd.prog 43 [AV.p0, AV.i
  IntKind.i64 (1 : Int)] [] (AV.tup [AV.p0, AV.i IntKind.i64 (1 : Int)]) [] ∧ Con Tryd.prog 14 [AV.i IntKind.i64 (3 : Int)] [] (AV.tup [AV.p 0 0, AV.i IntKind.i64 (0 : Int)])
  [Upd.set (SS.o nw1)] ∧ Con Tryd.prog 43 [AV.p 0 0, AV.i IntKind.i64 (2 : Int)] [some (SS.o nw1)] (AV.tup [AV.p0, AV.i IntKind.i64 (12 : Int)]) [Upd.keep] ∧ Con Tryd.prog 44 [] []
  (AV.b true) [] ∧ True ∧ True ∧ True ∧ Con Tryd.prog 45 [AV.p 0 0] [some (CS.o nk0), some (SS.o nw0)] (AV.i IntKind.i64 (256 : Int)) [Upd.keep, Upd.keep] ∧ True ∧ True ∧ K (Res.rv
  (AV.b true) { tree := T.n (some (SS.o nw0)) (T.n (some (CS.oa nk0)) T.e T.e) (T.n (some (SS.o nw1)) T.e T.e), next := 3, log := [2, 1, 0] }) Orc.z) := by kernel_rfl

theorem ob {s : SS} {n e : Int} (h : openE s n = e) (he : e ≠ 0) : Con Tryd.prog 43 [.p 0 0, .i .i64 n] [some s.o] (.tup [.p0, .i .i64 e]) [.keep] := by
  subst h
  exact openBad_con s n he
theorem names_con : Con Tryd.prog 9 [] [] (.b true) [] := by
  have c1 := new_con 512 (by decide) (by decide)
  have c2 : Con Tryd.prog 43 [.p 0 0, .i .i64 0] [some nw0.o] (.tup [.p0, .i .i64 2]) [.keep] := ob (by kernel_rfl) (by decide)
  have c3 : Con Tryd.prog 43 [.p 0 0, .i .i64 257] [some nw0.o] (.tup [.p0, .i .i64 2]) [.keep] := ob (by kernel_rfl) (by decide)
  have c4 : Con Tryd.prog 43 [.p 0 0, .i .i64 256] [some nw0.o] (.tup [.p 1 0, .i .i64 0]) [.keep, .set nk0.oa] := open_con nw0 256 (by decide) (by decide) (by decide) (by decide) rfl (Byt.new 512)
  have c5 := openNil_con 1
  have c6 := new_con 3 (by decide) (by decide)
  have c7 : Con Tryd.prog 43 [.p 0 0, .i .i64 2] [some nw1.o] (.tup [.p0, .i .i64 12]) [.keep] := ob (by kernel_rfl) (by decide)
  have c8 : Con Tryd.prog 45 [.p 0 0] [some nk0.o, some nw0.o] (.i .i64 256) [.keep, .keep] := Go.Proofs.Cl.len_con nk0 nw0
  refine con_plain rfl ((names_vc _).mpr ?_)
  repeat' first | exact awake_con | exact c1 | exact c2 | exact c3 | exact c4 | exact c5 | exact c6 | exact c7 | exact c8 | exact trivial | (decide; done) | refine And.intro ?_ ?_ | exact ⟨_, _, rfl, rfl⟩

end Go.Proofs.Cl
