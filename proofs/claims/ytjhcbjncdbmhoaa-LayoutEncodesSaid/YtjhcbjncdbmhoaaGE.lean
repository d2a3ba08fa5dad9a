/- Runs over unknown values, told by the kernel: part GE. -/
import Derived.Test.YtjhcbjncdbmhoaaGD
set_option linter.unusedSimpArgs false
set_option linter.unusedVariables false
set_option maxRecDepth 20000
namespace Go.Proofs.Ly
open Go Go.Sim Go.Proofs Go.Proofs.Cl Go.Proofs.Ytjhcbjncdbmhoaa
end Go.Proofs.Ly
namespace Go.Sim
open Go
end Go.Sim
namespace Go.Proofs.Ly
open Go Go.Sim Go.Proofs Go.Proofs.Cl Go.Proofs.Ytjhcbjncdbmhoaa
noncomputable def itR (r : Rd) : Nat → Rd
  | 0 => r
  | k + 1 => rN (itR r k)
noncomputable def vR (r : Rd) (k : Nat) : Nat := rV (itR r k)
def rd0 (s : List Nat) : Rd := ⟨s, 0⟩
theorem new_s {s : List Nat} (hL : s.length ≤ 140737488351232) : Con Try.prog 83 [.lr 0 1 0 s.length false] [some (.rows 5 1 s.length (byF (tB s)))] (.p 1 0) [.gone, .set (rO (rd0 s))] := newRL_con s.length (tB s) hL
theorem dba0_vq (L0 : Nat) (b0 : Nat → Nat) (L1 : Nat) (b1 : Nat → Nat) (e1 : Int) (v0 : Nat) (tb : List Nat) (oT : List Nat) (oE : Int) (s : List Nat) (ha : decide (oE = 0) =
  true) (hb : natsEq oT s = true) : VD Try.prog 26 [.s s] [] (Orc.inl (Orc.s (Orc.cal [3] (.p 1 0) [.gone, .set (rdO L0 b0 0)] (Orc.inl (Orc.cal [4] (.i .i64 (Int.ofNat v0))
  [.set (rdO L1 b1 e1)] (Orc.inl (Orc.c (Orc.cal [] (.s tb) [] (Orc.cal [] (.tup [.s oT, .i .i64 oE]) [] (Orc.t (Orc.t (Orc.t (Orc.f (Orc.f Orc.z)))))))))))) Orc.z)) (.tup
  [.agg [.i .i64 (Int.ofNat v0), .s tb], .i .i64 0]) [] [] 7 (fun Lf => True ∧ Con Try.prog 83 [.lr 0 1 0 (List.length s) false] [some (AObj.rows 5 1 (List.length s) (byF (tB
  s)))] (.p 1 0) [.gone, .set (rdO L0 b0 0)] ∧ Con Try.prog 55 [.p 0 0] [some (rdO L0 b0 0)] (.i .i64 (Int.ofNat v0)) [.set (rdO L1 b1 e1)] ∧ True ∧ True ∧ rg (Int.ofNat
  (List.length s) - Int.ofNat L1) ∧ (0 ≤ Int.ofNat (List.length s) - Int.ofNat L1 ∧ True ∧ Int.toNat (Int.ofNat (List.length s) - Int.ofNat L1) ≤ List.length s ∧ List.length s
  ≤ List.length s) ∧ Con Try.prog 56 [.s (List.take (List.length s - Int.toNat (Int.ofNat (List.length s) - Int.ofNat L1)) (List.drop (Int.toNat (Int.ofNat (List.length s) -
  Int.ofNat L1)) s))] [] (.s tb) [] ∧ Con Try.prog 11 [.agg [.i .i64 (Int.ofNat v0), .s tb]] [] (.tup [.s oT, .i .i64 oE]) [] ∧ (!!decide (oE = 0)) = true ∧ (!!decide (oE = 0))
  = true ∧ (!!decide (oE = 0)) = true ∧ (!decide (oE = 0)) = false ∧ (!natsEq oT s) = false ∧ Lf) := by unfold VD VQ; kernel_rfl
theorem dba_con (s : List Nat) (L0 : Nat) (b0 : Nat → Nat) (L1 : Nat) (b1 : Nat → Nat) (e1 : Int) (v0 : Nat) (tb : List Nat) (oT : List Nat) (oE : Int) (k0 : Con Try.prog 83 [.lr 0 1 0 s.length false] [some (.rows 5 1 s.length (byF (tB s)))] (.p 1 0) [.gone, .set (rdO L0 b0 0)]) (k1 : Con Try.prog 55 [.p 0 0] [some (rdO L0 b0 0)] (.i .i64 (Int.ofNat v0)) [.set (rdO L1 b1 e1)]) (k2 : Con Try.prog 56 [.s (List.take (List.length s - Int.toNat (Int.ofNat (List.length s) - Int.ofNat L1)) (List.drop (Int.toNat (Int.ofNat (List.length s) - Int.ofNat L1)) s))] [] (.s tb) []) (k3 : Con Try.prog 11 [.agg [.i .i64 (Int.ofNat v0), .s tb]] [] (.tup [.s oT, .i .i64 oE]) []) (hL : L1 ≤ s.length) (hS : s.length ≤ 140737488351232) (ha : decide (oE = 0) = true) (hb : natsEq oT s = true)  : Con Try.prog 26 [.s s] [] (.tup [.agg [.i .i64 (Int.ofNat v0), .s tb], .i .i64 0]) [] := by
  have r1 : rg (Int.ofNat (List.length s) - Int.ofNat L1) := ⟨by simp <;> omega, by simp <;> omega⟩
  have r2 : (0 : Int) ≤ Int.ofNat (List.length s) - Int.ofNat L1 := by simp <;> omega
  have r3 : Int.toNat (Int.ofNat (List.length s) - Int.ofNat L1) ≤ List.length s := by simp <;> omega
  have r4 : List.length s ≤ List.length s := Nat.le_refl _
  exact con_d (dba0_vq (L0 := L0) (b0 := b0) (L1 := L1) (b1 := b1) (e1 := e1) (v0 := v0) (tb := tb) (oT := oT) (oE := oE) (s := s) (ha := ha) (hb := hb)) (by repeat' first | exact trivial | assumption | exact rfl | exact nT (by assumption) | exact nF (by assumption) | assumption | assumption | assumption | assumption | exact nnT (by assumption) | exact nnF (by assumption) | apply And.intro | decide)
theorem dbb0_vq (L0 : Nat) (b0 : Nat → Nat) (L1 : Nat) (b1 : Nat → Nat) (e1 : Int) (v0 : Nat) (tb : List Nat) (oT : List Nat) (oE : Int) (s : List Nat) (ha : decide (oE = 0) =
  true) (hb : natsEq oT s = false) : VD Try.prog 26 [.s s] [] (Orc.inl (Orc.s (Orc.cal [3] (.p 1 0) [.gone, .set (rdO L0 b0 0)] (Orc.inl (Orc.cal [4] (.i .i64 (Int.ofNat v0))
  [.set (rdO L1 b1 e1)] (Orc.inl (Orc.c (Orc.cal [] (.s tb) [] (Orc.cal [] (.tup [.s oT, .i .i64 oE]) [] (Orc.t (Orc.t (Orc.t (Orc.f (Orc.t Orc.z)))))))))))) Orc.z)) (.tup
  [.agg [.i .i64 0, .s []], .i .i64 11]) [] [] 8 (fun Lf => True ∧ Con Try.prog 83 [.lr 0 1 0 (List.length s) false] [some (AObj.rows 5 1 (List.length s) (byF (tB s)))] (.p 1
  0) [.gone, .set (rdO L0 b0 0)] ∧ Con Try.prog 55 [.p 0 0] [some (rdO L0 b0 0)] (.i .i64 (Int.ofNat v0)) [.set (rdO L1 b1 e1)] ∧ True ∧ True ∧ rg (Int.ofNat (List.length s) -
  Int.ofNat L1) ∧ (0 ≤ Int.ofNat (List.length s) - Int.ofNat L1 ∧ True ∧ Int.toNat (Int.ofNat (List.length s) - Int.ofNat L1) ≤ List.length s ∧ List.length s ≤ List.length s) ∧
  Con Try.prog 56 [.s (List.take (List.length s - Int.toNat (Int.ofNat (List.length s) - Int.ofNat L1)) (List.drop (Int.toNat (Int.ofNat (List.length s) - Int.ofNat L1)) s))]
  [] (.s tb) [] ∧ Con Try.prog 11 [.agg [.i .i64 (Int.ofNat v0), .s tb]] [] (.tup [.s oT, .i .i64 oE]) [] ∧ (!!decide (oE = 0)) = true ∧ (!!decide (oE = 0)) = true ∧ (!!decide
  (oE = 0)) = true ∧ (!decide (oE = 0)) = false ∧ (!natsEq oT s) = true ∧ Lf) := by unfold VD VQ; kernel_rfl
theorem dbb_con (s : List Nat) (L0 : Nat) (b0 : Nat → Nat) (L1 : Nat) (b1 : Nat → Nat) (e1 : Int) (v0 : Nat) (tb : List Nat) (oT : List Nat) (oE : Int) (k0 : Con Try.prog 83 [.lr 0 1 0 s.length false] [some (.rows 5 1 s.length (byF (tB s)))] (.p 1 0) [.gone, .set (rdO L0 b0 0)]) (k1 : Con Try.prog 55 [.p 0 0] [some (rdO L0 b0 0)] (.i .i64 (Int.ofNat v0)) [.set (rdO L1 b1 e1)]) (k2 : Con Try.prog 56 [.s (List.take (List.length s - Int.toNat (Int.ofNat (List.length s) - Int.ofNat L1)) (List.drop (Int.toNat (Int.ofNat (List.length s) - Int.ofNat L1)) s))] [] (.s tb) []) (k3 : Con Try.prog 11 [.agg [.i .i64 (Int.ofNat v0), .s tb]] [] (.tup [.s oT, .i .i64 oE]) []) (hL : L1 ≤ s.length) (hS : s.length ≤ 140737488351232) (ha : decide (oE = 0) = true) (hb : natsEq oT s = false)  : Con Try.prog 26 [.s s] [] (.tup [.agg [.i .i64 0, .s []], .i .i64 11]) [] := by
  have r1 : rg (Int.ofNat (List.length s) - Int.ofNat L1) := ⟨by simp <;> omega, by simp <;> omega⟩
  have r2 : (0 : Int) ≤ Int.ofNat (List.length s) - Int.ofNat L1 := by simp <;> omega
  have r3 : Int.toNat (Int.ofNat (List.length s) - Int.ofNat L1) ≤ List.length s := by simp <;> omega
  have r4 : List.length s ≤ List.length s := Nat.le_refl _
  exact con_d (dbb0_vq (L0 := L0) (b0 := b0) (L1 := L1) (b1 := b1) (e1 := e1) (v0 := v0) (tb := tb) (oT := oT) (oE := oE) (s := s) (ha := ha) (hb := hb)) (by repeat' first | exact trivial | assumption | exact rfl | exact nT (by assumption) | exact nF (by assumption) | assumption | assumption | assumption | assumption | exact nnT (by assumption) | exact nnF (by assumption) | apply And.intro | decide)
theorem dbc0_vq (L0 : Nat) (b0 : Nat → Nat) (L1 : Nat) (b1 : Nat → Nat) (e1 : Int) (v0 : Nat) (tb : List Nat) (oT : List Nat) (oE : Int) (s : List Nat) (ha : decide (oE = 0) =
  false) : VD Try.prog 26 [.s s] [] (Orc.inl (Orc.s (Orc.cal [3] (.p 1 0) [.gone, .set (rdO L0 b0 0)] (Orc.inl (Orc.cal [4] (.i .i64 (Int.ofNat v0)) [.set (rdO L1 b1 e1)]
  (Orc.inl (Orc.c (Orc.cal [] (.s tb) [] (Orc.cal [] (.tup [.s oT, .i .i64 oE]) [] (Orc.f (Orc.f (Orc.f (Orc.t (Orc.c Orc.z)))))))))))) Orc.z)) (.tup [.agg [.i .i64 0, .s []],
  .i .i64 11]) [] [] 8 (fun Lf => True ∧ Con Try.prog 83 [.lr 0 1 0 (List.length s) false] [some (AObj.rows 5 1 (List.length s) (byF (tB s)))] (.p 1 0) [.gone, .set (rdO L0 b0
  0)] ∧ Con Try.prog 55 [.p 0 0] [some (rdO L0 b0 0)] (.i .i64 (Int.ofNat v0)) [.set (rdO L1 b1 e1)] ∧ True ∧ True ∧ rg (Int.ofNat (List.length s) - Int.ofNat L1) ∧ (0 ≤
  Int.ofNat (List.length s) - Int.ofNat L1 ∧ True ∧ Int.toNat (Int.ofNat (List.length s) - Int.ofNat L1) ≤ List.length s ∧ List.length s ≤ List.length s) ∧ Con Try.prog 56 [.s
  (List.take (List.length s - Int.toNat (Int.ofNat (List.length s) - Int.ofNat L1)) (List.drop (Int.toNat (Int.ofNat (List.length s) - Int.ofNat L1)) s))] [] (.s tb) [] ∧ Con
  Try.prog 11 [.agg [.i .i64 (Int.ofNat v0), .s tb]] [] (.tup [.s oT, .i .i64 oE]) [] ∧ (!!decide (oE = 0)) = false ∧ (!!decide (oE = 0)) = false ∧ (!!decide (oE = 0)) = false
  ∧ (!decide (oE = 0)) = true ∧ Lf) := by unfold VD VQ; kernel_rfl
theorem dbc_con (s : List Nat) (L0 : Nat) (b0 : Nat → Nat) (L1 : Nat) (b1 : Nat → Nat) (e1 : Int) (v0 : Nat) (tb : List Nat) (oT : List Nat) (oE : Int) (k0 : Con Try.prog 83 [.lr 0 1 0 s.length false] [some (.rows 5 1 s.length (byF (tB s)))] (.p 1 0) [.gone, .set (rdO L0 b0 0)]) (k1 : Con Try.prog 55 [.p 0 0] [some (rdO L0 b0 0)] (.i .i64 (Int.ofNat v0)) [.set (rdO L1 b1 e1)]) (k2 : Con Try.prog 56 [.s (List.take (List.length s - Int.toNat (Int.ofNat (List.length s) - Int.ofNat L1)) (List.drop (Int.toNat (Int.ofNat (List.length s) - Int.ofNat L1)) s))] [] (.s tb) []) (k3 : Con Try.prog 11 [.agg [.i .i64 (Int.ofNat v0), .s tb]] [] (.tup [.s oT, .i .i64 oE]) []) (hL : L1 ≤ s.length) (hS : s.length ≤ 140737488351232) (ha : decide (oE = 0) = false)  : Con Try.prog 26 [.s s] [] (.tup [.agg [.i .i64 0, .s []], .i .i64 11]) [] := by
  have r1 : rg (Int.ofNat (List.length s) - Int.ofNat L1) := ⟨by simp <;> omega, by simp <;> omega⟩
  have r2 : (0 : Int) ≤ Int.ofNat (List.length s) - Int.ofNat L1 := by simp <;> omega
  have r3 : Int.toNat (Int.ofNat (List.length s) - Int.ofNat L1) ≤ List.length s := by simp <;> omega
  have r4 : List.length s ≤ List.length s := Nat.le_refl _
  exact con_d (dbc0_vq (L0 := L0) (b0 := b0) (L1 := L1) (b1 := b1) (e1 := e1) (v0 := v0) (tb := tb) (oT := oT) (oE := oE) (s := s) (ha := ha)) (by repeat' first | exact trivial | assumption | exact rfl | exact nT (by assumption) | exact nF (by assumption) | assumption | assumption | assumption | assumption | exact nnT (by assumption) | exact nnF (by assumption) | apply And.intro | decide)
end Go.Proofs.Ly
