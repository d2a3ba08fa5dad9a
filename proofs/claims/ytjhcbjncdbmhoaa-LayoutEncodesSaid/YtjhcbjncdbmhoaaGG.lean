/- Runs over unknown values, told by the kernel: part GG. -/
import Derived.Test.YtjhcbjncdbmhoaaGF
set_option linter.unusedSimpArgs false
set_option linter.unusedVariables false
set_option maxRecDepth 20000
namespace Go.Proofs.Ly
open Go Go.Sim Go.Proofs Go.Proofs.Cl Go.Proofs.Ytjhcbjncdbmhoaa
noncomputable def hS (f : Nat → Nat) (i k : Nat) : Int := bif Nat.blt k i then Int.ofNat (f k) else 0
theorem bT {a b : Nat} (h : a < b) : Nat.blt a b = true := by rw [Nat.blt_eq]; exact h
noncomputable def allR (n : Nat) (s : List Nat) : Bool := decide ((itR (rd0 s) n).e = 0) && !decide (0 < Int.ofNat (itR (rd0 s) n).u.length)
noncomputable def eR (r : Rd) : Nat → Rd
  | 0 => r
  | k + 1 => rN (rX (eR r k))
noncomputable def eA (r : Rd) (k : Nat) : List Nat := rT (eR r k)
noncomputable def eN (r : Rd) (k : Nat) : Int := Int.ofNat (rV (rX (eR r k)))
noncomputable def okE (s : List Nat) (K : Nat) : Bool := enB K (eA (rd0 s)) (eN (rd0 s)) && natsEq (enP (eA (rd0 s)) (eN (rd0 s)) K) s
theorem cl0_vq (t : List Nat) : VD Try.prog 56 [.s t] [] (Orc.cal [] (.s t) [] Orc.z) (.s t) [] [] 0 (fun Lf => Con Try.prog 85 [.s t] [] (.s t) [] ∧ Lf)
  := by unfold VD VQ; kernel_rfl
theorem cl_con (t : List Nat)   (ht : t.length ≤ 281474976710656) : Con Try.prog 56 [.s t] [] (.s t) [] := by
  exact con_d (cl0_vq (t := t)) (by repeat' first | exact trivial | assumption | exact rfl | exact nT (by assumption) | exact nF (by assumption) | exact clone85_con _ ht | apply And.intro | decide)
theorem cut_eq {s : List Nat} {z : Nat} (hz : z ≤ s.length) : List.take (List.length s - Int.toNat (Int.ofNat (List.length s) - Int.ofNat (s.drop z).length)) (List.drop (Int.toNat (Int.ofNat (List.length s) - Int.ofNat (s.drop z).length)) s) = s.drop z := by
  have e : Int.toNat (Int.ofNat (List.length s) - Int.ofNat (s.drop z).length) = z := by rw [List.length_drop]; simp <;> omega
  rw [e, List.take_of_length_le (by rw [List.length_drop]; exact Nat.le_refl _)]
noncomputable def okD (s : List Nat) : Bool := blB (Int.ofNat (nvU s)) (s.drop (nzU s)) && natsEq (ebT (Int.ofNat (nvU s)) (s.drop (nzU s))) s
noncomputable def dbV (s : List Nat) : Int := bif okD s then Int.ofNat (nvU s) else 0
noncomputable def dbD (s : List Nat) : List Nat := bif okD s then s.drop (nzU s) else []
noncomputable def dE (b : Bool) : Int := bif b then 0 else 11
theorem eb_0 {v : Int} {t : List Nat} : decide (ebE v t = 0) = blB v t := by unfold ebE; cases blB v t <;> rfl
theorem cl_cut {s : List Nat} {z : Nat} (hz : z ≤ s.length) (hS : s.length ≤ 140737488351232) : Con Try.prog 56 [.s (List.take (List.length s - Int.toNat (Int.ofNat (List.length s) - Int.ofNat (s.drop z).length)) (List.drop (Int.toNat (Int.ofNat (List.length s) - Int.ofNat (s.drop z).length)) s))] [] (.s (s.drop z)) [] := by
  rw [cut_eq hz]
  exact cl_con _ (by rw [List.length_drop]; omega)
theorem decB_con {s : List Nat} (h : Byt s) (hS : s.length ≤ 140737488351232) : Con Try.prog 26 [.s s] [] (.tup [.agg [.i .i64 (dbV s), .s (dbD s)], .i .i64 (dE (okD s))]) [] := by
  have hz : nzU s ≤ s.length := nmz_le _ _
  have hl : (s.drop (nzU s)).length ≤ s.length := by rw [List.length_drop]; omega
  have k0 := new_s hS
  have k1 := num_u h
  have k2 := cl_cut hz hS
  have k3 := eb_con (Int.ofNat (nvU s)) (s.drop (nzU s))
  unfold dbV dbD dE okD
  rw [← eb_0]
  cases ha : decide (ebE (Int.ofNat (nvU s)) (s.drop (nzU s)) = 0) with
  | false => exact dbc_con s _ _ _ _ _ _ _ _ _ k0 k1 k2 k3 hl hS ha
  | true => cases hb : natsEq (ebT (Int.ofNat (nvU s)) (s.drop (nzU s))) s with
    | false => exact dbb_con s _ _ _ _ _ _ _ _ _ k0 k1 k2 k3 hl hS ha hb
    | true => exact dba_con s _ _ _ _ _ _ _ _ _ k0 k1 k2 k3 hl hS ha hb
noncomputable def okT (s : List Nat) : Bool := allR 2 s && (decide (Int.ofNat (vR (rd0 s) 0 / 2 ^ 8) = 0) && decide (Int.ofNat (vR (rd0 s) 1 / 2 ^ 24) = 0))
theorem VR_si {t : List Nat} {n : Int} (ρ ρ' : Rho) (x : Value) (h : VR ρ (.tup [.s t, .i .i64 n]) x) : VR ρ' (.tup [.s t, .i .i64 n]) x := by
  cases h with
  | tup _ vs h =>
    cases h with
    | cons _ a _ r h1 h2 =>
      cases h2 with
      | cons _ b _ q h3 h4 =>
        cases h4
        exact .tup _ _ (.cons _ _ _ _ (VR_s ρ ρ' _ h1) (.cons _ _ _ _ (VR_i ρ ρ' _ h3) .nil))
noncomputable def nE (s : List Nat) (K : Nat) : Nat := bif okE s K then K else 0
theorem a13_con : Con Try.prog 13 [.agg [.i .i64 2, .i .i64 1, .i .i64 1, .i .i64 0, .i .i64 0, .i .i64 0, .i .i64 0, .i .i64 0, .i .i64 0]] [] (.tup [.s [2, 1, 1, 0, 0, 0, 0, 0, 0], .i .i64 0]) [] := con_xx (fuel := 100000000) (fz := []) (nx := 100) (by kernel_rfl)
theorem a19_con : Con Try.prog 19 [.agg [.b true, .b false, .b false, .b false, .b false, .b false, .b false, .b false, .b false, .b true, .b false, .b false, .b false, .b false, .b false, .b false, .b false, .b false, .b false, .b false, .b false, .b false, .b false, .b false, .b false, .b false, .b false, .b false, .b false, .b false, .b false, .b false]] [] (.s [1, 2]) [] := con_xx (fuel := 100000000) (fz := []) (nx := 100) (by kernel_rfl)
theorem a11_con : Con Try.prog 11 [.agg [.i .i64 300, .s [120]]] [] (.tup [.s [172, 2, 120], .i .i64 0]) [] := con_xx (fuel := 100000000) (fz := []) (nx := 100) (by kernel_rfl)
theorem a21_con : Con Try.prog 21 [.s [97, 46, 49]] [] (.b true) [] := con_xx (fuel := 100000000) (fz := []) (nx := 100) (by kernel_rfl)
theorem b21_con : Con Try.prog 21 [.s [65]] [] (.b false) [] := con_xx (fuel := 100000000) (fz := []) (nx := 100) (by kernel_rfl)
theorem a23_con : Con Try.prog 23 [.i .i64 32] [] (.b true) [] := con_xx (fuel := 100000000) (fz := []) (nx := 100) (by kernel_rfl)
theorem b23_con : Con Try.prog 23 [.i .i64 80] [] (.b false) [] := con_xx (fuel := 100000000) (fz := []) (nx := 100) (by kernel_rfl)
theorem a26_con : Con Try.prog 26 [.s [172, 2, 120]] [] (.tup [.agg [.i .i64 300, .s [120]], .i .i64 0]) [] := by
  have h := decB_con (s := [172, 2, 120]) (by intro x hx; simp at hx; rcases hx with rfl | rfl | rfl <;> decide) (by decide)
  have e1 : dbV [172, 2, 120] = 300 := by kernel_rfl
  have e2 : dbD [172, 2, 120] = [120] := by kernel_rfl
  have e3 : dE (okD [172, 2, 120]) = 0 := by kernel_rfl
  rwa [e1, e2, e3] at h
def A2 (a b : List Nat) (i : Nat) : List Nat := [a, b].getD i []
def N2 (i : Nat) : Int := [3, 4].getD i 0
theorem lit_con (a b : List Nat) (ha : a.length ≤ 6) (hb : b.length ≤ 6) (h1 : Byt a) (h2 : Byt b) : Con Try.prog 17 [.l 0 0 2 2 2 true] [some (cellsO 41 [.s a, .i .i64 3, .s b, .i .i64 4])] (.tup [.s (enT 2 (A2 a b) N2), .i .i64 (enE 2 (A2 a b) N2)]) [.keep] :=
  ((encE_con 2 (A2 a b) N2 (fun i hi => by rcases i with _ | _ | i; exact Nat.le_trans ha (by decide); exact Nat.le_trans hb (by decide); omega) (fun i hi => by rcases i with _ | _ | i; exact h1; exact h2; omega)).pre (pargs' := [.sv 2 2 (listF 2 [.s a, .i .i64 3, .s b, .i .i64 4] 2)]) ⟨by
    refine .sv fun i j hi hj => ?_
    rcases i with _ | _ | i <;> rcases j with _ | _ | j <;> first | rfl | omega, trivial⟩).borrow (pargs0 := [.l 0 0 2 2 2 true]) (objs := [some (cellsO 41 [.s a, .i .i64 3, .s b, .i .i64 4])]) [0] (frzP 0 (.cells 4 [.s a, .i .i64 3, .s b, .i .i64 4]) (.tup [.l 0 0 2 2 2 true]) ∧ True) (by kernel_rfl) (by kernel_rfl) (by kernel_rfl) ⟨by simp [frzP, frzsP], trivial⟩ (by kernel_rfl) (by kernel_rfl) VR_si
theorem byt1 (a : Nat) (h : a < 256) : Byt [a] := fun x hx => by simp at hx; omega
theorem a17_con : Con Try.prog 17 [.l 0 0 2 2 2 true] [some (cellsO 41 [.s [97], .i .i64 3, .s [98], .i .i64 4])] (.tup [.s [1, 97, 3, 1, 98, 4], .i .i64 0]) [.keep] := by
  have h := lit_con [97] [98] (by decide) (by decide) (byt1 _ (by decide)) (byt1 _ (by decide))
  have e1 : enT 2 (A2 [97] [98]) N2 = [1, 97, 3, 1, 98, 4] := by kernel_rfl
  have e2 : enE 2 (A2 [97] [98]) N2 = 0 := by kernel_rfl
  rwa [e1, e2] at h
theorem b17_con : Con Try.prog 17 [.l 0 0 2 2 2 true] [some (cellsO 41 [.s [98], .i .i64 3, .s [97], .i .i64 4])] (.tup [.s [], .i .i64 2]) [.keep] := by
  have h := lit_con [98] [97] (by decide) (by decide) (byt1 _ (by decide)) (byt1 _ (by decide))
  have e1 : enT 2 (A2 [98] [97]) N2 = [] := by kernel_rfl
  have e2 : enE 2 (A2 [98] [97]) N2 = 2 := by kernel_rfl
  rwa [e1, e2] at h
theorem aw0_vq : VD Try.prog 8 [] [] (Orc.cal [] (.tup [.s [2, 1, 1, 0, 0, 0, 0, 0, 0], .i .i64 0]) [] (Orc.cal [0] (.tup [.s [1, 97, 3, 1, 98, 4], .i .i64 0]) [.keep] (Orc.cal
  [1] (.tup [.s [], .i .i64 2]) [.keep] (oc 2 (Orc.cal [] (.tup [.s [172, 2, 120], .i .i64 0]) [] (Orc.cal [] (.tup [.agg [.i .i64 300, .s [120]], .i .i64 0]) [] (oc 14
  (Orc.cal [] (.s [1, 2]) [] (oc 16 (Orc.cal [] (.b true) [] (oc 2 (Orc.cal [] (.b false) [] (oc 3 (Orc.cal [] (.b true) [] (oc 2 (Orc.cal [] (.b false) [] (oc 2
  Orc.z))))))))))))))))) (.b true) [] [] 4 (fun Lf => Con Try.prog 13 [.agg [.i .i64 2, .i .i64 1, .i .i64 1, .i .i64 0, .i .i64 0, .i .i64 0, .i .i64 0, .i .i64 0, .i .i64 0]]
  [] (.tup [.s [2, 1, 1, 0, 0, 0, 0, 0, 0], .i .i64 0]) [] ∧ Con Try.prog 17 [.l 0 0 2 2 2 true] [some (cellsO 41 [.s [97], .i .i64 3, .s [98], .i .i64 4])] (.tup [.s [1, 97,
  3, 1, 98, 4], .i .i64 0]) [.keep] ∧ Con Try.prog 17 [.l 0 0 2 2 2 true] [some (cellsO 41 [.s [98], .i .i64 3, .s [97], .i .i64 4])] (.tup [.s [], .i .i64 2]) [.keep] ∧ True ∧
  True ∧ Con Try.prog 11 [.agg [.i .i64 300, .s [120]]] [] (.tup [.s [172, 2, 120], .i .i64 0]) [] ∧ Con Try.prog 26 [.s [172, 2, 120]] [] (.tup [.agg [.i .i64 300, .s [120]],
  .i .i64 0]) [] ∧ Con Try.prog 19 [.agg [.b true, .b false, .b false, .b false, .b false, .b false, .b false, .b false, .b false, .b true, .b false, .b false, .b false, .b
  false, .b false, .b false, .b false, .b false, .b false, .b false, .b false, .b false, .b false, .b false, .b false, .b false, .b false, .b false, .b false, .b false, .b
  false, .b false]] [] (.s [1, 2]) [] ∧ True ∧ Con Try.prog 21 [.s [97, 46, 49]] [] (.b true) [] ∧ Con Try.prog 21 [.s [65]] [] (.b false) [] ∧ True ∧ Con Try.prog 23 [.i .i64
  32] [] (.b true) [] ∧ Con Try.prog 23 [.i .i64 80] [] (.b false) [] ∧ True ∧ Lf) := by unfold VD VQ; kernel_rfl
theorem aw_con     : Con Try.prog 8 [] [] (.b true) [] := by
  exact con_d (aw0_vq ) (by repeat' first | exact trivial | assumption | exact rfl | exact nT (by assumption) | exact nF (by assumption) | exact a13_con | exact a17_con | exact b17_con | exact a19_con | exact a11_con | exact a26_con | exact a21_con | exact b21_con | exact a23_con | exact b23_con | apply And.intro | decide)
theorem natsEq_self (a : List Nat) : natsEq a a = true := (natsEq_iff a a).2 rfl
abbrev bX (v : Int) (t : List Nat) : AV := .agg [.i .i64 v, .s t]
abbrev iX (x0 x1 x2 x3 x4 x5 x6 x7 x8 : Int) : AV := .agg [.i .i64 x0, .i .i64 x1, .i .i64 x2, .i .i64 x3, .i .i64 x4, .i .i64 x5, .i .i64 x6, .i .i64 x7, .i .i64 x8]
abbrev pX (x0 x1 x2 x3 x4 x5 x6 x7 : Int) : AV := .agg [.i .i64 x0, .i .i64 x1, .i .i64 x2, .i .i64 x3, .i .i64 x4, .i .i64 x5, .i .i64 x6, .i .i64 x7]
abbrev gL (g : Nat → Bool) : List AV := [.b (g 0), .b (g 1), .b (g 2), .b (g 3), .b (g 4), .b (g 5), .b (g 6), .b (g 7), .b (g 8), .b (g 9), .b (g 10), .b (g 11), .b (g 12), .b (g 13), .b (g 14), .b (g 15), .b (g 16), .b (g 17), .b (g 18), .b (g 19), .b (g 20), .b (g 21), .b (g 22), .b (g 23), .b (g 24), .b (g 25), .b (g 26), .b (g 27), .b (g 28), .b (g 29), .b (g 30), .b (g 31)]
abbrev gX (g : Nat → Bool) : AV := .agg (gL g)
end Go.Proofs.Ly
