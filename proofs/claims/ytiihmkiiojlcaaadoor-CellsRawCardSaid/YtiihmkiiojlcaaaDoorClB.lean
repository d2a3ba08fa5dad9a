/- Runs over unknown values, told by the kernel: part ClB. -/
import Derived.Test.YtiihmkiiojlcaaaDoorClA
set_option linter.unusedSimpArgs false
set_option linter.unusedVariables false
namespace Go.Proofs.Cl
open Go Go.Sim Go.Proofs Go.Proofs.Cd Go.Proofs.St Go.Proofs.YtiihmkiiojlcaaaDoor
set_option maxRecDepth 20000
theorem getQ_in {c : CS} {j : Nat} (h : j < c.n) : c.getQ (Int.ofNat j) = c.q j := by
  have d : decide (0 ≤ Int.ofNat j ∧ Int.ofNat j < Int.ofNat c.n) = true := by simp; omega
  unfold CS.getQ; rw [d]; rfl
theorem getD_in {c : CS} {j : Nat} (h : j < c.n) : c.getD (Int.ofNat j) = c.d j := by
  have d : decide (0 ≤ Int.ofNat j ∧ Int.ofNat j < Int.ofNat c.n) = true := by simp; omega
  unfold CS.getD; rw [d]; rfl
set_option maxRecDepth 20000
theorem bf {n m : Nat} (h : ¬ n ≤ m) : Nat.ble n m = false := by rw [Bool.eq_false_iff, ne_eq, Nat.ble_eq]; exact h
theorem bt {n m : Nat} (h : n ≤ m) : Nat.ble n m = true := Nat.ble_eq_true_of_le h
theorem lf {n m : Nat} (h : ¬ n < m) : Nat.blt n m = false := by rw [Bool.eq_false_iff, ne_eq, Nat.blt_eq]; exact h
theorem lt_ {n m : Nat} (h : n < m) : Nat.blt n m = true := by rw [Nat.blt_eq]; exact h
theorem ef {n m : Nat} (h : n ≠ m) : Nat.beq n m = false := by rw [Bool.eq_false_iff, ne_eq, Nat.beq_eq]; exact h
theorem body_lo (q : Nat) (d : List Nat) {k : Nat} (h : k < 4) : bodyB q d k = fourB (q % 4294967296) k := by
  unfold bodyB
  rw [bf (by omega : ¬ 9 ≤ k), ef (by omega : k ≠ 8), bf (by omega : ¬ 4 ≤ k), bt (Nat.zero_le k), lt_ h]
  simp only [Bool.false_and, Bool.and_self, cond_false, cond_true]
theorem body_hi (q : Nat) (d : List Nat) {k : Nat} (h1 : 4 ≤ k) (h : k < 8) : bodyB q d k = fourB (q / 4294967296 % 4294967296) (k - 4) := by
  unfold bodyB
  rw [bf (by omega : ¬ 9 ≤ k), ef (by omega : k ≠ 8), bt h1, lt_ h]
  simp only [Bool.false_and, Bool.and_self, cond_false, cond_true]
theorem body_8 (q : Nat) (d : List Nat) : bodyB q d 8 = d.length % 256 := by
  unfold bodyB
  rw [bf (by omega : ¬ 9 ≤ 8), Nat.beq_refl]
  simp only [Bool.false_and, cond_false, cond_true]
theorem body_txt (q : Nat) (d : List Nat) {i : Nat} (h : i < d.length) : bodyB q d (9 + i) = d.getD i 0 := by
  unfold bodyB
  rw [bt (by omega : 9 ≤ 9 + i), lt_ (by omega : 9 + i < 9 + d.length)]
  simp only [Bool.and_self, cond_true]
  rw [Nat.add_sub_cancel_left]
theorem body_rest (q : Nat) (d : List Nat) {k : Nat} (h : 9 + d.length ≤ k) : bodyB q d k = 0 := by
  unfold bodyB
  rw [bt (by omega : 9 ≤ k), lf (by omega : ¬ k < 9 + d.length), ef (by omega : k ≠ 8), lf (by omega : ¬ k < 8), lf (by omega : ¬ k < 4)]
  simp only [Bool.and_false, cond_false]
theorem sect_body (q : Nat) (d : List Nat) {k : Nat} (h : k < 60) : sectB q d k = bodyB q d k := by
  unfold sectB; rw [lt_ h, cond_true]
theorem sect_sum (q : Nat) (d : List Nat) (k : Nat) : sectB q d (60 + k) = fourB (sumN (bodyB q d) 60) k := by
  unfold sectB; rw [lf (by omega : ¬ 60 + k < 60), cond_false, Nat.add_sub_cancel_left]
theorem bOf_by (b : Nat → Nat) (k : Nat) : bOf (byF b) k = b k := Eq.refl _
theorem bOf_sh (b : Nat → Nat) (l k : Nat) : bOf (shiftF l (byF b)) k = b (l + k) := by
  show cvN (shiftF l (byF b) k 0) = _
  rw [shiftF_eq]; exact Eq.refl _
theorem sect_open (q : Nat) (d : List Nat) : openB (byF (sectB q d)) = true := by
  unfold openB
  refine decide_eq_true ?_
  have e1 : sumN (bOf (byF (sectB q d))) 60 = sumN (bodyB q d) 60 := sumN_congr fun k hk => by rw [bOf_by, sect_body q d hk]
  have e2 : four1 (bOf (shiftF 60 (byF (sectB q d)))) = four1 (fourB (sumN (bodyB q d) 60)) := four1_congr fun k hk => by rw [bOf_sh, sect_sum]
  rw [e1, e2, four1_four (sumN_lt _ _)]
theorem sect_num (q : Nat) (d : List Nat) (h : q ≤ 1099511627776) : numN (sectB q d) = q := by
  have e1 : four1 (bOf (byF (sectB q d))) = q % 4294967296 := by
    rw [four1_congr (b' := fourB (q % 4294967296)) fun k hk => by rw [bOf_by, sect_body q d (by omega), body_lo q d hk]]
    exact four1_four (Nat.mod_lt _ (by decide))
  have e2 : four1 (bOf (shiftF 4 (byF (sectB q d)))) = q / 4294967296 % 4294967296 := by
    rw [four1_congr (b' := fourB (q / 4294967296 % 4294967296)) fun k hk => by rw [bOf_sh, sect_body q d (by omega), body_hi q d (by omega) (by omega), Nat.add_sub_cancel_left]]
    exact four1_four (Nat.mod_lt _ (by decide))
  unfold numN
  rw [e1, e2]
  omega
theorem sect_8 (q : Nat) (d : List Nat) (h : d.length ≤ 51) : sectB q d 8 = d.length := by
  rw [sect_body q d (by omega), body_8, Nat.mod_eq_of_lt (by omega)]
theorem sect_rest (q : Nat) (d : List Nat) (h : d.length ≤ 51) : restN (sectB q d) = 0 := by
  unfold restN
  rw [sect_8 q d h, trN_zero]
  intro k hk
  rw [bOf_sh, sect_body q d (by omega), body_rest q d (by omega)]
theorem sect_ok (q : Nat) (d : List Nat) (h1 : 1 ≤ q) (h2 : q ≤ 1099511627776) (hl : d.length ≤ 51) : okB (sectB q d) = true := by
  unfold okB
  rw [sect_open, sect_8 q d hl, sect_num q d h2, sect_rest q d hl, bt hl, bt h1, bt h2, Nat.beq_refl]
  simp only [Bool.and_self]
end Go.Proofs.Cl
