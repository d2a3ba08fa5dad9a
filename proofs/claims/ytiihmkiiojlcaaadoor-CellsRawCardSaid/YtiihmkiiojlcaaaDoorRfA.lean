/- Runs over unknown values, told by the kernel: part RfA. -/
import Derived.Test.YtiihmkiiojlcaaaDoorClB
set_option linter.unusedSimpArgs false
set_option linter.unusedVariables false
set_option maxRecDepth 20000
namespace Go.Proofs.Cd
open Go Go.Sim Go.Proofs Go.Proofs.YtiihmkiiojlcaaaDoor
noncomputable def rstep (x b k : Nat) : Nat := bif Nat.beq (Nat.land (Nat.shiftRight b k) 1) (Nat.land x 1) then Nat.shiftRight x 1 else Nat.xor (Nat.shiftRight x 1) 2197175160
noncomputable def rsteps (b : Nat) : Nat → Nat → Nat
  | 0, x => x
  | k + 1, x => rstep (rsteps b k x) b k
theorem land1_or (x : Nat) : Nat.land x 1 = 0 ∨ Nat.land x 1 = 1 := by have := land1 x; omega
theorem rstep_step (x b k : Nat) : stepN (Nat.xor x (Nat.shiftRight b k)) = Nat.xor (rstep x b k) (Nat.shiftRight b (k + 1)) := by
  have e1 : Nat.shiftRight (Nat.xor x (Nat.shiftRight b k)) 1 = Nat.xor (Nat.shiftRight x 1) (Nat.shiftRight b (k + 1)) := by
    show (x ^^^ (b >>> k)) >>> 1 = (x >>> 1) ^^^ (b >>> (k + 1))
    rw [Nat.shiftRight_xor_distrib, Nat.shiftRight_add]
  have e2 : Nat.land (Nat.xor x (Nat.shiftRight b k)) 1 = Nat.xor (Nat.land x 1) (Nat.land (Nat.shiftRight b k) 1) := by
    show (x ^^^ (b >>> k)) &&& 1 = (x &&& 1) ^^^ ((b >>> k) &&& 1)
    rw [Nat.and_xor_distrib_right]
  unfold stepN rstep
  rw [e1, e2]
  rcases land1_or x with h1 | h1 <;> rcases land1_or (Nat.shiftRight b k) with h2 | h2 <;> rw [h1, h2]
  · show ((x >>> 1) ^^^ (b >>> (k + 1))) ^^^ 0 = (x >>> 1) ^^^ (b >>> (k + 1))
    rw [Nat.xor_zero]
  · show ((x >>> 1) ^^^ (b >>> (k + 1))) ^^^ 2197175160 = ((x >>> 1) ^^^ 2197175160) ^^^ (b >>> (k + 1))
    rw [Nat.xor_assoc, Nat.xor_comm (b >>> (k + 1)), Nat.xor_assoc]
  · show ((x >>> 1) ^^^ (b >>> (k + 1))) ^^^ 2197175160 = ((x >>> 1) ^^^ 2197175160) ^^^ (b >>> (k + 1))
    rw [Nat.xor_assoc, Nat.xor_comm (b >>> (k + 1)), Nat.xor_assoc]
  · show ((x >>> 1) ^^^ (b >>> (k + 1))) ^^^ 0 = (x >>> 1) ^^^ (b >>> (k + 1))
    rw [Nat.xor_zero]
theorem stepsN_s (r : Nat) : ∀ n, stepsN (n + 1) r = stepN (stepsN n r) := fun n => by
  induction n generalizing r with
  | zero => rfl
  | succ n ih => rw [stepsN_add, ih (stepN r)]; rfl
theorem rsteps_steps (b x : Nat) : ∀ k, stepsN k (Nat.xor x b) = Nat.xor (rsteps b k x) (Nat.shiftRight b k)
  | 0 => by
    show x ^^^ b = x ^^^ (b >>> 0)
    rw [Nat.shiftRight_zero]
  | k + 1 => by
    rw [stepsN_s, rsteps_steps b x k, rstep_step]; rfl
theorem rsteps8 {b : Nat} (x : Nat) (hb : b < 256) : rsteps b 8 x = stepsN 8 (Nat.xor x b) := by
  rw [rsteps_steps]
  have e : Nat.shiftRight b 8 = 0 := by
    show b >>> 8 = 0
    rw [Nat.shiftRight_eq_div_pow]; omega
  rw [e]
  show _ = rsteps b 8 x ^^^ 0
  rw [Nat.xor_zero]
theorem rstep_lt {x : Nat} (h : x < 4294967296) (b k : Nat) : rstep x b k < 4294967296 := by
  have h1 : Nat.shiftRight x 1 < 4294967296 := by
    show x >>> 1 < _
    rw [Nat.shiftRight_eq_div_pow]; omega
  unfold rstep
  cases Nat.beq (Nat.land (Nat.shiftRight b k) 1) (Nat.land x 1) with
  | true => exact h1
  | false => exact Nat.xor_lt_two_pow (n := 32) h1 (by decide)
theorem rsteps_lt {x : Nat} (h : x < 4294967296) (b : Nat) : ∀ k, rsteps b k x < 4294967296
  | 0 => h
  | k + 1 => rstep_lt (rsteps_lt h b k) b k
theorem rsumi_vc (L i k : Nat) (b : Nat → Nat) (x : Nat) (K : Res → Orc → Prop) : runK Tryd.prog 1000000 (.code (loopAt Tryd.prog 59 1) 38 (mkT [(0, .sv 1 L (byF b)), (3, .i .u32 (Int.ofNat x)), (4, .i .i64 (Int.ofNat i)), (5, .i .i64 (Int.ofNat k))]) (mkH [])) (Orc.s (Orc.s Orc.z Orc.z) Orc.z) K = ((decide (Int.ofNat k < 8) = true → (0 ≤ Int.ofNat i ∧ Int.ofNat i < ↑L) ∧ True ∧ True ∧ True ∧ 0 ≤ wrapA .u64 (Int.ofNat k) ∧ True ∧ True ∧ (0 : Int) ≤ (1 : Int) ∧ ((!decide (wrapA .u32 ↑(BitVec.toNat (BitVec.ofInt 32 (Int.fdiv (wrapA .u32 (Int.ofNat (b i))) (2 ^ min (Int.toNat (wrapA .u64 (Int.ofNat k))) 32)) &&& BitVec.ofInt 32 1)) = wrapA .u32 ↑(BitVec.toNat (BitVec.ofInt 32 (Int.ofNat x) &&& BitVec.ofInt 32 1)))) = true → True ∧ ((-9223372036854775808) ≤ Int.ofNat k + 1 ∧ Int.ofNat k + (1 : Int) ≤ (9223372036854775807 : Int)) ∧ K (Res.st XO.nrm (T.n (some (AV.sv 1 L (byF b))) (T.n none
  (T.n (some (AV.i .u32 (wrapA .u32 ↑(BitVec.toNat (BitVec.ofInt 32 (Int.fdiv (Int.ofNat x) 2) ^^^ BitVec.ofInt 32 2197175160))))) (T.n (some (AV.i .u32 (wrapA .u32 ↑(BitVec.toNat (BitVec.ofInt 32 (Int.ofNat x) &&& BitVec.ofInt 32 1))))) (T.n (some (AV.b (decide (Int.ofNat k < 8)))) (T.n (some (AV.i .u32 (wrapA .u32 ↑(BitVec.toNat (BitVec.ofInt 32 (Int.fdiv (wrapA .u32 (Int.ofNat (b i))) (2 ^ min (Int.toNat (wrapA .u64 (Int.ofNat k))) 32)) &&& BitVec.ofInt 32 1))))) T.e T.e) T.e) (T.n (some (AV.i .i64 (Int.ofNat k))) T.e T.e)) (T.n none (T.n (some (AV.i .i64 (Int.ofNat i))) (T.n (some (AV.i .u32 (wrapA .u32 ↑(BitVec.toNat (BitVec.ofInt 32 (Int.fdiv (Int.ofNat x) 2) ^^^ BitVec.ofInt 32 2197175160))))) T.e T.e) T.e) (T.n (some (AV.i .u32 (Int.ofNat x))) T.e T.e))) (T.n (some (AV.i .i64 (Int.ofNat k + 1))) (T.n none (T.n (some (AV.i .i64 (Int.ofNat k + 1))) (T.n (some (AV.b !decide (wrapA
  .u32 ↑(BitVec.toNat (BitVec.ofInt 32 (Int.fdiv (wrapA .u32 (Int.ofNat (b i))) (2 ^ min (Int.toNat (wrapA .u64 (Int.ofNat k))) 32)) &&& BitVec.ofInt 32 1)) = wrapA .u32 ↑(BitVec.toNat (BitVec.ofInt 32 (Int.ofNat x) &&& BitVec.ofInt 32 1))))) T.e T.e) T.e) (T.n (some (AV.i .u32 (Int.fdiv (wrapA .u32 (Int.ofNat (b i))) (2 ^ min (Int.toNat (wrapA .u64 (Int.ofNat k))) 32)))) T.e T.e)) (T.n none (T.n (some (AV.i .u8 (Int.ofNat (b i)))) T.e T.e) (T.n (some (AV.i .u32 (Int.ofNat x))) T.e T.e)))) (T.n none (T.n (some (AV.i .i64 (Int.ofNat i))) (T.n none (T.n (some (AV.i .i64 (Int.ofNat k))) (T.n (some (AV.i .u32 (wrapA .u32 ↑(BitVec.toNat (BitVec.ofInt 32 (Int.ofNat x) &&& BitVec.ofInt 32 1))))) T.e T.e) T.e) (T.n (some (AV.i .u64 (wrapA .u64 (Int.ofNat k)))) T.e T.e)) (T.n none (T.n (some (AV.pv 1 (byF b i))) T.e T.e) (T.n (some (AV.i .u32 (wrapA .u32 ↑(BitVec.toNat (BitVec.ofInt 32 (Int.ofNat
  x) &&& BitVec.ofInt 32 1))))) T.e T.e))) (T.n (some (AV.i .u32 (wrapA .u32 ↑(BitVec.toNat (BitVec.ofInt 32 (Int.fdiv (wrapA .u32 (Int.ofNat (b i))) (2 ^ min (Int.toNat (wrapA .u64 (Int.ofNat k))) 32)) &&& BitVec.ofInt 32 1))))) (T.n none (T.n (some (AV.sv 1 L (byF b))) (T.n (some (AV.i .u32 (Int.fdiv (Int.ofNat x) 2))) T.e T.e) T.e) (T.n (some (AV.i .u32 (wrapA .u32 ↑(BitVec.toNat (BitVec.ofInt 32 (Int.fdiv (wrapA .u32 (Int.ofNat (b i))) (2 ^ min (Int.toNat (wrapA .u64 (Int.ofNat k))) 32)) &&& BitVec.ofInt 32 1))))) T.e T.e)) (T.n (some (AV.i .i64 (Int.ofNat k))) (T.n (some (AV.i .u32 (wrapA .u32 (Int.ofNat (b i))))) T.e T.e) (T.n (some (AV.i .u32 (Int.fdiv (Int.ofNat x) 2))) T.e T.e))))) ⟨T.e, 0, []⟩) Orc.z) ∧ ((!decide (wrapA .u32 ↑(BitVec.toNat (BitVec.ofInt 32 (Int.fdiv (wrapA .u32 (Int.ofNat (b i))) (2 ^ min (Int.toNat (wrapA .u64 (Int.ofNat k))) 32)) &&& BitVec.ofInt 32 1)) =
  wrapA .u32 ↑(BitVec.toNat (BitVec.ofInt 32 (Int.ofNat x) &&& BitVec.ofInt 32 1)))) = false → ((-9223372036854775808) ≤ Int.ofNat k + 1 ∧ Int.ofNat k + (1 : Int) ≤ (9223372036854775807 : Int)) ∧ K (Res.st XO.nrm (T.n (some (AV.sv 1 L (byF b))) (T.n none (T.n (some (AV.i .u32 (Int.fdiv (Int.ofNat x) 2))) (T.n (some (AV.i .u32 (wrapA .u32 ↑(BitVec.toNat (BitVec.ofInt 32 (Int.ofNat x) &&& BitVec.ofInt 32 1))))) (T.n (some (AV.b (decide (Int.ofNat k < 8)))) (T.n (some (AV.i .u32 (wrapA .u32 ↑(BitVec.toNat (BitVec.ofInt 32 (Int.fdiv (wrapA .u32 (Int.ofNat (b i))) (2 ^ min (Int.toNat (wrapA .u64 (Int.ofNat k))) 32)) &&& BitVec.ofInt 32 1))))) T.e T.e) T.e) (T.n (some (AV.i .i64 (Int.ofNat k))) T.e T.e)) (T.n none (T.n (some (AV.i .i64 (Int.ofNat i))) T.e T.e) (T.n (some (AV.i .u32 (Int.ofNat x))) T.e T.e))) (T.n (some (AV.i .i64 (Int.ofNat k + 1))) (T.n none (T.n (some (AV.i .i64 (Int.ofNat k
  + 1))) (T.n (some (AV.b !decide (wrapA .u32 ↑(BitVec.toNat (BitVec.ofInt 32 (Int.fdiv (wrapA .u32 (Int.ofNat (b i))) (2 ^ min (Int.toNat (wrapA .u64 (Int.ofNat k))) 32)) &&& BitVec.ofInt 32 1)) = wrapA .u32 ↑(BitVec.toNat (BitVec.ofInt 32 (Int.ofNat x) &&& BitVec.ofInt 32 1))))) T.e T.e) T.e) (T.n (some (AV.i .u32 (Int.fdiv (wrapA .u32 (Int.ofNat (b i))) (2 ^ min (Int.toNat (wrapA .u64 (Int.ofNat k))) 32)))) T.e T.e)) (T.n none (T.n (some (AV.i .u8 (Int.ofNat (b i)))) T.e T.e) (T.n (some (AV.i .u32 (Int.ofNat x))) T.e T.e)))) (T.n none (T.n (some (AV.i .i64 (Int.ofNat i))) (T.n none (T.n (some (AV.i .i64 (Int.ofNat k))) (T.n (some (AV.i .u32 (wrapA .u32 ↑(BitVec.toNat (BitVec.ofInt 32 (Int.ofNat x) &&& BitVec.ofInt 32 1))))) T.e T.e) T.e) (T.n (some (AV.i .u64 (wrapA .u64 (Int.ofNat k)))) T.e T.e)) (T.n none (T.n (some (AV.pv 1 (byF b i))) T.e T.e) (T.n (some (AV.i .u32 (wrapA .u32
  ↑(BitVec.toNat (BitVec.ofInt 32 (Int.ofNat x) &&& BitVec.ofInt 32 1))))) T.e T.e))) (T.n (some (AV.i .u32 (wrapA .u32 ↑(BitVec.toNat (BitVec.ofInt 32 (Int.fdiv (wrapA .u32 (Int.ofNat (b i))) (2 ^ min (Int.toNat (wrapA .u64 (Int.ofNat k))) 32)) &&& BitVec.ofInt 32 1))))) (T.n none (T.n (some (AV.sv 1 L (byF b))) T.e T.e) (T.n (some (AV.i .u32 (wrapA .u32 ↑(BitVec.toNat (BitVec.ofInt 32 (Int.fdiv (wrapA .u32 (Int.ofNat (b i))) (2 ^ min (Int.toNat (wrapA .u64 (Int.ofNat k))) 32)) &&& BitVec.ofInt 32 1))))) T.e T.e)) (T.n (some (AV.i .i64 (Int.ofNat k))) (T.n (some (AV.i .u32 (wrapA .u32 (Int.ofNat (b i))))) T.e T.e) (T.n (some (AV.i .u32 (Int.fdiv (Int.ofNat x) 2))) T.e T.e))))) ⟨T.e, 0, []⟩) Orc.z)) ∧ (decide (Int.ofNat k < 8) = false → K (Res.st (XO.exit 2) (T.n (some (AV.sv 1 L (byF b))) (T.n none (T.n (some (AV.i .u32 (Int.ofNat x))) (T.n none (T.n (some (AV.b (decide (Int.ofNat k <
  8)))) T.e T.e) T.e) T.e) (T.n (some (AV.i .i64 (Int.ofNat k))) T.e T.e)) (T.n none (T.n (some (AV.i .i64 (Int.ofNat i))) T.e T.e) (T.n none T.e (T.n (some (AV.i .i64 (Int.ofNat k))) T.e T.e)))) ⟨T.e, 0, []⟩) Orc.z)) := by kernel_rfl
theorem rsumo_vc (L i y : Nat) (b : Nat → Nat) (x : Nat) (K : Res → Orc → Prop) : runK Tryd.prog 1000000 (.code (loopAt Tryd.prog 59 0) 38 (mkT [(0, .sv 1 L (byF b)), (3, .i .u32 (Int.ofNat x)), (4, .i .i64 (Int.ofNat i))]) (mkH [])) (Orc.s (Orc.lop [] [0, 3, 4, 5] 0 (XO.exit 2) [(0, AV.sv 1 L (byF b)), (3, AV.i .u32 (Int.ofNat y)), (4, AV.i .i64 (Int.ofNat i))] [] Orc.z) Orc.z) K = ((decide (Int.ofNat i < Int.ofNat L) = true → LDoes Tryd.prog (loopAt Tryd.prog 59 1) 38 0 (mkT [(0, AV.sv 1 L (byF b)), (3, AV.i .u32 (Int.ofNat x)), (4, AV.i .i64 (Int.ofNat i)), (5, AV.i .i64 0)]) [] (XO.exit 2) (mkT [(0, AV.sv 1 L (byF b)), (3, AV.i .u32 (Int.ofNat y)), (4, AV.i .i64 (Int.ofNat i))]) [] ∧ ((-9223372036854775808) ≤ Int.ofNat i + 1 ∧ Int.ofNat i + (1 : Int) ≤ (9223372036854775807 : Int)) ∧ K (Res.st XO.nrm (T.n (some (AV.sv 1 L (byF b))) (T.n none (T.n (some (AV.i .u32 (Int.ofNat y))) T.e
  T.e) (T.n none T.e (T.n (some (AV.i .i64 (Int.ofNat i + 1))) T.e T.e))) (T.n none (T.n (some (AV.i .i64 (Int.ofNat i + 1))) T.e (T.n (some (AV.i .i64 (Int.ofNat i))) T.e T.e)) T.e)) ⟨T.e, 0, []⟩) Orc.z) ∧ (decide (Int.ofNat i < Int.ofNat L) = false → K (Res.st (XO.exit 0) (T.n (some (AV.sv 1 L (byF b))) (T.n none (T.n (some (AV.i .u32 (Int.ofNat x))) T.e (T.n (some (AV.b (decide (Int.ofNat i < Int.ofNat L)))) T.e T.e)) (T.n none (T.n (some (AV.sv 1 L (byF b))) T.e T.e) T.e)) (T.n none (T.n (some (AV.i .i64 (Int.ofNat i))) (T.n (some (AV.i .i64 (Int.ofNat i))) T.e T.e) T.e) (T.n none (T.n (some (AV.i .i64 (Int.ofNat L))) T.e T.e) T.e))) ⟨T.e, 0, []⟩) Orc.z)) := by kernel_rfl
theorem rsum_vc (L y : Nat) (b : Nat → Nat) (K : Res → Orc → Prop) : runK Tryd.prog 1000000 (.call 59 [.sv 1 L (byF b)] (mkH [])) (Orc.lop [] [0, 3, 4] 0 (XO.exit 0) [(3, AV.i .u32 (Int.ofNat y))] [] Orc.z) K = (LDoes Tryd.prog (loopAt Tryd.prog 59 0) 38 0 (mkT [(0, AV.sv 1 L (byF b)), (3, AV.i .u32 4294967295), (4, AV.i .i64 0)]) [] (XO.exit 0) (mkT [(3, AV.i .u32 (Int.ofNat y))]) [] ∧ True ∧ K (Res.rv (AV.i .u32 (wrapA .u32 ↑(BitVec.toNat (BitVec.ofInt 32 (Int.ofNat y) ^^^ BitVec.ofInt 32 4294967295)))) ⟨T.e, 0, []⟩) Orc.z) := by kernel_rfl
theorem fdivN (m k : Nat) : Int.fdiv (Int.ofNat m) ((2 : Int) ^ k) = Int.ofNat (Nat.shiftRight m k) := by
  have e : ((2 : Int) ^ k) = Int.ofNat (2 ^ k) := by
    show ((2 : Int) ^ k) = ((2 ^ k : Nat) : Int)
    simp
  have h0 : (0 : Int) ≤ Int.ofNat (2 ^ k) := Int.natCast_nonneg (2 ^ k)
  rw [e, Int.fdiv_eq_ediv_of_nonneg (Int.ofNat m) h0]
  show Int.ofNat (m / 2 ^ k) = Int.ofNat (m >>> k)
  rw [Nat.shiftRight_eq_div_pow]
theorem bitE {c k : Nat} (hc : c < 256) (hk : k < 8) : wrapA IntKind.u32 ↑(BitVec.toNat (BitVec.ofInt 32 (Int.fdiv (wrapA IntKind.u32 (Int.ofNat c)) ((2 : Int) ^ min (Int.toNat (wrapA IntKind.u64 (Int.ofNat k))) 32)) &&& BitVec.ofInt 32 (1 : Int))) = Int.ofNat (Nat.land (Nat.shiftRight c k) 1) := by
  have e1 : wrapA IntKind.u32 (Int.ofNat c) = Int.ofNat c := wrap32 (by omega)
  have e2 : wrapA IntKind.u64 (Int.ofNat k) = Int.ofNat k := by
    show Int.ofNat (k % 18446744073709551616) = _
    rw [Nat.mod_eq_of_lt (by omega)]
  have e3 : min (Int.toNat (Int.ofNat k)) 32 = k := by simp; omega
  rw [e1, e2, e3, fdivN]
  refine andE (b := 1) ?_ (by omega)
  show c >>> k < _
  rw [Nat.shiftRight_eq_div_pow]
  exact Nat.lt_of_le_of_lt (Nat.div_le_self _ _) (by omega)
theorem lowE {x : Nat} (hx : x < 4294967296) : wrapA IntKind.u32 ↑(BitVec.toNat (BitVec.ofInt 32 (Int.ofNat x) &&& BitVec.ofInt 32 (1 : Int))) = Int.ofNat (Nat.land x 1) := andE (b := 1) hx (by omega)
theorem flipE {x : Nat} (hx : x < 4294967296) : wrapA IntKind.u32 ↑(BitVec.toNat (BitVec.ofInt 32 (Int.fdiv (Int.ofNat x) (2 : Int)) ^^^ BitVec.ofInt 32 (2197175160 : Int))) = Int.ofNat (Nat.xor (Nat.shiftRight x 1) 2197175160) := by
  rw [shrE]
  refine xorE (b := 2197175160) ?_ (by decide)
  show x >>> 1 < _
  rw [Nat.shiftRight_eq_div_pow]; omega
theorem rsumi_lp (L i : Nat) (b : Nat → Nat) (x0 : Nat) (hb : b i < 256) (h0 : x0 < 4294967296) (hi : i < L) :
    LDoes Tryd.prog (loopAt Tryd.prog 59 1) 38 0 (mkT [(0, .sv 1 L (byF b)), (3, .i .u32 (Int.ofNat x0)), (4, .i .i64 (Int.ofNat i)), (5, .i .i64 0)]) [] (.exit 2) (mkT [(0, .sv 1 L (byF b)), (3, .i .u32 (Int.ofNat (stepsN 8 (Nat.xor x0 (b i))))), (4, .i .i64 (Int.ofNat i))]) [] := by
  refine loop_ind (D := Nat) (l' := [(0, .sv 1 L (byF b)), (3, .i .u32 (Int.ofNat (stepsN 8 (Nat.xor x0 (b i))))), (4, .i .i64 (Int.ofNat i))])
    (fun k => ([(0, .sv 1 L (byF b)), (3, .i .u32 (Int.ofNat (rsteps (b i) k x0))), (4, .i .i64 (Int.ofNat i)), (5, .i .i64 (Int.ofNat k))], [])) (fun k => 8 - k) (fun k => k ≤ 8) ?_ 0 (Nat.zero_le 8)
  intro k hk
  have hk : k ≤ 8 := hk
  have hx := rsteps_lt h0 (b i) k
  have hs : rsteps (b i) (k + 1) x0 = rstep (rsteps (b i) k x0) (b i) k := rfl
  generalize hg : rsteps (b i) k x0 = x at hx hs
  refine ⟨Nat.le_refl _, 1000000, ?_⟩
  refine ⟨_, (rsumi_vc L i k b x _).mpr ⟨fun hlt => ?_, fun hge => ?_⟩⟩
  · have hk8 : k < 8 := by have := of_decide_eq_true hlt; simp at this; omega
    have rg : (-9223372036854775808 : Int) ≤ Int.ofNat k + (1 : Int) ∧ Int.ofNat k + (1 : Int) ≤ (9223372036854775807 : Int) := by simp <;> omega
    have w : (0 : Int) ≤ wrapA IntKind.u64 (Int.ofNat k) := by show (0 : Int) ≤ Int.ofNat (k % 18446744073709551616); exact Int.natCast_nonneg _
    have mu : (fun k => 8 - k) (k + 1) < (fun k => 8 - k) k := by show 8 - (k + 1) < 8 - k; omega
    rw [bitE hb hk8, lowE hx, flipE hx, shrE]
    refine ⟨⟨by simp, by simp; omega⟩, trivial, trivial, trivial, w, trivial, trivial, by decide, fun hne => ⟨trivial, rg, ?_⟩, fun he => ⟨rg, ?_⟩⟩
    · have e : rsteps (b i) (k + 1) x0 = Nat.xor (Nat.shiftRight x 1) 2197175160 := by
        rw [hs]; unfold rstep
        have hn : Nat.land (Nat.shiftRight (b i) k) 1 ≠ Nat.land x 1 := fun q => by rw [q] at hne; simp at hne
        rw [show Nat.beq (Nat.land (Nat.shiftRight (b i) k) 1) (Nat.land x 1) = false from Bool.eq_false_iff.2 fun q => hn (Nat.eq_of_beq_eq_true q)]
        rfl
      exact .inl ⟨k + 1, [], [], _, _, hk8, mu, rfl, by simp only [e]; exact st_k [] (by kernel_rfl)⟩
    · have e : rsteps (b i) (k + 1) x0 = Nat.shiftRight x 1 := by
        rw [hs]; unfold rstep
        have hn : Nat.land (Nat.shiftRight (b i) k) 1 = Nat.land x 1 := by
          rw [Bool.not_eq_false'] at he
          exact Int.ofNat.inj (of_decide_eq_true he)
        rw [hn, Nat.beq_refl]; rfl
      exact .inl ⟨k + 1, [], [], _, _, hk8, mu, rfl, by simp only [e]; exact st_k [] (by kernel_rfl)⟩
  · have : k = 8 := by have := of_decide_eq_false hge; simp at this; omega
    subst this
    have e : rsteps (b i) 8 x0 = stepsN 8 (Nat.xor x0 (b i)) := rsteps8 x0 hb
    rw [← hg, e]
    exact .inr ⟨[], [], _, _, rfl, by simp, st_k [] (by kernel_rfl)⟩
theorem rsumo_lp (L : Nat) (b : Nat → Nat) (hL : L < 4611686018427387904) (hb : ∀ k, b k < 256) : LDoes Tryd.prog (loopAt Tryd.prog 59 0) 38 0 (mkT [(0, .sv 1 L (byF b)), (3, .i .u32 4294967295), (4, .i .i64 0)]) [] (.exit 0) (mkT [(3, .i .u32 (Int.ofNat (regN b L 0 4294967295)))]) [] := by
  refine loop_ind (D := Nat × Nat) (l' := [(3, .i .u32 (Int.ofNat (regN b L 0 4294967295)))])
    (fun d => ([(0, .sv 1 L (byF b)), (3, .i .u32 (Int.ofNat d.2)), (4, .i .i64 (Int.ofNat d.1))], [])) (fun d => L - d.1)
    (fun d => d.1 ≤ L ∧ d.2 < 4294967296 ∧ regN b (L - d.1) d.1 d.2 = regN b L 0 4294967295) ?_ (0, 4294967295) ⟨by simp, by simp, rfl⟩
  rintro ⟨k, r⟩ ⟨hk, hr, he⟩
  simp only at hk hr he
  have hx := Nat.xor_lt_two_pow (n := 32) hr (Nat.lt_trans (hb k) (by decide))
  refine ⟨Nat.le_refl _, _, _, (rsumo_vc L k (stepsN 8 (Nat.xor r (b k))) b r _).mpr ⟨fun hlt => ?_, fun hge => ?_⟩⟩
  · have hlt : k < L := by simpa using hlt
    refine ⟨rsumi_lp L k b r (hb k) hr hlt, ⟨by simp; omega, by simp; omega⟩, .inl ⟨(k + 1, stepsN 8 (Nat.xor r (b k))), [], [], _, _, ⟨hlt, stepsN_lt 8 hx, ?_⟩, by simp only; omega, rfl, st_k [] (by kernel_rfl)⟩⟩
    simp only
    rw [← he, show L - k = (L - (k + 1)) + 1 by omega]
    rfl
  · have : k = L := by simp at hge; omega
    subst this
    have he' : r = regN b k 0 4294967295 := by rw [Nat.sub_self] at he; exact he
    subst he'
    exact .inr ⟨[], [], _, _, rfl, by simp, st_k [] (by kernel_rfl)⟩
theorem rsum_con (L : Nat) (b : Nat → Nat) (hL : L < 4611686018427387904) (hb : ∀ k, b k < 256) : Con Tryd.prog 59 [.sv 1 L (byF b)] [] (.i .u32 (Int.ofNat (sumN b L))) [] := by
  refine con_plain rfl ((rsum_vc L (regN b L 0 4294967295) b _).mpr ⟨rsumo_lp L b hL hb, trivial, _, _, rfl, ?_⟩)
  have hr := regN_lt hb L 0 (r := 4294967295) (by decide)
  have e : wrapA IntKind.u32 ↑(BitVec.toNat (BitVec.ofInt 32 (Int.ofNat (regN b L 0 4294967295)) ^^^ BitVec.ofInt 32 (4294967295 : Int))) = Int.ofNat (Nat.xor (regN b L 0 4294967295) 4294967295) := xorE (b := 4294967295) hr (by decide)
  rw [e]
  have e2 : Nat.xor (regN b L 0 4294967295) 4294967295 = Nat.xor 4294967295 (regN b L 0 4294967295) := Nat.xor_comm _ _
  rw [e2, notE hr]; rfl
theorem rfour_vc (x : Nat) (K : Res → Orc → Prop) : runK Tryd.prog 1000000 (.call 48 [.i .u32 (Int.ofNat x)] (mkH [])) (Orc.inl (Orc.c (Orc.inl (Orc.c (Orc.inl (Orc.c (Orc.inl (Orc.c (Orc.inl (Orc.c Orc.z)))))))))) K = ((256 : Int) ≠ (0 : Int) ∧ True ∧ ((256 : Int) ≠ (0 : Int) ∧ 0 ≤ Int.tdiv (Int.ofNat x) 256 ∧ Int.tdiv (Int.ofNat x) (256 : Int) ≤ (4294967295 : Int)) ∧ ((-9223372036854775808 : Int) ≤ (1 : Int) ∧ (1 : Int) ≤ (9223372036854775807 : Int)) ∧ (256 : Int) ≠ (0 : Int) ∧ True ∧ ((256 : Int) ≠ (0 : Int) ∧ 0 ≤ Int.tdiv (Int.tdiv (Int.ofNat x) 256) 256 ∧ Int.tdiv (Int.tdiv (Int.ofNat x) 256) (256 : Int) ≤ (4294967295 : Int)) ∧ ((-9223372036854775808 : Int) ≤ (2 : Int) ∧ (2 : Int) ≤ (9223372036854775807 : Int)) ∧ (256 : Int) ≠ (0 : Int) ∧ True ∧ ((256 : Int) ≠ (0 : Int) ∧ 0 ≤ Int.tdiv (Int.tdiv (Int.tdiv (Int.ofNat x) 256) 256) 256 ∧ Int.tdiv (Int.tdiv (Int.tdiv (Int.ofNat x) 256)
  256) (256 : Int) ≤ (4294967295 : Int)) ∧ ((-9223372036854775808 : Int) ≤ (3 : Int) ∧ (3 : Int) ≤ (9223372036854775807 : Int)) ∧ (256 : Int) ≠ (0 : Int) ∧ True ∧ ((256 : Int) ≠ (0 : Int) ∧ 0 ≤ Int.tdiv (Int.tdiv (Int.tdiv (Int.tdiv (Int.ofNat x) 256) 256) 256) 256 ∧ Int.tdiv (Int.tdiv (Int.tdiv (Int.tdiv (Int.ofNat x) 256) 256) 256) (256 : Int) ≤ (4294967295 : Int)) ∧ ((-9223372036854775808 : Int) ≤ (4 : Int) ∧ (4 : Int) ≤ (9223372036854775807 : Int)) ∧ K (Res.rv (AV.l 7 0 4 4 1 false) ⟨T.n (some (AObj.cells 5 1 [] (T.n (some (AV.i .u8 (wrapA .u8 (Int.tmod (Int.ofNat x) 256)))) T.e T.e))) (T.n none (T.n none (T.n (some (AObj.cells 5 4 [] (T.n (some (AV.i .u8 (wrapA .u8 (Int.tmod (Int.ofNat x) 256)))) (T.n (some (AV.i .u8 (wrapA .u8 (Int.tmod (Int.tdiv (Int.ofNat x) 256) 256)))) (T.n (some (AV.i .u8 (wrapA .u8 (Int.tmod (Int.tdiv (Int.tdiv (Int.tdiv (Int.ofNat x) 256) 256) 256) 256))))
  T.e T.e) T.e) (T.n (some (AV.i .u8 (wrapA .u8 (Int.tmod (Int.tdiv (Int.tdiv (Int.ofNat x) 256) 256) 256)))) T.e T.e)))) T.e T.e) T.e) (T.n none T.e T.e)) (T.n (some (AObj.cells 5 1 [] (T.n (some (AV.i .u8 (wrapA .u8 (Int.tmod (Int.tdiv (Int.ofNat x) 256) 256)))) T.e T.e))) (T.n (some (AObj.cells 5 1 [] (T.n (some (AV.i .u8 (wrapA .u8 (Int.tmod (Int.tdiv (Int.tdiv (Int.ofNat x) 256) 256) 256)))) T.e T.e))) T.e T.e) (T.n (some (AObj.cells 5 1 [] (T.n (some (AV.i .u8 (wrapA .u8 (Int.tmod (Int.tdiv (Int.tdiv (Int.tdiv (Int.ofNat x) 256) 256) 256) 256)))) T.e T.e))) T.e T.e)), 8, [7, 5, 6, 5, 3, 4, 3, 1, 2, 1, 0]⟩) Orc.z) := by kernel_rfl
theorem rofFour_vc (L : Nat) (b : Nat → Nat) (hl : decide (Int.ofNat L < 4) = false) (K : Res → Orc → Prop) : runK Tryd.prog 1000000 (.call 44 [.sv 1 L (byF b)] (mkH [])) (Orc.f (Orc.inl (Orc.c (Orc.inl (Orc.c (Orc.inl (Orc.c (Orc.inl (Orc.c (Orc.inl (Orc.c Orc.z))))))))))) K = (decide (Int.ofNat L < 4) = false ∧ True ∧ ((0 : Int) ≤ (3 : Int) ∧ (3 : Int) < ↑L) ∧ True ∧ True ∧ True ∧ ((-9223372036854775808 : Int) ≤ (2 : Int) ∧ (2 : Int) ≤ (9223372036854775807 : Int)) ∧ True ∧ ((0 : Int) ≤ (2 : Int) ∧ (2 : Int) < ↑L) ∧ True ∧ True ∧ True ∧ ((-9223372036854775808 : Int) ≤ (1 : Int) ∧ (1 : Int) ≤ (9223372036854775807 : Int)) ∧ True ∧ ((0 : Int) ≤ (1 : Int) ∧ (1 : Int) < ↑L) ∧ True ∧ True ∧ True ∧ ((-9223372036854775808 : Int) ≤ (0 : Int) ∧ (0 : Int) ≤ (9223372036854775807 : Int)) ∧ True ∧ ((0 : Int) ≤ (0 : Int) ∧ (0 : Int) < ↑L) ∧ True ∧ True ∧ True ∧ ((-9223372036854775808 : Int) ≤ (-1 :
  Int) ∧ (-1 : Int) ≤ (9223372036854775807 : Int)) ∧ K (Res.rv (AV.tup [AV.i .u32 (wrapA .u32 (wrapA .u32 (wrapA .u32 (wrapA .u32 (wrapA .u32 (wrapA .u32 (wrapA .u32 (0 + wrapA .u32 (Int.ofNat (b 3))) * 256) + wrapA .u32 (Int.ofNat (b 2))) * 256) + wrapA .u32 (Int.ofNat (b 1))) * 256) + wrapA .u32 (Int.ofNat (b 0)))), AV.b true]) ⟨T.e, 0, []⟩) Orc.z) := by kernel_rfl
theorem td256 (x : Nat) : Int.tdiv (Int.ofNat x) 256 = Int.ofNat (x / 256) := rfl
theorem tm256 (x : Nat) : wrapA IntKind.u8 (Int.tmod (Int.ofNat x) 256) = Int.ofNat (x % 256) := by
  show Int.ofNat ((x % 256) % 256) = Int.ofNat (x % 256)
  rw [Nat.mod_mod]
theorem le32 {x : Nat} (h : x < 4294967296) : (0 : Int) ≤ Int.ofNat x ∧ Int.ofNat x ≤ (4294967295 : Int) := ⟨Int.natCast_nonneg x, by simp; omega⟩
theorem rfour_con (x : Nat) (hx : x < 4294967296) : Con Tryd.prog 48 [.i .u32 (Int.ofNat x)] [] (.lr 0 1 0 4 false) [.set (.rows 5 1 4 (byF (fourB x)))] := by
  have h : Con Tryd.prog 48 [.i .u32 (Int.ofNat x)] [] (.l 0 0 4 4 1 false) [.set (cellsO 5 [.i .u8 (Int.ofNat (fourB x 0)), .i .u8 (Int.ofNat (fourB x 1)), .i .u8 (Int.ofNat (fourB x 2)), .i .u8 (Int.ofNat (fourB x 3))])] := by
    refine con_of_run [] [7] ((rfour_vc x _).mpr ?_)
    have e1 : x / 256 / 256 = x / 65536 := by rw [Nat.div_div_eq_div_mul]
    have e2 : x / 256 / 256 / 256 = x / 16777216 := by rw [Nat.div_div_eq_div_mul, Nat.div_div_eq_div_mul]
    have f0 : x % 256 = fourB x 0 := by show x % 256 = x / 256 ^ 0 % 256; simp
    have f1 : x / 256 % 256 = fourB x 1 := by show x / 256 % 256 = x / 256 ^ 1 % 256; simp
    have f2 : x / 256 / 256 % 256 = fourB x 2 := by rw [e1]; rfl
    have f3 : x / 256 / 256 / 256 % 256 = fourB x 3 := by rw [e2]; rfl
    simp only [td256, tm256, f0, f1, f2, f3]
    have z : (256 : Int) ≠ 0 := by decide
    exact ⟨z, trivial, ⟨z, le32 (by omega)⟩, by decide, z, trivial, ⟨z, le32 (by omega)⟩, by decide, z, trivial, ⟨z, le32 (by omega)⟩, by decide, z, trivial, ⟨z, le32 (by omega)⟩, by decide, _, _, rfl, ret_k (by kernel_rfl)⟩
  exact h.post .l_lr ⟨.x (OX.cellsRows rfl fun i hi => by
    have : i = 0 ∨ i = 1 ∨ i = 2 ∨ i = 3 := by omega
    rcases this with rfl | rfl | rfl | rfl <;> exact ⟨_, rfl, fun ρ x hx => by cases hx; exact .i _ _⟩), trivial⟩
theorem wm {a c : Nat} (h : a * 256 + c < 4294967296) (hc : c < 256) : wrapA IntKind.u32 (wrapA IntKind.u32 (Int.ofNat a * 256) + wrapA IntKind.u32 (Int.ofNat c)) = Int.ofNat (a * 256 + c) := by
  have e : Int.ofNat a * 256 = Int.ofNat (a * 256) := rfl
  rw [e, wrap32 (m := a * 256) (by omega), wrap32 (m := c) (by omega)]
  show wrapA IntKind.u32 (Int.ofNat (a * 256 + c)) = _
  exact wrap32 h
theorem rofFour_con (L : Nat) (b : Nat → Nat) (hL : 4 ≤ L) (hb : ∀ k, k < 4 → b k < 256) : Con Tryd.prog 44 [.sv 1 L (byF b)] [] (.tup [.i .u32 (Int.ofNat (four1 b)), .b true]) [] := by
  have hl : decide (Int.ofNat L < (4 : Int)) = false := decide_eq_false (by simp; omega)
  have r : ∀ k : Nat, k < 4 → (0 : Int) ≤ Int.ofNat k ∧ Int.ofNat k < (↑L : Int) := fun k hk => ⟨Int.natCast_nonneg k, by simp; omega⟩
  have b0 := hb 0 (by decide); have b1 := hb 1 (by decide); have b2 := hb 2 (by decide); have b3 := hb 3 (by decide)
  have z : (0 : Int) = Int.ofNat 0 := rfl
  refine con_plain rfl ((rofFour_vc L b hl _).mpr ⟨hl, trivial, r 3 (by decide), trivial, trivial, trivial, by decide, trivial, r 2 (by decide), trivial, trivial, trivial, by decide, trivial, r 1 (by decide), trivial, trivial, trivial, by decide, trivial, r 0 (by decide), trivial, trivial, trivial, by decide, _, _, rfl, ?_⟩)
  have w0 : wrapA IntKind.u32 (0 + wrapA IntKind.u32 (Int.ofNat (b 3))) = Int.ofNat (b 3) := by
    rw [wrap32 (m := b 3) (by omega), Int.zero_add]; exact wrap32 (by omega)
  have e : ((b 3 * 256 + b 2) * 256 + b 1) * 256 + b 0 = four1 b := by unfold four1; omega
  rw [w0, wm (a := b 3) (c := b 2) (by omega) b2, wm (a := b 3 * 256 + b 2) (c := b 1) (by omega) b1, wm (a := (b 3 * 256 + b 2) * 256 + b 1) (c := b 0) (by omega) b0, e]
theorem rsealR_vc (L k : Nat) (b : Nat → Nat) (ff : Nat → Nat → CV) (K : Res → Orc → Prop) : runK Tryd.prog 1000000 (.code (loopAt Tryd.prog 49 0) 25 (mkT [(0, .sv 1 L (byF b)), (3, .lr 0 1 0 k false), (4, .i .i64 (Int.ofNat k))]) (mkH [some (.rows 5 1 k ff)])) (Orc.s Orc.z Orc.z) K = ((decide (Int.ofNat k < Int.ofNat L) = true → (0 ≤ Int.ofNat k ∧ Int.ofNat k < ↑L) ∧ True ∧ (0 + k ≤ k ∧ True ∧ k + 1 ≤ 140737488355328 ∧ (3 * (k + 1) + 1536) * 1 ≤ 562949953421312) ∧ ((-9223372036854775808) ≤ Int.ofNat k + 1 ∧ Int.ofNat k + (1 : Int) ≤ (9223372036854775807 : Int)) ∧ K (Res.st XO.nrm (T.n (some (AV.sv 1 L (byF b))) (T.n none (T.n (some (AV.lr 2 1 0 (addN k 1) false)) (T.n (some (AV.sv 1 L (byF b))) (T.n (some (AV.pv 1 (byF b k))) T.e T.e) T.e) (T.n (some (AV.i .i64 (Int.ofNat k + 1))) T.e T.e)) (T.n none (T.n (some (AV.b (decide (Int.ofNat k < Int.ofNat L)))) (T.n (some (AV.l 1 0 1 1 1
  true)) T.e T.e) T.e) (T.n (some (AV.sv 1 L (byF b))) T.e T.e))) (T.n none (T.n (some (AV.i .i64 (Int.ofNat k + 1))) (T.n (some (AV.i .i64 (Int.ofNat L))) (T.n (some (AV.i .u8 (Int.ofNat (b k)))) T.e T.e) T.e) (T.n (some (AV.lr 0 1 0 k false)) T.e T.e)) (T.n (some (AV.i .i64 (Int.ofNat k))) (T.n (some (AV.i .i64 (Int.ofNat k))) (T.n (some (AV.lr 2 1 0 (addN k 1) false)) T.e T.e) T.e) (T.n (some (AV.i .i64 (Int.ofNat k))) T.e T.e)))) ⟨T.n none (T.n (some (AObj.cells 5 1 [] (T.n (some (AV.i .u8 (Int.ofNat (b k)))) T.e T.e))) T.e T.e) (T.n (some (AObj.rows 5 1 (addN k 1) (appZ k ff fun x j => List.getD [CV.i .u8 (Int.ofNat (b k))] j CV.p0))) T.e T.e), 3, [2, 0, 1]⟩) Orc.z) ∧ (decide (Int.ofNat k < Int.ofNat L) = false → K (Res.st (XO.exit 0) (T.n (some (AV.sv 1 L (byF b))) (T.n none (T.n (some (AV.lr 0 1 0 k false)) (T.n (some (AV.sv 1 L (byF b))) T.e T.e) T.e) (T.n none (T.n (some (AV.b
  (decide (Int.ofNat k < Int.ofNat L)))) T.e T.e) T.e)) (T.n none (T.n (some (AV.i .i64 (Int.ofNat k))) (T.n (some (AV.i .i64 (Int.ofNat L))) T.e T.e) T.e) (T.n (some (AV.i .i64 (Int.ofNat k))) T.e T.e))) ⟨T.n (some (AObj.rows 5 1 k ff)) T.e T.e, 1, []⟩) Orc.z)) := by kernel_rfl
theorem app_by (b : Nat → Nat) (k : Nat) {i j : Nat} (hi : i < k + 1) (hj : j < 1) :
    CW (appZ k (byF b) (fun _ j => List.getD [CV.i .u8 (Int.ofNat (b k))] j .p0) i j) (byF b i j) := by
  have : j = 0 := by omega
  subst this
  cases k with
  | zero =>
    have : i = 0 := by omega
    subst this
    exact .of (Eq.refl _)
  | succ k =>
    show CW (zipCV (Nat.blt i (k + 1)) (byF b i 0) (CV.i .u8 (Int.ofNat (b (k + 1))))) (byF b i 0)
    by_cases h : i < k + 1
    · rw [show Nat.blt i (k + 1) = true by rw [Nat.blt_eq]; exact h]
      exact .of (Eq.refl _)
    · have : i = k + 1 := by omega
      subst this
      rw [show Nat.blt (k + 1) (k + 1) = false by rw [Bool.eq_false_iff, ne_eq, Nat.blt_eq]; omega]
      exact .of (Eq.refl _)
noncomputable def slI (L : Nat) (b : Nat → Nat) (k : Nat) : List (Nat × AV) × List (Option AObj) :=
  ([(0, .sv 1 L (byF b)), (3, .lr 0 1 0 k false), (4, .i .i64 (Int.ofNat k))], [some (.rows 5 1 k (byF b))])
theorem rsealK_lp (L : Nat) (b : Nat → Nat) (hL : L ≤ 1073741824) :
    LDoes Tryd.prog (loopAt Tryd.prog 49 0) 25 0 (mkT (slI L b 0).1) (slI L b 0).2 (.exit 0) (mkT [(0, .sv 1 L (byF b)), (3, .lr 0 1 0 L false)]) [some (.rows 5 1 L (byF b))] := by
  refine loop_indV (D := Nat) (l' := [(0, .sv 1 L (byF b)), (3, .lr 0 1 0 L false)]) (slI L b) (fun k => L - k) (fun k => k ≤ L) ?_ 0 (Nat.zero_le L)
  intro k hk
  refine ⟨Nat.zero_le _, 1000000, ?_⟩
  by_cases hlt : k < L
  · have fin := fun tm1 H1 objs1 (st : StIs 0 [2] [] tm1 H1 (slI L b (k + 1)).1 objs1) (ov : OVL objs1 (slI L b (k + 1)).2) =>
      (.inl ⟨k + 1, [2], [], _, _, _, objs1, hlt, by show L - (k + 1) < L - k; omega, rfl, st, .refl _, ov⟩ : RoundV 0 (slI L b) (fun k => L - k) (fun k => k ≤ L) (.exit 0) [(0, .sv 1 L (byF b)), (3, .lr 0 1 0 L false)] [some (.rows 5 1 L (byF b))] k (.st .nrm tm1 H1))
    refine ⟨_, (rsealR_vc L k b (byF b) _).mpr ⟨fun _ => ⟨⟨by simp, by simp; omega⟩, trivial, ⟨by omega, trivial, by omega, by omega⟩, ⟨by simp <;> omega, by simp <;> omega⟩, ?_⟩, fun h => absurd (of_decide_eq_false h) (by simp; omega)⟩⟩
    cases k with
    | zero => exact fin _ _ [some (.rows 5 1 1 (appZ 0 (byF b) (fun _ j => List.getD [CV.i .u8 (Int.ofNat (b 0))] j .p0)))] (st_k [2] (by kernel_rfl)) ⟨.rowsW fun i j hi hj => app_by b 0 hi hj, trivial⟩
    | succ k => exact fin _ _ [some (.rows 5 1 (k + 1 + 1) (appZ (k + 1) (byF b) (fun _ j => List.getD [CV.i .u8 (Int.ofNat (b (k + 1)))] j .p0)))] (st_k [2] (by kernel_rfl)) ⟨.rowsW fun i j hi hj => app_by b (k + 1) hi hj, trivial⟩
  · have : k = L := by omega
    subst this
    exact ⟨_, (rsealR_vc k k b (byF b) _).mpr ⟨fun h => absurd (of_decide_eq_true h) (by simp), fun _ => .inr ⟨[0], [], _, _, [(0, .sv 1 k (byF b)), (3, .lr 0 1 0 k false)], [some (.rows 5 1 k (byF b))], rfl, by simp, st_k [0] (by kernel_rfl), .refl _, .refl _⟩⟩⟩
theorem rseal_lp (L : Nat) (b : Nat → Nat) (hL : L ≤ 1073741824) :
    LDoes Tryd.prog (loopAt Tryd.prog 49 0) 25 0 (mkT [(0, .sv 1 L (byF b)), (3, .l0), (4, .i .i64 0)]) [] (.exit 0) (mkT [(0, .sv 1 L (byF b)), (3, .lr 0 1 0 L false)]) [some (.rows 5 1 L (byF b))] := by
  refine (rsealK_lp L b hL).weak ⟨rfl, .inl rfl, rfl, .inr ⟨rfl, .inl ⟨0, 1, 0, false, rfl⟩⟩, rfl, .inl rfl, trivial⟩ ?_
  intro o ho
  rw [List.mem_singleton.1 ho]
  exact ⟨_, rfl, rfl⟩
theorem rseal_vc (b : Nat → Nat) (y : Nat) (y4 : Nat → Nat) (K : Res → Orc → Prop) : runK Tryd.prog 1000000 (.call 49 [.sv 1 60 (byF b)] (mkH [])) (Orc.lop [] [0, 3, 4] 0 (XO.exit 0) [(0, AV.sv 1 60 (byF b)), (3, AV.lr 0 1 0 60 false)] [some (AObj.rows 5 1 60 (byF b))] (Orc.cal [] (AV.i .u32 (Int.ofNat y)) [] (Orc.cal [] (AV.lr 0 1 0 4 false) [Upd.set (AObj.rows 5 1 4 (byF y4))] Orc.z))) K = (LDoes Tryd.prog (loopAt Tryd.prog 49 0) 25 0 (mkT [(0, AV.sv 1 60 (byF b)), (3, AV.l0), (4, AV.i .i64 0)]) [] (XO.exit 0) (mkT [(0, AV.sv 1 60 (byF b)), (3, AV.lr 0 1 0 60 false)]) [some (AObj.rows 5 1 60 (byF b))] ∧ Con Tryd.prog 59 [AV.sv 1 60 (byF b)] [] (AV.i .u32 (Int.ofNat y)) [] ∧ Con Tryd.prog 48 [AV.i .u32 (Int.ofNat y)] [] (AV.lr 0 1 0 4 false) [Upd.set (AObj.rows 5 1 4 (byF y4))] ∧ (60 ≤ 60 ∧ 4 ≤ 4 ∧ 64 ≤ 140737488355328 ∧ 1728 ≤ 562949953421312) ∧ K (Res.rv (AV.lr 2 1 0 64 false) ⟨T.n
  none (T.n (some (AObj.rows 5 1 4 (byF y4))) T.e T.e) (T.n (some (AObj.rows 5 1 64 (appZ 60 (fun k x => CV.i .u8 (Int.ofNat (b k))) fun k x => CV.i .u8 (Int.ofNat (y4 k))))) T.e T.e), 3, [2, 0, 1, 0]⟩) Orc.z) := by kernel_rfl
noncomputable def selB (b : Nat → Nat) (k : Nat) : Nat := bif Nat.blt k 60 then b k else fourB (sumN b 60) (k - 60)
theorem rseal60_con (b : Nat → Nat) (hb : ∀ k, b k < 256) : Con Tryd.prog 49 [.sv 1 60 (byF b)] [] (.sv 1 64 (byF (selB b))) [] := by
  have h : Con Tryd.prog 49 [.sv 1 60 (byF b)] [] (.sv 1 64 (shiftF 0 (appZ 60 (byF b) (byF (fourB (sumN b 60)))))) [] :=
    con_of_run [2] [] ((rseal_vc b (sumN b 60) (fourB (sumN b 60)) _).mpr ⟨rseal_lp 60 b (by decide), rsum_con 60 b (by decide) hb, rfour_con _ (sumN_lt b 60), ⟨by decide, by decide, by decide, by decide⟩, _, _, rfl,
      ret_fz [2] ((1 = 1 ∧ 0 + 64 ≤ 64) ∧ True) (by kernel_rfl) (by kernel_rfl) ⟨⟨rfl, by omega⟩, trivial⟩ (by kernel_rfl) rfl (by kernel_rfl) (by kernel_rfl) rfl trivial⟩)
  refine h.post (.svW fun i j hi hj => .of ?_) (OVL.refl _)
  have : j = 0 := by omega
  subst this
  have e : appZ 60 (byF b) (byF (fourB (sumN b 60))) = appF 60 (byF b) (byF (fourB (sumN b 60))) := by kernel_rfl
  rw [e]
  unfold shiftF appF
  simp only [Nat.zero_add, Nat.add_zero]
  show zipCV (Nat.blt i 60) (byF b i 0) (byF (fourB (sumN b 60)) (i - 60) 0) = CV.i .u8 (Int.ofNat (selB b i))
  unfold selB
  cases Nat.blt i 60 <;> rfl
end Go.Proofs.Cd
namespace Go.Proofs.Cl
open Go Go.Sim Go.Proofs Go.Proofs.Cd Go.Proofs.YtiihmkiiojlcaaaDoor
theorem rlayR_vc (m : Nat) (ff : Nat → Nat → CV) (K : Res → Orc → Prop) : runK Tryd.prog 1000000 (.code (loopAt Tryd.prog 39 0) 35 (mkT [(3, .lr 0 1 0 m false)]) (mkH [some (.rows 5 1 m ff)])) (Orc.s Orc.z Orc.z) K = ((decide (Int.ofNat m < 60) = true → (0 + m ≤ m ∧ True ∧ m + 1 ≤ 140737488355328 ∧ (3 * (m + 1) + 1536) * 1 ≤ 562949953421312) ∧ K (Res.st XO.nrm (T.n none (T.n none (T.n (some (AV.lr 2 1 0 (addN m 1) false)) (T.n none (T.n none (T.n (some (AV.l 1 0 1 1 1 true)) T.e T.e) T.e) T.e) (T.n none T.e (T.n (some (AV.lr 0 1 0 m false)) T.e T.e))) (T.n none T.e (T.n none T.e (T.n (some (AV.b (decide (Int.ofNat m < 60)))) T.e T.e)))) (T.n none (T.n none (T.n none (T.n none (T.n (some (AV.lr 2 1 0 (addN m 1) false)) T.e T.e) T.e) T.e) (T.n none T.e (T.n (some (AV.i .i64 (Int.ofNat m))) T.e T.e))) (T.n none T.e (T.n none T.e (T.n (some (AV.lr 0 1 0 m false)) T.e T.e))))) ⟨T.n none (T.n
  (some (AObj.cells 5 1 [] (T.n (some (AV.i .u8 0)) T.e T.e))) T.e T.e) (T.n (some (AObj.rows 5 1 (addN m 1) (appZ m ff fun x j => List.getD [CV.i .u8 0] j CV.p0))) T.e T.e), 3, [2, 0, 1]⟩) Orc.z) ∧ (decide (Int.ofNat m < 60) = false → K (Res.st (XO.exit 0) (T.n none (T.n none (T.n (some (AV.lr 0 1 0 m false)) T.e (T.n none T.e (T.n (some (AV.lr 0 1 0 m false)) T.e T.e))) (T.n none T.e (T.n none T.e (T.n (some (AV.b (decide (Int.ofNat m < 60)))) T.e T.e)))) (T.n none (T.n none T.e (T.n none T.e (T.n (some (AV.i .i64 (Int.ofNat m))) T.e T.e))) T.e)) ⟨T.n (some (AObj.rows 5 1 m ff)) T.e T.e, 1, []⟩) Orc.z)) := by kernel_rfl
theorem rlay_vc (yl yh B S : Nat → Nat) (q : Nat) (d : List Nat) (K : Res → Orc → Prop) : runK Tryd.prog 1000000 (.call 39 [.agg [.i .i64 (Int.ofNat q), .s d]] (mkH [])) (Orc.cal [] (AV.lr 0 1 0 4 false) [Upd.set (AObj.rows 5 1 4 (byF yl))] (Orc.cal [] (AV.lr 0 1 0 4 false) [Upd.set (AObj.rows 5 1 4 (byF yh))] (Orc.lop [6] [3] 0 (XO.exit 0) [(3, AV.sv 1 60 (byF B))] [] (Orc.cal [] (AV.sv 1 64 (byF S)) [] Orc.z)))) K = (True ∧ (4294967296 : Int) ≠ (0 : Int) ∧ True ∧ Con Tryd.prog 48 [AV.i .u32 (wrapA .u32 (Int.tmod (Int.ofNat q) 4294967296))] [] (AV.lr 0 1 0 4 false) [Upd.set (AObj.rows 5 1 4 (byF yl))] ∧ True ∧ ((4294967296 : Int) ≠ (0 : Int) ∧ (-9223372036854775808) ≤ Int.tdiv (Int.ofNat q) 4294967296 ∧ Int.tdiv (Int.ofNat q) (4294967296 : Int) ≤ (9223372036854775807 : Int)) ∧ True ∧ Con Tryd.prog 48 [AV.i .u32 (wrapA .u32 (Int.tdiv (Int.ofNat q) 4294967296))] [] (AV.lr 0 1 0 4 false)
  [Upd.set (AObj.rows 5 1 4 (byF yh))] ∧ (4 ≤ 4 ∧ 4 ≤ 4 ∧ 8 ≤ 140737488355328 ∧ 1560 ≤ 562949953421312) ∧ True ∧ True ∧ (8 ≤ 8 ∧ True ∧ 9 ≤ 140737488355328 ∧ 1563 ≤ 562949953421312) ∧ True ∧ (9 ≤ 9 ∧ True ∧ addN (addN 4 4) 1 + List.length d ≤ 140737488355328 ∧ (3 * (addN (addN 4 4) 1 + List.length d) + 1536) * 1 ≤ 562949953421312) ∧ LDoes Tryd.prog (loopAt Tryd.prog 39 0) 35 0 (mkT [(3, AV.lr 0 1 0 (addN (addN (addN 4 4) 1) (List.length d)) false)]) [some (AObj.rows 5 1 (addN (addN (addN 4 4) 1) (List.length d)) (appZ (addN (addN 4 4) 1) (fun i j => zipCV (Nat.blt i 8) (CV.i .u8 (bif Nat.blt i 4 then Int.ofNat (yl i) else Int.ofNat (yh (i - 4)))) (listF 1 [CV.i .u8 (wrapA .u8 (Int.ofNat (List.length d)))] 1 (i - addN 4 4) j)) fun i x => CV.i .u8 (Int.ofNat (List.getD d i 0))))] (XO.exit 0) (mkT [(3, AV.sv 1 60 (byF B))]) [] ∧ Con Tryd.prog 49 [AV.sv 1 60 (byF B)] [] (AV.sv 1 64 (byF S))
  [] ∧ K (Res.rv (AV.sv 1 64 (byF S)) ⟨T.n (some (AObj.cells 45 2 [] (T.n (some (AV.i .i64 (Int.ofNat q))) (T.n (some (AV.s d)) T.e T.e) T.e))) (T.n none (T.n none T.e T.e) (T.n none T.e T.e)) (T.n (some (AObj.rows 5 1 4 (byF yh))) (T.n (some (AObj.cells 5 1 [] (T.n (some (AV.i .u8 (wrapA .u8 (Int.ofNat (List.length d))))) T.e T.e))) T.e T.e) (T.n none T.e T.e)), 7, [6, 6, 5, 5, 3, 4, 3, 1, 2, 1, 0]⟩) Orc.z) := by kernel_rfl
theorem bodyB_tail (q : Nat) (d : List Nat) {k : Nat} (h : 9 + d.length ≤ k) : bodyB q d k = 0 := by
  unfold bodyB
  rw [show Nat.blt k (9 + d.length) = false by rw [Bool.eq_false_iff, ne_eq, Nat.blt_eq]; omega, Bool.and_false, cond_false,
    show Nat.beq k 8 = false by rw [Bool.eq_false_iff, ne_eq, Nat.beq_eq]; omega, cond_false, show Nat.blt k 8 = false by rw [Bool.eq_false_iff, ne_eq, Nat.blt_eq]; omega, Bool.and_false, cond_false,
    show Nat.blt k 4 = false by rw [Bool.eq_false_iff, ne_eq, Nat.blt_eq]; omega, Bool.and_false, cond_false]
theorem app_z {b : Nat → Nat} {k : Nat} (h0 : b k = 0) {i j : Nat} (hi : i < k + 1) (hj : j < 1) :
    CW (appZ k (byF b) (fun _ j => List.getD [CV.i .u8 0] j .p0) i j) (byF b i j) := by
  have h := app_by b k hi hj
  rw [h0] at h
  exact h
noncomputable def lyI (b : Nat → Nat) (m : Nat) : List (Nat × AV) × List (Option AObj) := ([(3, .lr 0 1 0 m false)], [some (.rows 5 1 m (byF b))])
theorem rlayK_lp (b : Nat → Nat) (m0 : Nat) (h0 : 1 ≤ m0) (h6 : m0 ≤ 60) (hz : ∀ k, m0 ≤ k → b k = 0) :
    LDoes Tryd.prog (loopAt Tryd.prog 39 0) 35 0 (mkT (lyI b m0).1) (lyI b m0).2 (.exit 0) (mkT [(3, .sv 1 60 (byF b))]) [] := by
  refine loop_indV (D := Nat) (l' := [(3, .sv 1 60 (byF b))]) (lyI b) (fun m => 60 - m) (fun m => m0 ≤ m ∧ m ≤ 60) ?_ m0 ⟨Nat.le_refl _, h6⟩
  rintro m ⟨hm, hm6⟩
  refine ⟨Nat.zero_le _, 1000000, ?_⟩
  by_cases hlt : m < 60
  · have fin := fun tm1 H1 objs1 (st : StIs 0 [2] [] tm1 H1 (lyI b (m + 1)).1 objs1) (ov : OVL objs1 (lyI b (m + 1)).2) =>
      (.inl ⟨m + 1, [2], [], _, _, _, objs1, ⟨by omega, hlt⟩, by show 60 - (m + 1) < 60 - m; omega, rfl, st, .refl _, ov⟩ : RoundV 0 (lyI b) (fun m => 60 - m) (fun m => m0 ≤ m ∧ m ≤ 60) (.exit 0) [(3, .sv 1 60 (byF b))] [] m (.st .nrm tm1 H1))
    refine ⟨_, (rlayR_vc m (byF b) _).mpr ⟨fun _ => ⟨⟨by omega, trivial, by omega, by omega⟩, ?_⟩, fun h => absurd (of_decide_eq_false h) (by simp; omega)⟩⟩
    have hbz := hz m hm
    cases m with
    | zero => omega
    | succ k => exact fin _ _ [some (.rows 5 1 (k + 1 + 1) (appZ (k + 1) (byF b) (fun _ j => List.getD [CV.i .u8 0] j .p0)))] (st_k [2] (by kernel_rfl)) ⟨.rowsW fun i j hi hj => app_z hbz hi hj, trivial⟩
  · have : m = 60 := by omega
    subst this
    exact ⟨_, (rlayR_vc 60 (byF b) _).mpr ⟨fun h => absurd (of_decide_eq_true h) (by decide), fun _ => .inr ⟨[], [0], _, _, [(3, .sv 1 60 (byF b))], [], rfl, by simp,
      st_fz [] [0] (((1 = 1 ∧ 0 + 60 ≤ 60) ∧ True) ∧ True) [.lr 0 1 0 60 false] (by kernel_rfl) (by kernel_rfl) (by kernel_rfl) ⟨⟨⟨rfl, by omega⟩, trivial⟩, trivial⟩ (by kernel_rfl) rfl rfl rfl trivial rfl, .refl _, .refl _⟩⟩⟩
theorem bltT {a b : Nat} (h : a < b) : Nat.blt a b = true := by rw [Nat.blt_eq]; exact h
theorem bltF {a b : Nat} (h : ¬ a < b) : Nat.blt a b = false := by rw [Bool.eq_false_iff, ne_eq, Nat.blt_eq]; exact h
noncomputable def layF (q : Nat) (d : List Nat) : Nat → Nat → CV :=
  appZ (addN (addN 4 4) 1) (fun i j => zipCV (Nat.blt i 8) (CV.i IntKind.u8 (bif Nat.blt i 4 then Int.ofNat (fourB (q % 4294967296) i) else Int.ofNat (fourB (q / 4294967296 % 4294967296) (i - 4)))) (listF 1 [CV.i IntKind.u8 (wrapA IntKind.u8 (Int.ofNat (List.length d)))] 1 (i - addN 4 4) j)) fun i x => CV.i IntKind.u8 (Int.ofNat (List.getD d i 0))
theorem layF_eq (q : Nat) (d : List Nat) (hd : d.length < 256) {i : Nat} (hi : i < 9 + d.length) : layF q d i 0 = CV.i .u8 (Int.ofNat (bodyB q d i)) := by
  have e : layF q d i 0 = zipCV (Nat.blt i 9) (zipCV (Nat.blt i 8) (CV.i IntKind.u8 (bif Nat.blt i 4 then Int.ofNat (fourB (q % 4294967296) i) else Int.ofNat (fourB (q / 4294967296 % 4294967296) (i - 4)))) (CV.i IntKind.u8 (wrapA IntKind.u8 (Int.ofNat (List.length d))))) (CV.i IntKind.u8 (Int.ofNat (List.getD d (i - 9) 0))) := by kernel_rfl
  rw [e]
  unfold bodyB
  by_cases h9 : i < 9
  · rw [bltT h9, show Nat.ble 9 i = false by rw [Bool.eq_false_iff, ne_eq, Nat.ble_eq]; omega, Bool.false_and, cond_false]
    by_cases h8 : i < 8
    · rw [bltT h8, show Nat.beq i 8 = false by rw [Bool.eq_false_iff, ne_eq, Nat.beq_eq]; omega, cond_false]
      by_cases h4 : i < 4
      · rw [bltT h4, show Nat.ble 4 i = false by rw [Bool.eq_false_iff, ne_eq, Nat.ble_eq]; omega, Bool.false_and, cond_false, show Nat.ble 0 i = true by rw [Nat.ble_eq]; omega]
        rfl
      · rw [bltF h4, show Nat.ble 4 i = true by rw [Nat.ble_eq]; omega]
        rfl
    · have : i = 8 := by omega
      subst this
      have w : wrapA IntKind.u8 (Int.ofNat d.length) = Int.ofNat (d.length % 256) := rfl
      rw [w]; rfl
  · rw [bltF h9, show Nat.ble 9 i = true by rw [Nat.ble_eq]; omega, bltT hi]
    rfl
theorem rfourI_con (x : Int) (n : Nat) (e : x = Int.ofNat n) (h : n < 4294967296) : Con Tryd.prog 48 [.i .u32 x] [] (.lr 0 1 0 4 false) [.set (.rows 5 1 4 (byF (fourB n)))] := by
  subst e; exact rfour_con n h
theorem rlay_con (q : Nat) (d : List Nat) (hq : q < 9223372036854775808) (hl : d.length ≤ 51) (hd : ∀ x ∈ d, x < 256) : Con Tryd.prog 39 [.agg [.i .i64 (Int.ofNat q), .s d]] [] (.sv 1 64 (byF (selB (bodyB q d)))) [] := by
  have lp := (rlayK_lp (bodyB q d) (9 + d.length) (by omega) (by omega) (fun k hk => bodyB_tail q d hk)).ovl (objs0 := [some (.rows 5 1 (9 + d.length) (layF q d))]) ⟨.rowsW fun i j hi hj => (by
    have : j = 0 := by omega
    subst this
    exact .of (layF_eq q d (by omega) hi)), trivial⟩
  have hb : ∀ k, bodyB q d k < 256 := bodyB_lt hd
  refine con_plain rfl ((rlay_vc (fourB (q % 4294967296)) (fourB (q / 4294967296 % 4294967296)) (bodyB q d) (selB (bodyB q d)) q d _).mpr ?_)
  have z : (4294967296 : Int) ≠ 0 := by decide
  have td : Int.tdiv (Int.ofNat q) 4294967296 = Int.ofNat (q / 4294967296) := rfl
  have e1 : wrapA IntKind.u32 (Int.tmod (Int.ofNat q) 4294967296) = Int.ofNat (q % 4294967296) := by
    show Int.ofNat ((q % 4294967296) % 4294967296) = _
    rw [Nat.mod_mod]
  have e2 : wrapA IntKind.u32 (Int.tdiv (Int.ofNat q) 4294967296) = Int.ofNat (q / 4294967296 % 4294967296) := rfl
  have a9 : addN (addN 4 4) 1 + d.length = 9 + d.length := rfl
  have g1 : (-9223372036854775808 : Int) ≤ Int.tdiv (Int.ofNat q) 4294967296 := by rw [td]; have := Int.natCast_nonneg (q / 4294967296); show (-9223372036854775808 : Int) ≤ ((q / 4294967296 : Nat) : Int); omega
  have g2 : Int.tdiv (Int.ofNat q) 4294967296 ≤ (9223372036854775807 : Int) := by rw [td]; show ((q / 4294967296 : Nat) : Int) ≤ _; omega
  exact ⟨trivial, z, trivial, rfourI_con _ _ e1 (Nat.mod_lt _ (by decide)), trivial, ⟨z, g1, g2⟩, trivial, rfourI_con _ _ e2 (Nat.mod_lt _ (by decide)), ⟨by decide, by decide, by decide, by decide⟩, trivial, trivial, ⟨by decide, trivial, by decide, by decide⟩, trivial,
    ⟨by decide, trivial, by rw [a9]; omega, by rw [a9]; omega⟩, Eq.mp (by kernel_rfl) lp, rseal60_con _ hb, _, _, rfl, rfl⟩
theorem txt_len (b : Nat → Nat) : (txtD b).length = b 8 := by unfold txtD bytesF; simp
theorem txt_at {b : Nat → Nat} {i : Nat} (h : i < b 8) (hb : b (9 + i) < 256) : (txtD b).getD i 0 = b (9 + i) := by
  unfold txtD bytesF
  rw [List.getD_eq_getElem?_getD, List.getElem?_map, List.getElem?_range h]
  show (Option.some (Go.Sim.byteOf (shiftF 9 (byF b) i 0))).getD 0 = _
  rw [shiftF_eq]
  show b (9 + i) % 256 = _
  rw [Nat.mod_eq_of_lt hb]
theorem txt_lt (b : Nat → Nat) : ∀ x ∈ txtD b, x < 256 := by
  intro x hx
  unfold txtD bytesF at hx
  obtain ⟨i, _, rfl⟩ := List.mem_map.1 hx
  show Go.Sim.byteOf (shiftF 9 (byF b) i 0) < 256
  rw [shiftF_eq]
  exact Nat.mod_lt _ (by decide)
theorem ok_parts {b : Nat → Nat} (h : okB b = true) : openB (byF b) = true ∧ b 8 ≤ 51 ∧ 1 ≤ numN b ∧ numN b ≤ 1099511627776 ∧ restN b = 0 := by
  unfold okB at h
  simp only [Bool.and_eq_true, Nat.ble_eq, Nat.beq_eq] at h
  exact h
theorem ok_sect {b : Nat → Nat} (hb : ∀ k, k < 64 → b k < 256) (h : okB b = true) : ∀ k, k < 64 → sectB (numN b) (txtD b) k = b k := by
  obtain ⟨h1, h2, h3, h4, h5⟩ := ok_parts h
  have l4 : four1 (bOf (byF b)) = four1 b := four1_congr fun k hk => bOf_by b k
  have b4 : four1 b < 4294967296 := four1_lt fun k hk => hb k (by omega)
  have l8 : four1 (bOf (shiftF 4 (byF b))) = four1 fun k => b (4 + k) := four1_congr fun k hk => bOf_sh b 4 k
  have b8 : (four1 fun k => b (4 + k)) < 4294967296 := four1_lt fun k hk => hb _ (by omega)
  have en : numN b = four1 b + (four1 fun k => b (4 + k)) * 4294967296 := by unfold numN; rw [l4, l8]
  have body : ∀ k, k < 60 → bodyB (numN b) (txtD b) k = b k := by
    intro k hk
    by_cases k4 : k < 4
    · rw [body_lo _ _ k4, en, show (four1 b + (four1 fun k => b (4 + k)) * 4294967296) % 4294967296 = four1 b by omega]
      exact fourB_four (fun j hj => hb j (by omega)) k k4
    by_cases k8 : k < 8
    · rw [body_hi _ _ (by omega) k8, en, show (four1 b + (four1 fun k => b (4 + k)) * 4294967296) / 4294967296 % 4294967296 = four1 fun k => b (4 + k) by omega]
      rw [fourB_four (b := fun k => b (4 + k)) (fun j hj => hb _ (by omega)) (k - 4) (by omega)]
      show b (4 + (k - 4)) = _
      congr 1; omega
    by_cases k9 : k = 8
    · subst k9
      rw [body_8, txt_len, Nat.mod_eq_of_lt (by omega)]
    by_cases kt : k < 9 + b 8
    · obtain ⟨i, rfl⟩ : ∃ i, k = 9 + i := ⟨k - 9, by omega⟩
      rw [body_txt _ _ (by rw [txt_len]; omega), txt_at (by omega) (hb _ (by omega))]
    · rw [body_rest _ _ (by rw [txt_len]; omega)]
      have := (trN_zero _ _).1 h5 (k - (9 + b 8)) (by omega)
      rw [bOf_sh] at this
      rw [← this]; congr 1; omega
  intro k hk
  by_cases k60 : k < 60
  · rw [sect_body _ _ k60, body k k60]
  · obtain ⟨i, rfl⟩ : ∃ i, k = 60 + i := ⟨k - 60, by omega⟩
    rw [sect_sum, sumN_congr body]
    have h1 := of_decide_eq_true h1
    have e1 : sumN (bOf (byF b)) 60 = sumN b 60 := sumN_congr fun k hk => bOf_by b k
    have e2 : four1 (bOf (shiftF 60 (byF b))) = four1 fun k => b (60 + k) := four1_congr fun k hk => bOf_sh b 60 k
    rw [e1, e2] at h1
    have h1 : (four1 fun k => b (60 + k)) = sumN b 60 := Int.ofNat.inj h1
    rw [← h1]
    exact fourB_four (b := fun k => b (60 + k)) (fun j hj => hb _ (by omega)) i (by omega)
theorem ok_congr {b c : Nat → Nat} (h : ∀ k, k < 64 → b k = c k) (h8 : b 8 ≤ 51) : okB b = okB c := by
  have e8 : b 8 = c 8 := h 8 (by decide)
  have eo : openB (byF b) = openB (byF c) := by
    unfold openB
    rw [four1_congr (b := bOf (shiftF 60 (byF b))) (b' := bOf (shiftF 60 (byF c))) fun k hk => by rw [bOf_sh, bOf_sh, h _ (by omega)],
      sumN_congr (b := bOf (byF b)) (b' := bOf (byF c)) fun k hk => by rw [bOf_by, bOf_by, h _ (by omega)]]
  have en : numN b = numN c := by
    unfold numN
    rw [four1_congr (b := bOf (byF b)) (b' := bOf (byF c)) fun k hk => by rw [bOf_by, bOf_by, h _ (by omega)],
      four1_congr (b := bOf (shiftF 4 (byF b))) (b' := bOf (shiftF 4 (byF c))) fun k hk => by rw [bOf_sh, bOf_sh, h _ (by omega)]]
  have er : Nat.beq (restN b) 0 = Nat.beq (restN c) 0 := by
    have : restN b = 0 ↔ restN c = 0 := by
      unfold restN
      rw [trN_zero, trN_zero, e8]
      rw [e8] at h8
      exact ⟨fun q k hk => by have := q k hk; rw [bOf_sh] at this ⊢; rw [← h _ (by omega)]; exact this, fun q k hk => by have := q k hk; rw [bOf_sh] at this ⊢; rw [h _ (by omega)]; exact this⟩
    rw [Bool.eq_iff_iff, Nat.beq_eq, Nat.beq_eq]
    exact this
  unfold okB
  rw [eo, e8, en, er]
theorem sect_ok_of {b : Nat → Nat} (h8 : b 8 ≤ 51) (h1 : 1 ≤ numN b) (h2 : numN b ≤ 1099511627776) (h : ∀ k, k < 64 → sectB (numN b) (txtD b) k = b k) : okB b = true := by
  rw [← ok_congr h (by rw [sect_8 _ _ (by rw [txt_len]; exact h8), txt_len]; exact h8)]
  exact sect_ok _ _ h1 h2 (by rw [txt_len]; exact h8)
theorem nats_64 (b c : Nat → Nat) (hb : ∀ k, k < 64 → b k < 256) (hc : ∀ k, k < 64 → c k < 256) : natsEq (bytesF 64 (byF b)) (bytesF 64 (byF c)) = true ↔ ∀ k, k < 64 → b k = c k := by
  rw [natsEq_iff]
  unfold bytesF
  constructor
  · intro h k hk
    have := congrArg (fun l => l[k]?) h
    simp only [List.getElem?_map, List.getElem?_range hk] at this
    have : b k % 256 = c k % 256 := Option.some.inj this
    rwa [Nat.mod_eq_of_lt (hb k hk), Nat.mod_eq_of_lt (hc k hk)] at this
  · intro h
    refine List.map_congr_left fun k hk => ?_
    show b k % 256 = c k % 256
    rw [h k (List.mem_range.1 hk)]
end Go.Proofs.Cl
