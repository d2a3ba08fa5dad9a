/- Runs over unknown values, told by the kernel: part CnA. -/
import Derived.Test.YtafknnedagolhaaDoorRcA
set_option linter.unusedSimpArgs false
set_option linter.unusedVariables false
set_option maxRecDepth 20000
namespace Go.Proofs.Cl
open Go Go.Sim Go.Proofs Go.Proofs.Cd Go.Proofs.St Go.Proofs.YtafknnedagolhaaDoor
theorem numR_vc (L n i : Nat) (b : Nat → Nat) (K : Res → Orc → Prop) : runK Tryd.prog 1000000 (.code (loopAt Tryd.prog 100 0) 43 (mkT [(0, .sv 1 L (byF b)), (5, .i .i64 (Int.ofNat n)), (7, .i .i64 (Int.ofNat i))]) (mkH [])) (Orc.s (Orc.s Orc.z (Orc.s Orc.z (Orc.s (Orc.t (Orc.t (Orc.s Orc.z Orc.z))) (Orc.f (Orc.f (Orc.c Orc.z)))))) Orc.z) K = ((decide (Int.ofNat i < 9) = true → (decide (Int.ofNat i = Int.ofNat L) = true → K (Res.st XO.ret (z1 (AV.sv 1 L (byF b)) (z0 (z1 (AV.i .i64 0) (zl (AV.i .i64 (Int.ofNat i))) (zl (AV.sv 1 L (byF b)))) (z1 (AV.i .i64 (Int.ofNat n)) (zl (AV.i .i64 (Int.ofNat i))) (zl (AV.b (decide (Int.ofNat i = Int.ofNat L)))))) (z1 (AV.i .i64 0) (z1 (AV.i .i64 10) (zl (AV.b (decide (Int.ofNat i < 9)))) (zl (AV.i .i64 (Int.ofNat L)))) (z1 (AV.i .i64 (Int.ofNat i)) (zl (AV.i .i64 (Int.ofNat i))) T.e))) ⟨T.e, 0, []⟩) Orc.z) ∧ (decide (Int.ofNat i = Int.ofNat L) = false
  → (0 ≤ Int.ofNat i ∧ Int.ofNat i < ↑L) ∧ True ∧ True ∧ ((-9223372036854775808) ≤ wrapA .u8 ↑(BitVec.toNat (BitVec.ofInt 8 (Int.ofNat (b i)) &&& ~~~BitVec.ofInt 8 128)) ∧ wrapA .u8 ↑(BitVec.toNat (BitVec.ofInt 8 (Int.ofNat (b i)) &&& ~~~BitVec.ofInt 8 128)) ≤ 9223372036854775807) ∧ ((-9223372036854775808 : Int) ≤ (7 : Int) * Int.ofNat i ∧ 7 * Int.ofNat i ≤ 9223372036854775807) ∧ (0 : Int) ≤ (7 : Int) * Int.ofNat i ∧ True ∧ (0 ≤ Int.ofNat i ∧ Int.ofNat i < ↑L) ∧ True ∧ (decide (128 ≤ Int.ofNat (b i)) = true → ((-9223372036854775808) ≤ Int.ofNat i + 1 ∧ Int.ofNat i + (1 : Int) ≤ (9223372036854775807 : Int)) ∧ K (Res.st XO.nrm (z1 (AV.sv 1 L (byF b)) (z0 (z0 (z1 (AV.i .i64 (Int.ofNat i + 1)) (zl (AV.sv 1 L (byF b))) (zl (AV.i .i64 (wrapA .i64 (wrapA .u8 ↑(BitVec.toNat (BitVec.ofInt 8 (Int.ofNat (b i)) &&& ~~~BitVec.ofInt 8 128)) * 2 ^ min (Int.toNat (7 * Int.ofNat i)) 64))))) (z1 (AV.sv 1 L
  (byF b)) (zl (AV.i .u8 (wrapA .u8 ↑(BitVec.toNat (BitVec.ofInt 8 (Int.ofNat (b i)) &&& ~~~BitVec.ofInt 8 128))))) (zl (AV.pv 1 (byF b i))))) (z1 (AV.i .i64 (wrapA .i64 ↑(BitVec.toNat (BitVec.ofInt 64 (Int.ofNat n) ||| BitVec.ofInt 64 (wrapA .i64 (wrapA .u8 ↑(BitVec.toNat (BitVec.ofInt 8 (Int.ofNat (b i)) &&& ~~~BitVec.ofInt 8 128)) * 2 ^ min (Int.toNat (7 * Int.ofNat i)) 64)))))) (z1 (AV.i .i64 (Int.ofNat i)) (zl (AV.pv 1 (byF b i))) (zl (AV.sv 1 L (byF b)))) (z1 (AV.b (decide (Int.ofNat i = Int.ofNat L))) (zl (AV.i .i64 (Int.ofNat i))) (zl (AV.b (decide (128 ≤ Int.ofNat (b i)))))))) (z0 (z0 (z1 (AV.b (decide (Int.ofNat i < 9))) (zl (AV.i .i64 (Int.ofNat i))) (zl (AV.i .i64 (wrapA .i64 ↑(BitVec.toNat (BitVec.ofInt 64 (Int.ofNat n) ||| BitVec.ofInt 64 (wrapA .i64 (wrapA .u8 ↑(BitVec.toNat (BitVec.ofInt 8 (Int.ofNat (b i)) &&& ~~~BitVec.ofInt 8 128)) * 2 ^ min (Int.toNat (7 * Int.ofNat
  i)) 64)))))))) (z1 (AV.i .i64 (Int.ofNat L)) (zl (AV.i .i64 (wrapA .u8 ↑(BitVec.toNat (BitVec.ofInt 8 (Int.ofNat (b i)) &&& ~~~BitVec.ofInt 8 128))))) (zl (AV.i .u8 (Int.ofNat (b i)))))) (z1 (AV.i .i64 (Int.ofNat i)) (z1 (AV.i .i64 (Int.ofNat i)) (zl (AV.i .u8 (Int.ofNat (b i)))) (z1 (AV.i .i64 (Int.ofNat i)) (zl (AV.i .i64 (Int.ofNat i + 1))) T.e)) (z1 (AV.i .i64 (Int.ofNat n)) (zl (AV.i .i64 (7 * Int.ofNat i))) T.e)))) ⟨T.e, 0, []⟩) Orc.z) ∧ (decide (128 ≤ Int.ofNat (b i)) = false → (0 ≤ Int.ofNat i ∧ Int.ofNat i < ↑L) ∧ True ∧ (decide (Int.ofNat (b i) = 0) = true → decide (Int.ofNat (b i) = 0) = true ∧ decide (Int.ofNat (b i) = 0) = true ∧ (decide (0 < Int.ofNat i) = true → K (Res.st XO.ret (z1 (AV.sv 1 L (byF b)) (z0 (z1 (AV.i .i64 0) (z1 (AV.i .i64 (Int.ofNat i)) (z1 (AV.sv 1 L (byF b)) (zl (AV.i .i64 (Int.ofNat i))) T.e) (zl (AV.i .i64 (wrapA .i64 (wrapA .u8 ↑(BitVec.toNat
  (BitVec.ofInt 8 (Int.ofNat (b i)) &&& ~~~BitVec.ofInt 8 128)) * 2 ^ min (Int.toNat (7 * Int.ofNat i)) 64))))) (z1 (AV.sv 1 L (byF b)) (z1 (AV.i .u8 (wrapA .u8 ↑(BitVec.toNat (BitVec.ofInt 8 (Int.ofNat (b i)) &&& ~~~BitVec.ofInt 8 128)))) (zl (AV.b (decide (Int.ofNat (b i) = 0)))) T.e) (zl (AV.pv 1 (byF b i))))) (z1 (AV.i .i64 (wrapA .i64 ↑(BitVec.toNat (BitVec.ofInt 64 (Int.ofNat n) ||| BitVec.ofInt 64 (wrapA .i64 (wrapA .u8 ↑(BitVec.toNat (BitVec.ofInt 8 (Int.ofNat (b i)) &&& ~~~BitVec.ofInt 8 128)) * 2 ^ min (Int.toNat (7 * Int.ofNat i)) 64)))))) (z1 (AV.i .i64 (Int.ofNat i)) (z1 (AV.pv 1 (byF b i)) (zl (AV.i .u8 (Int.ofNat (b i)))) T.e) (zl (AV.sv 1 L (byF b)))) (z1 (AV.b (decide (Int.ofNat i = Int.ofNat L))) (z1 (AV.i .i64 (Int.ofNat i)) (zl (AV.b (decide (0 < Int.ofNat i)))) T.e) (zl (AV.b (decide (128 ≤ Int.ofNat (b i)))))))) (z1 (AV.i .i64 0) (z1 (AV.i .i64 11) (z1 (AV.b (decide
  (Int.ofNat i < 9))) (z1 (AV.i .i64 (Int.ofNat i)) (zl (AV.pv 1 (byF b i))) T.e) (zl (AV.i .i64 (wrapA .i64 ↑(BitVec.toNat (BitVec.ofInt 64 (Int.ofNat n) ||| BitVec.ofInt 64 (wrapA .i64 (wrapA .u8 ↑(BitVec.toNat (BitVec.ofInt 8 (Int.ofNat (b i)) &&& ~~~BitVec.ofInt 8 128)) * 2 ^ min (Int.toNat (7 * Int.ofNat i)) 64)))))))) (z1 (AV.i .i64 (Int.ofNat L)) (z1 (AV.i .i64 (wrapA .u8 ↑(BitVec.toNat (BitVec.ofInt 8 (Int.ofNat (b i)) &&& ~~~BitVec.ofInt 8 128)))) (zl (AV.i .i64 (Int.ofNat i))) T.e) (zl (AV.i .u8 (Int.ofNat (b i)))))) (z1 (AV.i .i64 (Int.ofNat i)) (z1 (AV.i .i64 (Int.ofNat i)) (z1 (AV.i .u8 (Int.ofNat (b i))) (zl (AV.b (decide (Int.ofNat (b i) = 0)))) T.e) (zl (AV.i .i64 (Int.ofNat i)))) (z1 (AV.i .i64 (Int.ofNat n)) (z1 (AV.i .i64 (7 * Int.ofNat i)) (zl (AV.b (decide (0 < Int.ofNat i)))) T.e) (zl (AV.sv 1 L (byF b))))))) ⟨T.e, 0, []⟩) Orc.z) ∧ (decide (0 < Int.ofNat i) = false →
  ((-9223372036854775808) ≤ Int.ofNat i + 1 ∧ Int.ofNat i + (1 : Int) ≤ (9223372036854775807 : Int)) ∧ K (Res.st XO.ret (z1 (AV.sv 1 L (byF b)) (z0 (z1 (AV.i .i64 (Int.ofNat i + 1)) (z1 (AV.i .i64 (Int.ofNat i)) (z1 (AV.sv 1 L (byF b)) (zl (AV.i .i64 (Int.ofNat i))) T.e) (z1 (AV.i .i64 (wrapA .i64 (wrapA .u8 ↑(BitVec.toNat (BitVec.ofInt 8 (Int.ofNat (b i)) &&& ~~~BitVec.ofInt 8 128)) * 2 ^ min (Int.toNat (7 * Int.ofNat i)) 64))) (zl (AV.i .i64 (wrapA .i64 ↑(BitVec.toNat (BitVec.ofInt 64 (Int.ofNat n) ||| BitVec.ofInt 64 (wrapA .i64 (wrapA .u8 ↑(BitVec.toNat (BitVec.ofInt 8 (Int.ofNat (b i)) &&& ~~~BitVec.ofInt 8 128)) * 2 ^ min (Int.toNat (7 * Int.ofNat i)) 64))))))) T.e)) (z1 (AV.sv 1 L (byF b)) (z1 (AV.i .u8 (wrapA .u8 ↑(BitVec.toNat (BitVec.ofInt 8 (Int.ofNat (b i)) &&& ~~~BitVec.ofInt 8 128)))) (zl (AV.b (decide (Int.ofNat (b i) = 0)))) T.e) (zl (AV.pv 1 (byF b i))))) (z1 (AV.i .i64
  (wrapA .i64 ↑(BitVec.toNat (BitVec.ofInt 64 (Int.ofNat n) ||| BitVec.ofInt 64 (wrapA .i64 (wrapA .u8 ↑(BitVec.toNat (BitVec.ofInt 8 (Int.ofNat (b i)) &&& ~~~BitVec.ofInt 8 128)) * 2 ^ min (Int.toNat (7 * Int.ofNat i)) 64)))))) (z1 (AV.i .i64 (Int.ofNat i)) (z1 (AV.pv 1 (byF b i)) (zl (AV.i .u8 (Int.ofNat (b i)))) T.e) (z1 (AV.sv 1 L (byF b)) (zl (AV.i .i64 (Int.ofNat i + 1))) T.e)) (z1 (AV.b (decide (Int.ofNat i = Int.ofNat L))) (z1 (AV.i .i64 (Int.ofNat i)) (zl (AV.b (decide (0 < Int.ofNat i)))) T.e) (zl (AV.b (decide (128 ≤ Int.ofNat (b i)))))))) (z1 (AV.i .i64 (wrapA .i64 ↑(BitVec.toNat (BitVec.ofInt 64 (Int.ofNat n) ||| BitVec.ofInt 64 (wrapA .i64 (wrapA .u8 ↑(BitVec.toNat (BitVec.ofInt 8 (Int.ofNat (b i)) &&& ~~~BitVec.ofInt 8 128)) * 2 ^ min (Int.toNat (7 * Int.ofNat i)) 64)))))) (z1 (AV.i .i64 0) (z1 (AV.b (decide (Int.ofNat i < 9))) (z1 (AV.i .i64 (Int.ofNat i)) (zl (AV.pv 1
  (byF b i))) T.e) (z1 (AV.i .i64 (wrapA .i64 ↑(BitVec.toNat (BitVec.ofInt 64 (Int.ofNat n) ||| BitVec.ofInt 64 (wrapA .i64 (wrapA .u8 ↑(BitVec.toNat (BitVec.ofInt 8 (Int.ofNat (b i)) &&& ~~~BitVec.ofInt 8 128)) * 2 ^ min (Int.toNat (7 * Int.ofNat i)) 64)))))) (zl (AV.i .i64 (Int.ofNat i))) T.e)) (z1 (AV.i .i64 (Int.ofNat L)) (z1 (AV.i .i64 (wrapA .u8 ↑(BitVec.toNat (BitVec.ofInt 8 (Int.ofNat (b i)) &&& ~~~BitVec.ofInt 8 128)))) (zl (AV.i .i64 (Int.ofNat i))) T.e) (zl (AV.i .u8 (Int.ofNat (b i)))))) (z1 (AV.i .i64 (Int.ofNat i)) (z1 (AV.i .i64 (Int.ofNat i)) (z1 (AV.i .u8 (Int.ofNat (b i))) (zl (AV.b (decide (Int.ofNat (b i) = 0)))) T.e) (zl (AV.i .i64 (Int.ofNat i)))) (z1 (AV.i .i64 (Int.ofNat n)) (z1 (AV.i .i64 (7 * Int.ofNat i)) (zl (AV.b (decide (0 < Int.ofNat i)))) T.e) (zl (AV.sv 1 L (byF b))))))) ⟨T.e, 0, []⟩) Orc.z)) ∧ (decide (Int.ofNat (b i) = 0) = false → decide (Int.ofNat (b
  i) = 0) = false ∧ decide (Int.ofNat (b i) = 0) = false ∧ ((-9223372036854775808) ≤ Int.ofNat i + 1 ∧ Int.ofNat i + (1 : Int) ≤ (9223372036854775807 : Int)) ∧ K (Res.st XO.ret (z1 (AV.sv 1 L (byF b)) (z0 (z1 (AV.i .i64 (Int.ofNat i + 1)) (z1 (AV.i .i64 (Int.ofNat i)) (z1 (AV.sv 1 L (byF b)) (zl (AV.i .i64 (Int.ofNat i))) T.e) (z1 (AV.i .i64 (wrapA .i64 (wrapA .u8 ↑(BitVec.toNat (BitVec.ofInt 8 (Int.ofNat (b i)) &&& ~~~BitVec.ofInt 8 128)) * 2 ^ min (Int.toNat (7 * Int.ofNat i)) 64))) (zl (AV.i .i64 (wrapA .i64 ↑(BitVec.toNat (BitVec.ofInt 64 (Int.ofNat n) ||| BitVec.ofInt 64 (wrapA .i64 (wrapA .u8 ↑(BitVec.toNat (BitVec.ofInt 8 (Int.ofNat (b i)) &&& ~~~BitVec.ofInt 8 128)) * 2 ^ min (Int.toNat (7 * Int.ofNat i)) 64))))))) T.e)) (z1 (AV.sv 1 L (byF b)) (z1 (AV.i .u8 (wrapA .u8 ↑(BitVec.toNat (BitVec.ofInt 8 (Int.ofNat (b i)) &&& ~~~BitVec.ofInt 8 128)))) (zl (AV.b (decide (Int.ofNat (b i)
  = 0)))) T.e) (zl (AV.pv 1 (byF b i))))) (z1 (AV.i .i64 (wrapA .i64 ↑(BitVec.toNat (BitVec.ofInt 64 (Int.ofNat n) ||| BitVec.ofInt 64 (wrapA .i64 (wrapA .u8 ↑(BitVec.toNat (BitVec.ofInt 8 (Int.ofNat (b i)) &&& ~~~BitVec.ofInt 8 128)) * 2 ^ min (Int.toNat (7 * Int.ofNat i)) 64)))))) (z1 (AV.i .i64 (Int.ofNat i)) (z1 (AV.pv 1 (byF b i)) (zl (AV.i .u8 (Int.ofNat (b i)))) T.e) (z1 (AV.sv 1 L (byF b)) (zl (AV.i .i64 (Int.ofNat i + 1))) T.e)) (z1 (AV.b (decide (Int.ofNat i = Int.ofNat L))) (z1 (AV.i .i64 (Int.ofNat i)) (zl (AV.tup [])) T.e) (zl (AV.b (decide (128 ≤ Int.ofNat (b i)))))))) (z1 (AV.i .i64 (wrapA .i64 ↑(BitVec.toNat (BitVec.ofInt 64 (Int.ofNat n) ||| BitVec.ofInt 64 (wrapA .i64 (wrapA .u8 ↑(BitVec.toNat (BitVec.ofInt 8 (Int.ofNat (b i)) &&& ~~~BitVec.ofInt 8 128)) * 2 ^ min (Int.toNat (7 * Int.ofNat i)) 64)))))) (z1 (AV.i .i64 0) (z1 (AV.b (decide (Int.ofNat i < 9))) (z1 (AV.i
  .i64 (Int.ofNat i)) (zl (AV.pv 1 (byF b i))) T.e) (z1 (AV.i .i64 (wrapA .i64 ↑(BitVec.toNat (BitVec.ofInt 64 (Int.ofNat n) ||| BitVec.ofInt 64 (wrapA .i64 (wrapA .u8 ↑(BitVec.toNat (BitVec.ofInt 8 (Int.ofNat (b i)) &&& ~~~BitVec.ofInt 8 128)) * 2 ^ min (Int.toNat (7 * Int.ofNat i)) 64)))))) (zl (AV.i .i64 (Int.ofNat i))) T.e)) (z1 (AV.i .i64 (Int.ofNat L)) (z1 (AV.i .i64 (wrapA .u8 ↑(BitVec.toNat (BitVec.ofInt 8 (Int.ofNat (b i)) &&& ~~~BitVec.ofInt 8 128)))) (zl (AV.tup [])) T.e) (zl (AV.i .u8 (Int.ofNat (b i)))))) (z1 (AV.i .i64 (Int.ofNat i)) (z1 (AV.i .i64 (Int.ofNat i)) (z1 (AV.i .u8 (Int.ofNat (b i))) (zl (AV.b (decide (Int.ofNat (b i) = 0)))) T.e) (zl (AV.i .i64 (Int.ofNat i)))) (z1 (AV.i .i64 (Int.ofNat n)) (z1 (AV.i .i64 (7 * Int.ofNat i)) (zl (AV.b false)) T.e) (zl (AV.sv 1 L (byF b))))))) ⟨T.e, 0, []⟩) Orc.z)))) ∧ (decide (Int.ofNat i < 9) = false → K (Res.st (XO.exit 0) (z1
  (AV.sv 1 L (byF b)) (z0 (z0 (zl (AV.i .i64 (Int.ofNat i))) T.e) (zl (AV.i .i64 (Int.ofNat n)))) (z0 (z0 (zl (AV.b (decide (Int.ofNat i < 9)))) T.e) T.e)) ⟨T.e, 0, []⟩) Orc.z)) := by kernel_rfl
noncomputable def nV (b : Nat → Nat) : Nat → Nat
  | 0 => 0
  | i + 1 => nV b i + b i % 128 * 2 ^ (7 * i)
theorem nV_lt (b : Nat → Nat) : ∀ i, nV b i < 2 ^ (7 * i)
  | 0 => (by decide : 0 < 2 ^ (7 * 0))
  | i + 1 => by
    have h := nV_lt b i
    have h1 : b i % 128 ≤ 127 := by omega
    have h2 : b i % 128 * 2 ^ (7 * i) ≤ 127 * 2 ^ (7 * i) := Nat.mul_le_mul_right _ h1
    have e : 2 ^ (7 * (i + 1)) = 128 * 2 ^ (7 * i) := by
      rw [show 7 * (i + 1) = 7 * i + 7 by omega, Nat.pow_add, Nat.mul_comm]
    show nV b i + b i % 128 * 2 ^ (7 * i) < _
    rw [e]; omega
theorem low7 (x : Nat) (h : x < 256) : (BitVec.ofInt 8 (Int.ofNat x) &&& ~~~BitVec.ofInt 8 (128 : Int)).toNat = x % 128 := by
  have key : ∀ x : Fin 256, (BitVec.ofInt 8 (Int.ofNat x.1) &&& ~~~BitVec.ofInt 8 (128 : Int)).toNat = x.1 % 128 := by decide
  exact key ⟨x, h⟩
theorem wrap64 {m : Nat} (h : m < 9223372036854775808) : wrapA .i64 (Int.ofNat m) = Int.ofNat m := by
  show (match Nat.blt m 9223372036854775808 with | true => Int.ofNat m | false => IntKind.i64.wrap (Int.ofNat m)) = _
  rw [show Nat.blt m 9223372036854775808 = true by rw [Nat.blt_eq]; exact h]
noncomputable def nvT (n i x : Nat) : Int := wrapA IntKind.i64 ↑(BitVec.toNat (BitVec.ofInt 64 (Int.ofNat n) ||| BitVec.ofInt 64 (wrapA IntKind.i64 (wrapA IntKind.u8 ↑(BitVec.toNat (BitVec.ofInt 8 (Int.ofNat x) &&& ~~~BitVec.ofInt 8 (128 : Int))) * (2 : Int) ^ min (Int.toNat ((7 : Int) * Int.ofNat i)) 64))))
theorem num_step {n i x : Nat} (hi : i < 9) (hn : n < 2 ^ (7 * i)) (hx : x < 256) :
    nvT n i x = Int.ofNat (n + x % 128 * 2 ^ (7 * i)) := by
  unfold nvT
  rw [low7 x hx]
  have e1 : wrapA IntKind.u8 (↑(x % 128) : Int) = Int.ofNat (x % 128) := by
    show Int.ofNat (x % 128 % 256) = _
    rw [Nat.mod_eq_of_lt (by omega)]
  have e2 : min (Int.toNat ((7 : Int) * Int.ofNat i)) 64 = 7 * i := by
    have : Int.toNat ((7 : Int) * Int.ofNat i) = 7 * i := by simp; omega
    rw [this]; omega
  have hp : 2 ^ (7 * i) ≤ 2 ^ 56 := Nat.pow_le_pow_right (by decide) (by omega)
  have hd : x % 128 ≤ 127 := by omega
  have hm : x % 128 * 2 ^ (7 * i) ≤ 127 * 2 ^ (7 * i) := Nat.mul_le_mul_right _ hd
  have h56 : (2 : Nat) ^ 56 = 72057594037927936 := by decide
  rw [h56] at hp
  have e3 : Int.ofNat (x % 128) * (2 : Int) ^ (7 * i) = Int.ofNat (x % 128 * 2 ^ (7 * i)) := by
    simp [Int.natCast_mul, Int.natCast_pow]
  rw [e1, e2, e3, wrap64 (m := x % 128 * 2 ^ (7 * i)) (by omega), BitVec.toNat_or, ofInt_nat, ofInt_nat]
  have n1 : n % 2 ^ 64 = n := Nat.mod_eq_of_lt (by omega)
  have n2 : x % 128 * 2 ^ (7 * i) % 2 ^ 64 = x % 128 * 2 ^ (7 * i) := Nat.mod_eq_of_lt (by omega)
  rw [n1, n2]
  have e4 : n ||| x % 128 * 2 ^ (7 * i) = n + x % 128 * 2 ^ (7 * i) := by
    rw [Nat.or_comm, Nat.mul_comm, ← Nat.two_pow_add_eq_or_of_lt hn (x % 128)]
    omega
  rw [e4]
  exact wrap64 (by omega)
noncomputable def nm (b : Nat → Nat) (L : Nat) : Nat → Nat → Option (Nat × Nat × Nat)
  | 0, _ => none
  | k + 1, i => match Nat.beq i L with
    | true => some (0, 0, 10)
    | false => match Nat.ble 128 (b i) with
      | true => nm b L k (i + 1)
      | false => match Nat.beq (b i) 0 && Nat.blt 0 i with
        | true => some (0, 0, 11)
        | false => some (nV b (i + 1), i + 1, 0)
noncomputable def nmv (b : Nat → Nat) (L : Nat) : Nat := ((nm b L 9 0).getD (0, 0, 11)).1
noncomputable def nmz (b : Nat → Nat) (L : Nat) : Nat := ((nm b L 9 0).getD (0, 0, 11)).2.1
noncomputable def nme (b : Nat → Nat) (L : Nat) : Nat := ((nm b L 9 0).getD (0, 0, 11)).2.2
noncomputable def numI (b : Nat → Nat) (L i : Nat) : List (Nat × AV) × List (Option AObj) := ([(0, .sv 1 L (byF b)), (5, .i .i64 (Int.ofNat (nV b i))), (7, .i .i64 (Int.ofNat i))], [])
theorem numR_lp (b : Nat → Nat) (L : Nat) (hb : ∀ k, b k < 256) (v z e : Nat) (h : nm b L 9 0 = some (v, z, e)) :
    LDoes Tryd.prog (loopAt Tryd.prog 100 0) 43 0 (mkT [(0, .sv 1 L (byF b)), (5, .i .i64 0), (7, .i .i64 0)]) [] .ret (mkT [(2, .i .i64 (Int.ofNat v)), (3, .i .i64 (Int.ofNat z)), (4, .i .i64 (Int.ofNat e))]) [] := by
  refine loop_indV (D := Nat) (l' := [(2, .i .i64 (Int.ofNat v)), (3, .i .i64 (Int.ofNat z)), (4, .i .i64 (Int.ofNat e))]) (numI b L) (fun i => 9 - i) (fun i => i ≤ 9 ∧ i ≤ L ∧ nm b L (9 - i) i = some (v, z, e)) ?_ 0 ⟨by decide, Nat.zero_le _, h⟩
  rintro i ⟨h9, hL, hr⟩
  refine ⟨Nat.zero_le _, 1000000, ?_⟩
  have hlt : i < 9 := by
    rcases Nat.lt_or_ge i 9 with q | q
    · exact q
    · have : i = 9 := by omega
      subst this; cases hr
  rw [show 9 - i = (9 - (i + 1)) + 1 by omega] at hr
  have hr : (match Nat.beq i L with
    | true => some (0, 0, 10)
    | false => match Nat.ble 128 (b i) with
      | true => nm b L (9 - (i + 1)) (i + 1)
      | false => match Nat.beq (b i) 0 && Nat.blt 0 i with
        | true => some (0, 0, 11)
        | false => some (nV b (i + 1), i + 1, 0)) = some (v, z, e) := hr
  refine ⟨_, (numR_vc L (nV b i) i b _).mpr ⟨fun _ => ⟨fun hq => ?_, fun hq => ?_⟩, fun h0 => absurd (of_decide_eq_false h0) (by simp; omega)⟩⟩
  · have : i = L := Int.ofNat.inj (of_decide_eq_true hq)
    subst this
    rw [Nat.beq_refl] at hr
    cases hr
    exact .inr ⟨[], [], _, _, [(2, .i .i64 0), (3, .i .i64 0), (4, .i .i64 10)], [], rfl, by simp, st_k [] (by kernel_rfl), .refl _, .refl _⟩
  · have hne : i ≠ L := fun q => of_decide_eq_false hq (by rw [q])
    have hil : i < L := by omega
    have b1 : (0 : Int) ≤ Int.ofNat i ∧ Int.ofNat i < (L : Int) := ⟨by simp, by simp; omega⟩
    rw [show Nat.beq i L = false by rw [Bool.eq_false_iff, ne_eq, Nat.beq_eq]; exact hne] at hr
    have hx := hb i
    have b2 : (-9223372036854775808 : Int) ≤ wrapA IntKind.u8 ↑(BitVec.toNat (BitVec.ofInt 8 (Int.ofNat (b i)) &&& ~~~BitVec.ofInt 8 (128 : Int))) ∧ wrapA IntKind.u8 ↑(BitVec.toNat (BitVec.ofInt 8 (Int.ofNat (b i)) &&& ~~~BitVec.ofInt 8 (128 : Int))) ≤ (9223372036854775807 : Int) := by
      rw [low7 _ hx]
      show (-9223372036854775808 : Int) ≤ Int.ofNat (b i % 128 % 256) ∧ Int.ofNat (b i % 128 % 256) ≤ (9223372036854775807 : Int)
      constructor <;> simp <;> omega
    have b3 : (-9223372036854775808 : Int) ≤ (7 : Int) * Int.ofNat i ∧ (7 : Int) * Int.ofNat i ≤ (9223372036854775807 : Int) := ⟨by simp; omega, by simp; omega⟩
    have b4 : (0 : Int) ≤ (7 : Int) * Int.ofNat i := by simp; omega
    have b5 : (-9223372036854775808 : Int) ≤ Int.ofNat i + 1 ∧ Int.ofNat i + 1 ≤ (9223372036854775807 : Int) := ⟨by simp; omega, by simp; omega⟩
    have st := num_step (n := nV b i) hlt (nV_lt b i) hx
    refine ⟨b1, trivial, trivial, b2, b3, b4, trivial, b1, trivial, fun hg => ?_, fun hg => ⟨b1, trivial, fun hz => ⟨hz, hz, fun hp => ?_, fun hp => ⟨b5, ?_⟩⟩, fun hz => ⟨hz, hz, b5, ?_⟩⟩⟩
    · have : 128 ≤ b i := by have := of_decide_eq_true hg; simp at this; omega
      rw [Nat.ble_eq_true_of_le this] at hr
      refine ⟨b5, .inl ⟨i + 1, [], [], _, _, [(0, .sv 1 L (byF b)), (5, .i .i64 (nvT (nV b i) i (b i))), (7, .i .i64 (Int.ofNat i + 1))], [], ⟨by omega, by omega, hr⟩, by show 9 - (i + 1) < 9 - i; omega, rfl, st_k [] (by kernel_rfl), ?_, .refl _⟩⟩
      rw [st]; exact .refl _
    all_goals
      have hlo : ¬ 128 ≤ b i := by have := of_decide_eq_false hg; simp at this; omega
      rw [show Nat.ble 128 (b i) = false by rw [Bool.eq_false_iff, ne_eq, Nat.ble_eq]; exact hlo] at hr
    · have h0 : b i = 0 := by have := of_decide_eq_true hz; simpa using this
      have hp' : 0 < i := by have := of_decide_eq_true hp; simpa using this
      rw [h0, show Nat.blt 0 i = true by rw [Nat.blt_eq]; exact hp'] at hr
      cases hr
      exact .inr ⟨[], [], _, _, [(2, .i .i64 0), (3, .i .i64 0), (4, .i .i64 11)], [], rfl, by simp, st_k [] (by kernel_rfl), .refl _, .refl _⟩
    · have hp' : ¬ 0 < i := by have := of_decide_eq_false hp; simpa using this
      rw [show Nat.blt 0 i = false by rw [Bool.eq_false_iff, ne_eq, Nat.blt_eq]; exact hp', Bool.and_false] at hr
      cases hr
      refine .inr ⟨[], [], _, _, [(2, .i .i64 (nvT (nV b i) i (b i))), (3, .i .i64 (Int.ofNat i + 1)), (4, .i .i64 0)], [], rfl, by simp, st_k [] (by kernel_rfl), ?_, .refl _⟩
      rw [st]; exact .refl _
    · have h0 : b i ≠ 0 := by have := of_decide_eq_false hz; simpa using this
      rw [show Nat.beq (b i) 0 = false by rw [Bool.eq_false_iff, ne_eq, Nat.beq_eq]; exact h0, Bool.false_and] at hr
      cases hr
      refine .inr ⟨[], [], _, _, [(2, .i .i64 (nvT (nV b i) i (b i))), (3, .i .i64 (Int.ofNat i + 1)), (4, .i .i64 0)], [], rfl, by simp, st_k [] (by kernel_rfl), ?_, .refl _⟩
      rw [st]; exact .refl _
theorem numX_lp (b : Nat → Nat) (L : Nat) (hb : ∀ k, b k < 256) (h : nm b L 9 0 = none) :
    LDoes Tryd.prog (loopAt Tryd.prog 100 0) 43 0 (mkT [(0, .sv 1 L (byF b)), (5, .i .i64 0), (7, .i .i64 0)]) [] (.exit 0) (mkT []) [] := by
  refine loop_indV (D := Nat) (l' := []) (numI b L) (fun i => 9 - i) (fun i => i ≤ 9 ∧ i ≤ L ∧ nm b L (9 - i) i = none) ?_ 0 ⟨by decide, Nat.zero_le _, h⟩
  rintro i ⟨h9, hL, hr⟩
  refine ⟨Nat.zero_le _, 1000000, ?_⟩
  by_cases hlt : i < 9
  · rw [show 9 - i = (9 - (i + 1)) + 1 by omega] at hr
    have hr : (match Nat.beq i L with
      | true => some (0, 0, 10)
      | false => match Nat.ble 128 (b i) with
        | true => nm b L (9 - (i + 1)) (i + 1)
        | false => match Nat.beq (b i) 0 && Nat.blt 0 i with
          | true => some (0, 0, 11)
          | false => some (nV b (i + 1), i + 1, 0)) = none := hr
    have hne : i ≠ L := fun q => by
      rw [q, Nat.beq_refl] at hr; cases hr
    rw [show Nat.beq i L = false by rw [Bool.eq_false_iff, ne_eq, Nat.beq_eq]; exact hne] at hr
    have h128 : 128 ≤ b i := by
      rcases Nat.lt_or_ge (b i) 128 with q | q
      · rw [show Nat.ble 128 (b i) = false by rw [Bool.eq_false_iff, ne_eq, Nat.ble_eq]; omega] at hr
        cases hz : (Nat.beq (b i) 0 && Nat.blt 0 i) <;> rw [hz] at hr <;> cases hr
      · exact q
    rw [Nat.ble_eq_true_of_le h128] at hr
    have hx := hb i
    have b1 : (0 : Int) ≤ Int.ofNat i ∧ Int.ofNat i < (L : Int) := ⟨by simp, by simp; omega⟩
    have b2 : (-9223372036854775808 : Int) ≤ wrapA IntKind.u8 ↑(BitVec.toNat (BitVec.ofInt 8 (Int.ofNat (b i)) &&& ~~~BitVec.ofInt 8 (128 : Int))) ∧ wrapA IntKind.u8 ↑(BitVec.toNat (BitVec.ofInt 8 (Int.ofNat (b i)) &&& ~~~BitVec.ofInt 8 (128 : Int))) ≤ (9223372036854775807 : Int) := by
      rw [low7 _ hx]
      show (-9223372036854775808 : Int) ≤ Int.ofNat (b i % 128 % 256) ∧ Int.ofNat (b i % 128 % 256) ≤ (9223372036854775807 : Int)
      constructor <;> simp <;> omega
    have b3 : (-9223372036854775808 : Int) ≤ (7 : Int) * Int.ofNat i ∧ (7 : Int) * Int.ofNat i ≤ (9223372036854775807 : Int) := ⟨by simp; omega, by simp; omega⟩
    have b4 : (0 : Int) ≤ (7 : Int) * Int.ofNat i := by simp; omega
    have b5 : (-9223372036854775808 : Int) ≤ Int.ofNat i + 1 ∧ Int.ofNat i + 1 ≤ (9223372036854775807 : Int) := ⟨by simp; omega, by simp; omega⟩
    have st := num_step (n := nV b i) hlt (nV_lt b i) hx
    refine ⟨_, (numR_vc L (nV b i) i b _).mpr ⟨fun _ => ⟨fun hq => absurd (Int.ofNat.inj (of_decide_eq_true hq)) hne, fun hq => ?_⟩, fun h0 => absurd (of_decide_eq_false h0) (by simp; omega)⟩⟩
    refine ⟨b1, trivial, trivial, b2, b3, b4, trivial, b1, trivial, fun hg => ?_, fun hg => absurd (of_decide_eq_false hg) (by simp; omega)⟩
    refine ⟨b5, .inl ⟨i + 1, [], [], _, _, [(0, .sv 1 L (byF b)), (5, .i .i64 (nvT (nV b i) i (b i))), (7, .i .i64 (Int.ofNat i + 1))], [], ⟨by omega, by omega, hr⟩, by show 9 - (i + 1) < 9 - i; omega, rfl, st_k [] (by kernel_rfl), ?_, .refl _⟩⟩
    rw [st]; exact .refl _
  · exact ⟨_, (numR_vc L (nV b i) i b _).mpr ⟨fun h0 => absurd (of_decide_eq_true h0) (by simp; omega), fun h0 => .inr ⟨[], [], _, _, [], [], rfl, by simp, st_k [] (by kernel_rfl), .refl _, .refl _⟩⟩⟩
end Go.Proofs.Cl
namespace Go.Proofs.Cl
open Go Go.Sim Go.Proofs Go.Proofs.Cd Go.Proofs.St
noncomputable def rdO (L : Nat) (b : Nat → Nat) (e : Int) : AObj := .cells 159 2 [] (setAll .e 0 [.sv 1 L (byF b), .i .i64 e])
noncomputable def shB (z : Nat) (b : Nat → Nat) : Nat → Nat := fun k => b (z + k)
noncomputable def tB (t : List Nat) : Nat → Nat := fun i => t.getD i 0
end Go.Proofs.Cl
namespace Go.Proofs.Cl
open Go Go.Sim Go.Proofs Go.Proofs.Cd Go.Proofs.St Go.Proofs.YtafknnedagolhaaDoor
theorem numA_vc (L : Nat) (b : Nat → Nat) (K : Res → Orc → Prop) : runK Tryd.prog 1000000 (.call 100 [.sv 1 L (byF b)] (mkH [])) (Orc.lop [] [0, 5, 7] 0 XO.ret [(2, AV.i .i64 (Int.ofNat (nmv b L))), (3, AV.i .i64 (Int.ofNat (nmz b L))), (4, AV.i .i64 (Int.ofNat (nme b L)))] [] Orc.z) K = (LDoes Tryd.prog (loopAt Tryd.prog 100 0) 43 0 (mkT [(0, AV.sv 1 L (byF b)), (5, AV.i .i64 0), (7, AV.i .i64 0)]) [] XO.ret (mkT [(2, AV.i .i64 (Int.ofNat (nmv b L))), (3, AV.i .i64 (Int.ofNat (nmz b L))), (4, AV.i .i64 (Int.ofNat (nme b L)))]) [] ∧ K (Res.rv (AV.tup [AV.i .i64 (Int.ofNat (nmv b L)), AV.i .i64 (Int.ofNat (nmz b L)), AV.i .i64 (Int.ofNat (nme b L))]) ⟨T.e, 0, []⟩) Orc.z) := by kernel_rfl
theorem numB_vc (L : Nat) (b : Nat → Nat) (K : Res → Orc → Prop) : runK Tryd.prog 1000000 (.call 100 [.sv 1 L (byF b)] (mkH [])) (Orc.lop [] [0, 5, 7] 0 (XO.exit 0) [] [] Orc.z) K = (LDoes Tryd.prog (loopAt Tryd.prog 100 0) 43 0 (mkT [(0, AV.sv 1 L (byF b)), (5, AV.i .i64 0), (7, AV.i .i64 0)]) [] (XO.exit 0) (mkT []) [] ∧ K (Res.rv (AV.tup [AV.i .i64 0, AV.i .i64 0, AV.i .i64 11]) ⟨T.e, 0, []⟩) Orc.z) := by kernel_rfl
theorem cloneS_vc (m : Nat) (b : Nat → Nat) (K : Res → Orc → Prop) : runK Tryd.prog 1000000 (.call 98 [.sv 1 (m + 1) (byF b)] (mkH [])) (Orc.c (Orc.s Orc.z Orc.z)) K = (True ∧ ((1 = 1 ∧ 0 + (m + 1) ≤ m + 1) ∧ True ∧ True ∧ 0 + (m + 1) ≤ 140737488355328 ∧ (3 * (0 + (m + 1)) + 1536) * 1 ≤ 562949953421312) ∧ K (Res.rv (AV.sv 1 (m + 1) fun k x => CV.i .u8 (Int.ofNat (b k))) ⟨z0 (z0 T.e T.e) T.e, 2, [1, 1, 0, 0]⟩) Orc.z) := by kernel_rfl
theorem clone0_vc (K : Res → Orc → Prop) : runK Tryd.prog 1000000 (.call 98 [.l0] (mkH [])) (Orc.c Orc.z) K = (True ∧ K (Res.rv AV.l0 ⟨T.e, 0, []⟩) Orc.z) := by kernel_rfl
theorem clonez_vc (K : Res → Orc → Prop) : runK Tryd.prog 1000000 (.call 98 [.lz] (mkH [])) (Orc.c Orc.z) K = (True ∧ K (Res.rv (AV.l 0 0 0 0 1 true) ⟨zl (AObj.cells 5 0 [] T.e), 1, [0, 0]⟩) Orc.z) := by kernel_rfl
theorem newRL_vc (L : Nat) (b : Nat → Nat) (K : Res → Orc → Prop) : runK Tryd.prog 1000000 (.call 81 [.lr 0 1 0 L false] (mkH [some (.rows 5 1 L (byF b))])) (Orc.cal [0] (AV.sv 1 L (byF b)) [Upd.gone] Orc.z) K = (Con Tryd.prog 98 [AV.lr 0 1 0 L false] [some (AObj.rows 5 1 L (byF b))] (AV.sv 1 L (byF b)) [Upd.gone] ∧ K (Res.rv (AV.p 1 0) ⟨z0 (zl (AObj.cells 159 2 [] (z1 (AV.sv 1 L (byF b)) (zl (AV.i .i64 0)) T.e))) T.e, 2, [1, 0]⟩) Orc.z) := by kernel_rfl
theorem rdNum_vc (L : Nat) (b : Nat → Nat) (e : Int) (K : Res → Orc → Prop) : runK Tryd.prog 1000000 (.call 82 [.p 0 0] (mkH [some (rdO L b e)])) (Orc.inl (Orc.c (Orc.s Orc.z (Orc.cal [] (AV.tup [AV.i .i64 (Int.ofNat (nmv b L)), AV.i .i64 (Int.ofNat (nmz b L)), AV.i .i64 (Int.ofNat (nme b L))]) [] Orc.z)))) K = (True ∧ True ∧ ((!decide (e = 0)) = true → K (Res.rv (AV.i .i64 0) ⟨zl (AObj.cells 159 2 [] (z1 (AV.sv 1 L (byF b)) (zl (AV.i .i64 e)) T.e)), 1, []⟩) Orc.z) ∧ ((!decide (e = 0)) = false → True ∧ Con Tryd.prog 100 [AV.sv 1 L (byF b)] [] (AV.tup [AV.i .i64 (Int.ofNat (nmv b L)), AV.i .i64 (Int.ofNat (nmz b L)), AV.i .i64 (Int.ofNat (nme b L))]) [] ∧ True ∧ True ∧ (0 ≤ Int.ofNat (nmz b L) ∧ True ∧ nmz b L ≤ L ∧ L ≤ L) ∧ True ∧ K (Res.rv (AV.i .i64 (Int.ofNat (nmv b L))) ⟨zl (AObj.cells 159 2 [] (z1 (AV.sv 1 (L - nmz b L) (shiftF (nmz b L) (byF b))) (zl (AV.i .i64 (Int.ofNat (nme b
  L)))) T.e)), 1, [0, 0]⟩) Orc.z)) := by kernel_rfl
theorem blockOf_vc (t : List Nat) (K : Res → Orc → Prop) : runK Tryd.prog 1000000 (.call 67 [.s t] (mkH [])) (Orc.s (Orc.cal [1] (AV.p 1 0) [Upd.gone, Upd.set (rdO (List.length t) (tB t) 0)] (Orc.cal [2] (AV.i .i64 (Int.ofNat (nmv (tB t) (List.length t)))) [Upd.set (rdO (List.length t - nmz (tB t) (List.length t)) (shB (nmz (tB t) (List.length t)) (tB t)) (Int.ofNat (nme (tB t) (List.length t))))] (Orc.inl (Orc.c (Orc.inl (Orc.c (Orc.s (Orc.t (Orc.inl (Orc.inl (Orc.s (Orc.t (Orc.t (Orc.t (Orc.s (Orc.t (Orc.t (Orc.t (Orc.t (Orc.t (Orc.f (Orc.s Orc.z Orc.z))))))) (Orc.f (Orc.f (Orc.f (Orc.f (Orc.t (Orc.f (Orc.c Orc.z))))))))))) (Orc.f (Orc.f (Orc.f (oc 5 (Orc.t (Orc.f (Orc.c Orc.z))))))))))) (Orc.f (Orc.f (Orc.t (Orc.c Orc.z))))))))))) Orc.z) K = (True ∧ Con Tryd.prog 81 [AV.lr 0 1 0 (List.length t) false] [some (AObj.rows 5 1 (List.length t) fun i x => CV.i .u8 (Int.ofNat (List.getD t i
  0)))] (AV.p 1 0) [Upd.gone, Upd.set (rdO (List.length t) (tB t) 0)] ∧ Con Tryd.prog 82 [AV.p 0 0] [some (rdO (List.length t) (tB t) 0)] (AV.i .i64 (Int.ofNat (nmv (tB t) (List.length t)))) [Upd.set (rdO (List.length t - nmz (tB t) (List.length t)) (shB (nmz (tB t) (List.length t)) (tB t)) (Int.ofNat (nme (tB t) (List.length t))))] ∧ True ∧ True ∧ ((-9223372036854775808) ≤ Int.ofNat (List.length t) - Int.ofNat (List.length t - nmz (tB t) (List.length t)) ∧ Int.ofNat (List.length t) - Int.ofNat (List.length t - nmz (tB t) (List.length t)) ≤ 9223372036854775807) ∧ (0 ≤ Int.ofNat (List.length t) - Int.ofNat (List.length t - nmz (tB t) (List.length t)) ∧ True ∧ Int.toNat (Int.ofNat (List.length t) - Int.ofNat (List.length t - nmz (tB t) (List.length t))) ≤ List.length t ∧ List.length t ≤ List.length t) ∧ True ∧ True ∧ ((!!decide (Int.ofNat (nme (tB t) (List.length t)) = 0)) = true →
  (!!decide (Int.ofNat (nme (tB t) (List.length t)) = 0)) = true ∧ True ∧ (decide (1 ≤ Int.ofNat (nmv (tB t) (List.length t))) = true → decide (1 ≤ Int.ofNat (nmv (tB t) (List.length t))) = true ∧ decide (1 ≤ Int.ofNat (nmv (tB t) (List.length t))) = true ∧ decide (1 ≤ Int.ofNat (nmv (tB t) (List.length t))) = true ∧ (decide (Int.ofNat (nmv (tB t) (List.length t)) ≤ 1099511627776) = true → True ∧ decide (Int.ofNat (nmv (tB t) (List.length t)) ≤ 1099511627776) = true ∧ decide (Int.ofNat (nmv (tB t) (List.length t)) ≤ 1099511627776) = true ∧ decide (Int.ofNat (nmv (tB t) (List.length t)) ≤ 1099511627776) = true ∧ decide (Int.ofNat (nmv (tB t) (List.length t)) ≤ 1099511627776) = true ∧ (!!decide (Int.ofNat (nme (tB t) (List.length t)) = 0)) = true ∧ True ∧ (!decide (Int.ofNat (nme (tB t) (List.length t)) = 0)) = false ∧ ((!decide (Int.ofNat (List.length (List.take (List.length t - Int.toNat
  (Int.ofNat (List.length t) - Int.ofNat (List.length t - nmz (tB t) (List.length t)))) (List.drop (Int.toNat (Int.ofNat (List.length t) - Int.ofNat (List.length t - nmz (tB t) (List.length t)))) t))) ≤ 44)) = true → K (Res.rv (AV.agg [AV.i .i64 0, AV.s []]) ⟨z1 (AObj.cells 45 2 [AV.i .i64 0, AV.s []] (z1 (AV.i .i64 0) (zl (AV.s [])) T.e)) (z0 (zl (AObj.cells 45 2 [AV.i .i64 0, AV.s []] (z1 (AV.i .i64 (Int.ofNat (nmv (tB t) (List.length t)))) (zl (AV.s (List.take (List.length t - Int.toNat (Int.ofNat (List.length t) - Int.ofNat (List.length t - nmz (tB t) (List.length t)))) (List.drop (Int.toNat (Int.ofNat (List.length t) - Int.ofNat (List.length t - nmz (tB t) (List.length t)))) t)))) T.e))) T.e) (z1 (AObj.cells 159 2 [] (z1 (AV.sv 1 (List.length t - nmz (tB t) (List.length t)) (byF (shB (nmz (tB t) (List.length t)) (tB t)))) (zl (AV.i .i64 (Int.ofNat (nme (tB t) (List.length t)))))
  T.e)) (zl (AObj.cells 45 2 [] (z1 (AV.i .i64 (Int.ofNat (nmv (tB t) (List.length t)))) (zl (AV.s (List.take (List.length t - Int.toNat (Int.ofNat (List.length t) - Int.ofNat (List.length t - nmz (tB t) (List.length t)))) (List.drop (Int.toNat (Int.ofNat (List.length t) - Int.ofNat (List.length t - nmz (tB t) (List.length t)))) t)))) T.e))) T.e), 5, [0, 4, 3, 3, 2, 2, 1, 1, 0]⟩) Orc.z) ∧ ((!decide (Int.ofNat (List.length (List.take (List.length t - Int.toNat (Int.ofNat (List.length t) - Int.ofNat (List.length t - nmz (tB t) (List.length t)))) (List.drop (Int.toNat (Int.ofNat (List.length t) - Int.ofNat (List.length t - nmz (tB t) (List.length t)))) t))) ≤ 44)) = false → K (Res.rv (AV.agg [AV.i .i64 (Int.ofNat (nmv (tB t) (List.length t))), AV.s (List.take (List.length t - Int.toNat (Int.ofNat (List.length t) - Int.ofNat (List.length t - nmz (tB t) (List.length t)))) (List.drop (Int.toNat
  (Int.ofNat (List.length t) - Int.ofNat (List.length t - nmz (tB t) (List.length t)))) t))]) ⟨z1 (AObj.cells 45 2 [AV.i .i64 0, AV.s []] (z1 (AV.i .i64 (Int.ofNat (nmv (tB t) (List.length t)))) (zl (AV.s (List.take (List.length t - Int.toNat (Int.ofNat (List.length t) - Int.ofNat (List.length t - nmz (tB t) (List.length t)))) (List.drop (Int.toNat (Int.ofNat (List.length t) - Int.ofNat (List.length t - nmz (tB t) (List.length t)))) t)))) T.e)) (z0 (zl (AObj.cells 45 2 [AV.i .i64 0, AV.s []] (z1 (AV.i .i64 (Int.ofNat (nmv (tB t) (List.length t)))) (zl (AV.s (List.take (List.length t - Int.toNat (Int.ofNat (List.length t) - Int.ofNat (List.length t - nmz (tB t) (List.length t)))) (List.drop (Int.toNat (Int.ofNat (List.length t) - Int.ofNat (List.length t - nmz (tB t) (List.length t)))) t)))) T.e))) T.e) (z1 (AObj.cells 159 2 [] (z1 (AV.sv 1 (List.length t - nmz (tB t) (List.length t)) (byF
  (shB (nmz (tB t) (List.length t)) (tB t)))) (zl (AV.i .i64 (Int.ofNat (nme (tB t) (List.length t))))) T.e)) (zl (AObj.cells 45 2 [] (z1 (AV.i .i64 (Int.ofNat (nmv (tB t) (List.length t)))) (zl (AV.s (List.take (List.length t - Int.toNat (Int.ofNat (List.length t) - Int.ofNat (List.length t - nmz (tB t) (List.length t)))) (List.drop (Int.toNat (Int.ofNat (List.length t) - Int.ofNat (List.length t - nmz (tB t) (List.length t)))) t)))) T.e))) T.e), 5, [0, 4, 3, 3, 2, 2, 1, 1, 0]⟩) Orc.z)) ∧ (decide (Int.ofNat (nmv (tB t) (List.length t)) ≤ 1099511627776) = false → decide (Int.ofNat (nmv (tB t) (List.length t)) ≤ 1099511627776) = false ∧ decide (Int.ofNat (nmv (tB t) (List.length t)) ≤ 1099511627776) = false ∧ decide (Int.ofNat (nmv (tB t) (List.length t)) ≤ 1099511627776) = false ∧ decide (Int.ofNat (nmv (tB t) (List.length t)) ≤ 1099511627776) = false ∧ (!!decide (Int.ofNat (nme (tB t)
  (List.length t)) = 0)) = true ∧ True ∧ (!decide (Int.ofNat (nme (tB t) (List.length t)) = 0)) = false ∧ K (Res.rv (AV.agg [AV.i .i64 0, AV.s []]) ⟨z1 (AObj.cells 45 2 [AV.i .i64 0, AV.s []] (z1 (AV.i .i64 0) (zl (AV.s [])) T.e)) (z0 (zl (AObj.cells 45 2 [AV.i .i64 0, AV.s []] (z1 (AV.i .i64 (Int.ofNat (nmv (tB t) (List.length t)))) (zl (AV.s (List.take (List.length t - Int.toNat (Int.ofNat (List.length t) - Int.ofNat (List.length t - nmz (tB t) (List.length t)))) (List.drop (Int.toNat (Int.ofNat (List.length t) - Int.ofNat (List.length t - nmz (tB t) (List.length t)))) t)))) T.e))) T.e) (z1 (AObj.cells 159 2 [] (z1 (AV.sv 1 (List.length t - nmz (tB t) (List.length t)) (byF (shB (nmz (tB t) (List.length t)) (tB t)))) (zl (AV.i .i64 (Int.ofNat (nme (tB t) (List.length t))))) T.e)) (zl (AObj.cells 45 2 [] (z1 (AV.i .i64 (Int.ofNat (nmv (tB t) (List.length t)))) (zl (AV.s (List.take
  (List.length t - Int.toNat (Int.ofNat (List.length t) - Int.ofNat (List.length t - nmz (tB t) (List.length t)))) (List.drop (Int.toNat (Int.ofNat (List.length t) - Int.ofNat (List.length t - nmz (tB t) (List.length t)))) t)))) T.e))) T.e), 5, [0, 4, 3, 3, 2, 2, 1, 1, 0]⟩) Orc.z)) ∧ (decide (1 ≤ Int.ofNat (nmv (tB t) (List.length t))) = false → decide (1 ≤ Int.ofNat (nmv (tB t) (List.length t))) = false ∧ decide (1 ≤ Int.ofNat (nmv (tB t) (List.length t))) = false ∧ decide (1 ≤ Int.ofNat (nmv (tB t) (List.length t))) = false ∧ (!!decide (Int.ofNat (nme (tB t) (List.length t)) = 0)) = true ∧ True ∧ (!decide (Int.ofNat (nme (tB t) (List.length t)) = 0)) = false ∧ K (Res.rv (AV.agg [AV.i .i64 0, AV.s []]) ⟨z1 (AObj.cells 45 2 [AV.i .i64 0, AV.s []] (z1 (AV.i .i64 0) (zl (AV.s [])) T.e)) (z0 (zl (AObj.cells 45 2 [AV.i .i64 0, AV.s []] (z1 (AV.i .i64 (Int.ofNat (nmv (tB t) (List.length t))))
  (zl (AV.s (List.take (List.length t - Int.toNat (Int.ofNat (List.length t) - Int.ofNat (List.length t - nmz (tB t) (List.length t)))) (List.drop (Int.toNat (Int.ofNat (List.length t) - Int.ofNat (List.length t - nmz (tB t) (List.length t)))) t)))) T.e))) T.e) (z1 (AObj.cells 159 2 [] (z1 (AV.sv 1 (List.length t - nmz (tB t) (List.length t)) (byF (shB (nmz (tB t) (List.length t)) (tB t)))) (zl (AV.i .i64 (Int.ofNat (nme (tB t) (List.length t))))) T.e)) (zl (AObj.cells 45 2 [] (z1 (AV.i .i64 (Int.ofNat (nmv (tB t) (List.length t)))) (zl (AV.s (List.take (List.length t - Int.toNat (Int.ofNat (List.length t) - Int.ofNat (List.length t - nmz (tB t) (List.length t)))) (List.drop (Int.toNat (Int.ofNat (List.length t) - Int.ofNat (List.length t - nmz (tB t) (List.length t)))) t)))) T.e))) T.e), 5, [0, 4, 3, 3, 2, 2, 1, 1, 0]⟩) Orc.z)) ∧ ((!!decide (Int.ofNat (nme (tB t) (List.length t)) = 0)) =
  false → (!!decide (Int.ofNat (nme (tB t) (List.length t)) = 0)) = false ∧ (!!decide (Int.ofNat (nme (tB t) (List.length t)) = 0)) = false ∧ (!decide (Int.ofNat (nme (tB t) (List.length t)) = 0)) = true ∧ K (Res.rv (AV.agg [AV.i .i64 0, AV.s []]) ⟨z1 (AObj.cells 45 2 [AV.i .i64 0, AV.s []] (z1 (AV.i .i64 0) (zl (AV.s [])) T.e)) (z0 (zl (AObj.cells 45 2 [AV.i .i64 0, AV.s []] (z1 (AV.i .i64 (Int.ofNat (nmv (tB t) (List.length t)))) (zl (AV.s (List.take (List.length t - Int.toNat (Int.ofNat (List.length t) - Int.ofNat (List.length t - nmz (tB t) (List.length t)))) (List.drop (Int.toNat (Int.ofNat (List.length t) - Int.ofNat (List.length t - nmz (tB t) (List.length t)))) t)))) T.e))) T.e) (zl (AObj.cells 159 2 [] (z1 (AV.sv 1 (List.length t - nmz (tB t) (List.length t)) (byF (shB (nmz (tB t) (List.length t)) (tB t)))) (zl (AV.i .i64 (Int.ofNat (nme (tB t) (List.length t))))) T.e))), 4, [0,
  3, 3, 2, 2, 1, 1, 0]⟩) Orc.z)) := by kernel_rfl
theorem nm_le (b : Nat → Nat) (L : Nat) : ∀ k i v z e, i ≤ L → nm b L k i = some (v, z, e) → z ≤ L
  | 0, i, v, z, e, _, h => by cases h
  | k + 1, i, v, z, e, hi, h => by
    have h : (match Nat.beq i L with
      | true => some (0, 0, 10)
      | false => match Nat.ble 128 (b i) with
        | true => nm b L k (i + 1)
        | false => match Nat.beq (b i) 0 && Nat.blt 0 i with
          | true => some (0, 0, 11)
          | false => some (nV b (i + 1), i + 1, 0)) = some (v, z, e) := h
    cases h1 : Nat.beq i L with
    | true => rw [h1] at h; cases h; exact Nat.zero_le _
    | false =>
      have hne : i ≠ L := fun q => by rw [q, Nat.beq_refl] at h1; cases h1
      rw [h1] at h
      cases h2 : Nat.ble 128 (b i) with
      | true => rw [h2] at h; exact nm_le b L k (i + 1) v z e (by omega) h
      | false =>
        rw [h2] at h
        cases h3 : (Nat.beq (b i) 0 && Nat.blt 0 i) with
        | true => rw [h3] at h; cases h; exact Nat.zero_le _
        | false => rw [h3] at h; cases h; omega
theorem nmz_le (b : Nat → Nat) (L : Nat) : nmz b L ≤ L := by
  unfold nmz
  cases h : nm b L 9 0 with
  | none => exact Nat.zero_le _
  | some q => obtain ⟨v, z, e⟩ := q; exact nm_le b L 9 0 v z e (Nat.zero_le _) h
theorem num_con (b : Nat → Nat) (L : Nat) (hb : ∀ k, b k < 256) : Con Tryd.prog 100 [.sv 1 L (byF b)] [] (.tup [.i .i64 (Int.ofNat (nmv b L)), .i .i64 (Int.ofNat (nmz b L)), .i .i64 (Int.ofNat (nme b L))]) [] := by
  cases h : nm b L 9 0 with
  | none =>
    have e1 : nmv b L = 0 := by unfold nmv; rw [h]; rfl
    have e2 : nmz b L = 0 := by unfold nmz; rw [h]; rfl
    have e3 : nme b L = 11 := by unfold nme; rw [h]; rfl
    rw [e1, e2, e3]
    exact con_plain rfl ((numB_vc L b _).mpr ⟨numX_lp b L hb h, _, _, rfl, rfl⟩)
  | some q =>
    obtain ⟨v, z, e⟩ := q
    have e1 : nmv b L = v := by unfold nmv; rw [h]; rfl
    have e2 : nmz b L = z := by unfold nmz; rw [h]; rfl
    have e3 : nme b L = e := by unfold nme; rw [h]; rfl
    have lp := numR_lp b L hb v z e h
    rw [← e1, ← e2, ← e3] at lp
    exact con_plain rfl ((numA_vc L b _).mpr ⟨lp, _, _, rfl, rfl⟩)
theorem cloneB_con (L : Nat) (b : Nat → Nat) (hL : L ≤ 1073741824) : Con Tryd.prog 98 [.sv 1 L (byF b)] [] (.sv 1 L (byF b)) [] := by
  cases L with
  | succ m => exact con_of_run [] [] ((cloneS_vc m b _).mpr ⟨trivial, ⟨⟨rfl, by omega⟩, trivial, trivial, by omega, by omega⟩, _, _, rfl, ret_k (by kernel_rfl)⟩)
  | zero =>
    have h0 : Con Tryd.prog 98 [.l0] [] (.sv 1 0 (byF b)) [] := by
      have h := con_of_run (v := .l0) (us := []) [] [] ((clone0_vc _).mpr ⟨trivial, _, _, rfl, ret_k (by kernel_rfl)⟩)
      exact h.post (VW.nil _ _) trivial
    have hz : Con Tryd.prog 98 [.lz] [] (.sv 1 0 (byF b)) [] := by
      have h := con_of_run (v := .sv 1 0 (listF 1 [] 0)) (us := []) [0] [] ((clonez_vc _).mpr ⟨trivial, _, _, rfl, ret_fz [0] ((0 + 0 * 1 ≤ 0) ∧ True) (by kernel_rfl) (by kernel_rfl) ⟨by omega, trivial⟩ (by kernel_rfl) rfl (by kernel_rfl) (by kernel_rfl) rfl trivial⟩)
      exact h.post (VW.sv fun i j hi => absurd hi (Nat.not_lt_zero i)) trivial
    intro ρ w args' hv hh hoff
    cases hv with | cons _ _ v' _ h1 h2 =>
    cases h1 with | sv _ _ _ _ hc =>
    cases hc with
    | sv0 => exact h0 ρ w _ (.cons _ _ _ _ .l0 h2) hh hoff
    | svz _ _ a c => exact hz ρ w _ (.cons _ _ _ _ (.lz a c) h2) hh hoff
    | sv _ _ _ B o cap g q1 q2 q3 => exact hz ρ w _ (.cons _ _ _ _ (.lz _ cap) h2) hh hoff
theorem cloneBL_con (L : Nat) (b : Nat → Nat) (hL : L ≤ 1073741824) : Con Tryd.prog 98 [.lr 0 1 0 L false] [some (.rows 5 1 L (byF b))] (.sv 1 L (byF b)) [.gone] :=
  ((cloneB_con L b hL).slot rfl (by kernel_rfl) (by kernel_rfl)).thaw (us0 := [.gone]) 0 (e := 5) (sz := 1) (n := L) (f := byF b) rfl ⟨rfl, trivial⟩ ⟨.inr ⟨by kernel_rfl, ⟨rfl, by omega⟩, rfl⟩, trivial⟩ rfl
theorem newRL_con (L : Nat) (b : Nat → Nat) (hL : L ≤ 1073741824) : Con Tryd.prog 81 [.lr 0 1 0 L false] [some (.rows 5 1 L (byF b))] (.p 1 0) [.gone, .set (rdO L b 0)] :=
  con_of_run [] [1] ((newRL_vc L b _).mpr ⟨cloneBL_con L b hL, _, _, rfl, ret_k (by kernel_rfl)⟩)
theorem rdNum_con (L : Nat) (b : Nat → Nat) (hb : ∀ k, b k < 256) : Con Tryd.prog 82 [.p 0 0] [some (rdO L b 0)] (.i .i64 (Int.ofNat (nmv b L))) [.set (rdO (L - nmz b L) (shB (nmz b L) b) (Int.ofNat (nme b L)))] := by
  have k : Con Tryd.prog 82 [.p 0 0] [some (rdO L b 0)] (.i .i64 (Int.ofNat (nmv b L))) [.set (.cells 159 2 [] (setAll .e 0 [.sv 1 (L - nmz b L) (shiftF (nmz b L) (byF b)), .i .i64 (Int.ofNat (nme b L))]))] :=
    con_of_run [] [] ((rdNum_vc L b 0 _).mpr ⟨trivial, trivial, fun h => (by cases h), fun _ => ⟨trivial, num_con b L hb, trivial, trivial, ⟨by simp, trivial, nmz_le b L, Nat.le_refl _⟩, trivial, _, _, rfl, ret_k (by kernel_rfl)⟩⟩)
  have e : shiftF (nmz b L) (byF b) = byF (shB (nmz b L) b) := by
    funext i j
    rw [shiftF_eq]; rfl
  rw [e] at k
  exact k
theorem rdNumE_con (L : Nat) (b : Nat → Nat) (e : Int) (he : e ≠ 0) : Con Tryd.prog 82 [.p 0 0] [some (rdO L b e)] (.i .i64 0) [.keep] := by
  have d : (!decide (e = 0)) = true := by rw [decide_eq_false he]; rfl
  exact con_of_run [] [] ((rdNum_vc L b e _).mpr ⟨trivial, trivial, fun _ => ⟨_, _, rfl, ret_k (by kernel_rfl)⟩, fun h => (by rw [d] at h; cases h)⟩)
noncomputable def okBlk (t : List Nat) : Bool := Nat.beq (nme (tB t) t.length) 0 && (Nat.ble 1 (nmv (tB t) t.length) && (Nat.ble (nmv (tB t) t.length) 1099511627776 && Nat.ble (t.length - nmz (tB t) t.length) 44))
noncomputable def blkQ (t : List Nat) : Nat := bif okBlk t then nmv (tB t) t.length else 0
noncomputable def blkD (t : List Nat) : List Nat := bif okBlk t then t.drop (nmz (tB t) t.length) else []
theorem tB_lt {t : List Nat} (h : ∀ x ∈ t, x < 256) (k : Nat) : tB t k < 256 := by
  unfold tB
  rw [List.getD_eq_getElem?_getD]
  cases hk : t[k]? with
  | none => decide
  | some x => exact h x (List.mem_of_getElem? hk)
theorem take_rest {t : List Nat} {z : Nat} (h : z ≤ t.length) : List.take (t.length - Int.toNat (Int.ofNat t.length - Int.ofNat (t.length - z))) (List.drop (Int.toNat (Int.ofNat t.length - Int.ofNat (t.length - z))) t) = t.drop z := by
  have e : Int.toNat (Int.ofNat t.length - Int.ofNat (t.length - z)) = z := by simp; omega
  rw [e]
  exact List.take_of_length_le (by simp)
theorem blockOf_con (t : List Nat) (ht : ∀ x ∈ t, x < 256) (hL : t.length ≤ 1073741824) : Con Tryd.prog 67 [.s t] [] (.agg [.i .i64 (Int.ofNat (blkQ t)), .s (blkD t)]) [] := by
  have hz := nmz_le (tB t) t.length
  have c1 : Con Tryd.prog 81 [.lr 0 1 0 t.length false] [some (.rows 5 1 t.length fun i _ => .i .u8 (Int.ofNat (t.getD i 0)))] (.p 1 0) [.gone, .set (rdO t.length (tB t) 0)] := newRL_con t.length (tB t) hL
  have c2 := rdNum_con t.length (tB t) (tB_lt ht)
  have r1 : (-9223372036854775808 : Int) ≤ Int.ofNat t.length - Int.ofNat (t.length - nmz (tB t) t.length) ∧ Int.ofNat t.length - Int.ofNat (t.length - nmz (tB t) t.length) ≤ (9223372036854775807 : Int) := ⟨by simp <;> omega, by simp <;> omega⟩
  have r2 : (0 : Int) ≤ Int.ofNat t.length - Int.ofNat (t.length - nmz (tB t) t.length) ∧ True ∧ Int.toNat (Int.ofNat t.length - Int.ofNat (t.length - nmz (tB t) t.length)) ≤ t.length ∧ t.length ≤ t.length := ⟨by simp <;> omega, trivial, by simp <;> omega, Nat.le_refl _⟩
  have no : okBlk t = false → Con Tryd.prog 67 [.s t] [] (.agg [.i .i64 0, .s []]) [] → Con Tryd.prog 67 [.s t] [] (.agg [.i .i64 (Int.ofNat (blkQ t)), .s (blkD t)]) [] := fun h k => by
    have e1 : blkQ t = 0 := by unfold blkQ; rw [h]; rfl
    have e2 : blkD t = [] := by unfold blkD; rw [h]; rfl
    rw [e1, e2]; exact k
  by_cases hE : nme (tB t) t.length = 0
  · have dE : (!!decide (Int.ofNat (nme (tB t) t.length) = (0 : Int))) = true := by rw [hE]; rfl
    have dE2 : (!decide (Int.ofNat (nme (tB t) t.length) = (0 : Int))) = false := by rw [hE]; rfl
    by_cases h1 : 1 ≤ nmv (tB t) t.length
    · have d1 : decide ((1 : Int) ≤ Int.ofNat (nmv (tB t) t.length)) = true := decide_eq_true (by simp; omega)
      by_cases h2 : nmv (tB t) t.length ≤ 1099511627776
      · have d2 : decide (Int.ofNat (nmv (tB t) t.length) ≤ (1099511627776 : Int)) = true := decide_eq_true (by simp; omega)
        by_cases h3 : t.length - nmz (tB t) t.length ≤ 44
        · have ok : okBlk t = true := by
            unfold okBlk
            rw [hE, Nat.ble_eq_true_of_le h1, Nat.ble_eq_true_of_le h2, Nat.ble_eq_true_of_le h3]; rfl
          have e1 : blkQ t = nmv (tB t) t.length := by unfold blkQ; rw [ok]; rfl
          have e2 : blkD t = t.drop (nmz (tB t) t.length) := by unfold blkD; rw [ok]; rfl
          rw [e1, e2, ← take_rest hz]
          refine con_plain rfl ((blockOf_vc t _).mpr ⟨trivial, c1, c2, trivial, trivial, r1, r2, trivial, trivial, fun _ => ⟨dE, trivial, fun _ => ⟨d1, d1, d1, fun _ => ⟨trivial, d2, d2, d2, d2, dE, trivial, dE2, fun h => ?_, fun _ => ⟨_, _, rfl, rfl⟩⟩, fun h => (by rw [d2] at h; cases h)⟩, fun h => (by rw [d1] at h; cases h)⟩, fun h => (by rw [dE] at h; cases h)⟩)
          rw [take_rest hz] at h
          simp at h; omega
        · have ok : okBlk t = false := by
            unfold okBlk
            rw [show Nat.ble (t.length - nmz (tB t) t.length) 44 = false by rw [Bool.eq_false_iff, ne_eq, Nat.ble_eq]; exact h3]
            simp
          refine no ok (con_plain rfl ((blockOf_vc t _).mpr ⟨trivial, c1, c2, trivial, trivial, r1, r2, trivial, trivial, fun _ => ⟨dE, trivial, fun _ => ⟨d1, d1, d1, fun _ => ⟨trivial, d2, d2, d2, d2, dE, trivial, dE2, fun _ => ⟨_, _, rfl, rfl⟩, fun h => ?_⟩, fun h => (by rw [d2] at h; cases h)⟩, fun h => (by rw [d1] at h; cases h)⟩, fun h => (by rw [dE] at h; cases h)⟩))
          rw [take_rest hz] at h
          simp at h; omega
      · have d2 : decide (Int.ofNat (nmv (tB t) t.length) ≤ (1099511627776 : Int)) = false := decide_eq_false (by simp; omega)
        have ok : okBlk t = false := by
          unfold okBlk
          rw [show Nat.ble (nmv (tB t) t.length) 1099511627776 = false by rw [Bool.eq_false_iff, ne_eq, Nat.ble_eq]; exact h2]
          simp
        exact no ok (con_plain rfl ((blockOf_vc t _).mpr ⟨trivial, c1, c2, trivial, trivial, r1, r2, trivial, trivial, fun _ => ⟨dE, trivial, fun _ => ⟨d1, d1, d1, fun h => (by rw [d2] at h; cases h), fun _ => ⟨d2, d2, d2, d2, dE, trivial, dE2, _, _, rfl, rfl⟩⟩, fun h => (by rw [d1] at h; cases h)⟩, fun h => (by rw [dE] at h; cases h)⟩))
    · have d1 : decide ((1 : Int) ≤ Int.ofNat (nmv (tB t) t.length)) = false := decide_eq_false (by simp; omega)
      have ok : okBlk t = false := by
        unfold okBlk
        rw [show Nat.ble 1 (nmv (tB t) t.length) = false by rw [Bool.eq_false_iff, ne_eq, Nat.ble_eq]; exact h1]
        simp
      exact no ok (con_plain rfl ((blockOf_vc t _).mpr ⟨trivial, c1, c2, trivial, trivial, r1, r2, trivial, trivial, fun _ => ⟨dE, trivial, fun h => (by rw [d1] at h; cases h), fun _ => ⟨d1, d1, d1, dE, trivial, dE2, _, _, rfl, rfl⟩⟩, fun h => (by rw [dE] at h; cases h)⟩))
  · have dE : (!!decide (Int.ofNat (nme (tB t) t.length) = (0 : Int))) = false := by
      rw [decide_eq_false (by simp; exact hE)]; rfl
    have dE2 : (!decide (Int.ofNat (nme (tB t) t.length) = (0 : Int))) = true := by
      rw [decide_eq_false (by simp; exact hE)]; rfl
    have ok : okBlk t = false := by
      unfold okBlk
      rw [show Nat.beq (nme (tB t) t.length) 0 = false by rw [Bool.eq_false_iff, ne_eq, Nat.beq_eq]; exact hE]
      rfl
    exact no ok (con_plain rfl ((blockOf_vc t _).mpr ⟨trivial, c1, c2, trivial, trivial, r1, r2, trivial, trivial, fun h => (by rw [dE] at h; cases h), fun _ => ⟨dE, dE, dE2, _, _, rfl, rfl⟩⟩))
end Go.Proofs.Cl
namespace Go.Proofs.Cl
open Go Go.Sim Go.Proofs Go.Proofs.Cd Go.Proofs.St
noncomputable def w0O : AObj := .cells 140 2 [.p0, .i .i64 0] .e
noncomputable def wO (k : Nat) : AObj := .cells 140 2 [.p0, .i .i64 0] (setAll .e 0 [.p 1 0, .i .i64 (Int.ofNat k)])
noncomputable def shO (A k : Nat) : AObj := .cells 157 1 [] (setAll .e 0 [.lr A 1 0 k false])
noncomputable def lyB (g : Nat → Int) (k : Nat) (x : Int) : Nat → Int := fun i => bif Nat.blt i k then g i else x
noncomputable def iF (b : Nat → Int) : Nat → Nat → CV := fun k _ => .i .u8 (b k)
end Go.Proofs.Cl
namespace Go.Proofs.Cl
open Go Go.Sim Go.Proofs Go.Proofs.Cd Go.Proofs.St Go.Proofs.YtafknnedagolhaaDoor
theorem lay0_vc (x : Int) (K : Res → Orc → Prop) : runK Tryd.prog 1000000 (.call 97 [.p 0 0, .i .u8 x] (mkH [some w0O])) (oc 15 (Orc.inl (oc 7 Orc.z))) K = (True ∧ True ∧ True ∧ True ∧ True ∧ True ∧ True ∧ True ∧ True ∧ True ∧ True ∧ ((-9223372036854775808 : Int) ≤ (1 : Int) ∧ (1 : Int) ≤ (9223372036854775807 : Int)) ∧ True ∧ K (Res.rv (AV.tup []) ⟨z1 (AObj.cells 140 2 [AV.p0, AV.i .i64 0] (z1 (AV.p 1 0) (zl (AV.i .i64 1)) T.e)) (z1 (AObj.cells 157 1 [] (zl (AV.l 3 0 1 1 1 false))) (zl (AObj.cells 5 1 [] (zl (AV.i .u8 x)))) T.e) (zl (AObj.cells 5 1 [] (zl (AV.i .u8 x)))), 4, [0, 1, 3, 2, 0, 1]⟩) Orc.z) := by kernel_rfl
theorem layR_vc (x : Int) (k : Nat) (g : Nat → Int) (h : decide (Int.ofNat k < Int.ofNat k) = false) (K : Res → Orc → Prop) : runK Tryd.prog 1000000 (.call 97 [.p 0 0, .i .u8 x] (mkH [some (wO k), some (shO 2 k), some (.rows 5 1 k (Cl.iF g))])) (oc 14 (Orc.f Orc.z)) K = (True ∧ True ∧ True ∧ True ∧ True ∧ decide (Int.ofNat k < Int.ofNat k) = false ∧ True ∧ True ∧ True ∧ (0 + k ≤ k ∧ True ∧ k + 1 ≤ 140737488355328 ∧ (3 * (k + 1) + 1536) * 1 ≤ 562949953421312) ∧ True ∧ True ∧ ((-9223372036854775808) ≤ Int.ofNat k + 1 ∧ Int.ofNat k + (1 : Int) ≤ (9223372036854775807 : Int)) ∧ True ∧ K (Res.rv (AV.tup []) ⟨z1 (AObj.cells 140 2 [AV.p0, AV.i .i64 0] (z1 (AV.p 1 0) (zl (AV.i .i64 (Int.ofNat k + 1))) T.e)) (z1 (AObj.cells 157 1 [] (zl (AV.lr 4 1 0 (addN k 1) false))) (zl (AObj.cells 5 1 [] (zl (AV.i .u8 x)))) T.e) (z0 (zl (AObj.rows 5 1 (addN k 1) (appZ k (fun k x => CV.i .u8 (g k)) fun x_1 j =>
  List.getD [CV.i .u8 x] j CV.p0))) T.e), 5, [0, 1, 4, 2, 3]⟩) Orc.z) := by kernel_rfl
theorem w0_vc (n : Nat) (K : Res → Orc → Prop) : runK Tryd.prog 1000000 (.code (loopAt Tryd.prog 78 0) 21 (mkT [(0, .p 0 0), (1, .i .i64 (Int.ofNat n))]) (mkH [some w0O])) (Orc.s (Orc.cal [0] (AV.tup []) [Upd.set (wO 1), Upd.set (shO 2 1), Upd.set (AObj.rows 5 1 1 (iF fun x => wrapA .u8 ↑(BitVec.toNat (BitVec.ofInt 8 (wrapA .u8 (Int.ofNat n)) ||| BitVec.ofInt 8 128))))] Orc.z) Orc.z) K = ((decide (128 ≤ Int.ofNat n) = true → True ∧ True ∧ Con Tryd.prog 97 [AV.p 0 0, AV.i .u8 (wrapA .u8 ↑(BitVec.toNat (BitVec.ofInt 8 (wrapA .u8 (Int.ofNat n)) ||| BitVec.ofInt 8 128)))] [some w0O] (AV.tup []) [Upd.set (wO 1), Upd.set (shO 2 1), Upd.set (AObj.rows 5 1 1 (iF fun x => wrapA .u8 ↑(BitVec.toNat (BitVec.ofInt 8 (wrapA .u8 (Int.ofNat n)) ||| BitVec.ofInt 8 128))))] ∧ (0 : Int) ≤ (7 : Int) ∧ K (Res.st XO.nrm (z1 (AV.p 0 0) (z1 (AV.i .i64 (Int.fdiv (Int.ofNat n) 128)) (z0 (z0 (zl (AV.i .u8 (wrapA
  .u8 ↑(BitVec.toNat (BitVec.ofInt 8 (wrapA .u8 (Int.ofNat n)) ||| BitVec.ofInt 8 128))))) T.e) (zl (AV.i .i64 (Int.fdiv (Int.ofNat n) 128)))) (z0 (zl (AV.b (decide (128 ≤ Int.ofNat n)))) (zl (AV.i .i64 (Int.ofNat n))))) (z0 (z0 (z1 (AV.i .i64 (Int.ofNat n)) (zl (AV.tup [])) T.e) (zl (AV.p 0 0))) (z0 (zl (AV.i .i64 (Int.ofNat n))) (zl (AV.i .u8 (wrapA .u8 (Int.ofNat n))))))) ⟨z1 (AObj.cells 140 2 [AV.p0, AV.i .i64 0] (z1 (AV.p 1 0) (zl (AV.i .i64 1)) T.e)) (zl (AObj.cells 157 1 [] (zl (AV.lr 2 1 0 1 false)))) (zl (AObj.rows 5 1 1 (iF fun x => wrapA .u8 ↑(BitVec.toNat (BitVec.ofInt 8 (wrapA .u8 (Int.ofNat n)) ||| BitVec.ofInt 8 128))))), 2 + 1, [2, 1, 0]⟩) Orc.z) ∧ (decide (128 ≤ Int.ofNat n) = false → K (Res.st (XO.exit 0) (z1 (AV.p 0 0) (z1 (AV.i .i64 (Int.ofNat n)) T.e (z0 (zl (AV.b (decide (128 ≤ Int.ofNat n)))) T.e)) (z0 (z0 (zl (AV.i .i64 (Int.ofNat n))) T.e) T.e)) ⟨zl (AObj.cells
  140 2 [AV.p0, AV.i .i64 0] T.e), 1, []⟩) Orc.z)) := by kernel_rfl
theorem wR_vc (n k : Nat) (g : Nat → Int) (K : Res → Orc → Prop) : runK Tryd.prog 1000000 (.code (loopAt Tryd.prog 78 0) 21 (mkT [(0, .p 0 0), (1, .i .i64 (Int.ofNat n))]) (mkH [some (wO k), some (shO 2 k), some (.rows 5 1 k (Cl.iF g))])) (Orc.s (Orc.cal [0, 1, 2] (AV.tup []) [Upd.set (wO (k + 1)), Upd.set (shO 3 (k + 1)), Upd.gone, Upd.set (AObj.rows 5 1 (k + 1) (iF (lyB g k (wrapA .u8 ↑(BitVec.toNat (BitVec.ofInt 8 (wrapA .u8 (Int.ofNat n)) ||| BitVec.ofInt 8 128))))))] Orc.z) Orc.z) K = ((decide (128 ≤ Int.ofNat n) = true → True ∧ True ∧ Con Tryd.prog 97 [AV.p 0 0, AV.i .u8 (wrapA .u8 ↑(BitVec.toNat (BitVec.ofInt 8 (wrapA .u8 (Int.ofNat n)) ||| BitVec.ofInt 8 128)))] [some (wO k), some (shO 2 k), some (AObj.rows 5 1 k (iF g))] (AV.tup []) [Upd.set (wO (k + 1)), Upd.set (shO 3 (k + 1)), Upd.gone, Upd.set (AObj.rows 5 1 (k + 1) (iF (lyB g k (wrapA .u8 ↑(BitVec.toNat (BitVec.ofInt 8
  (wrapA .u8 (Int.ofNat n)) ||| BitVec.ofInt 8 128))))))] ∧ (0 : Int) ≤ (7 : Int) ∧ K (Res.st XO.nrm (z1 (AV.p 0 0) (z1 (AV.i .i64 (Int.fdiv (Int.ofNat n) 128)) (z0 (z0 (zl (AV.i .u8 (wrapA .u8 ↑(BitVec.toNat (BitVec.ofInt 8 (wrapA .u8 (Int.ofNat n)) ||| BitVec.ofInt 8 128))))) T.e) (zl (AV.i .i64 (Int.fdiv (Int.ofNat n) 128)))) (z0 (zl (AV.b (decide (128 ≤ Int.ofNat n)))) (zl (AV.i .i64 (Int.ofNat n))))) (z0 (z0 (z1 (AV.i .i64 (Int.ofNat n)) (zl (AV.tup [])) T.e) (zl (AV.p 0 0))) (z0 (zl (AV.i .i64 (Int.ofNat n))) (zl (AV.i .u8 (wrapA .u8 (Int.ofNat n))))))) ⟨z1 (AObj.cells 140 2 [AV.p0, AV.i .i64 0] (z1 (AV.p 1 0) (zl (AV.i .i64 (Int.ofNat (k + 1)))) T.e)) (z1 (AObj.cells 157 1 [] (zl (AV.lr 3 1 0 (k + 1) false))) (zl (AObj.rows 5 1 (k + 1) (iF (lyB g k (wrapA .u8 ↑(BitVec.toNat (BitVec.ofInt 8 (wrapA .u8 (Int.ofNat n)) ||| BitVec.ofInt 8 128))))))) T.e) (z0 T.e T.e), 3 + 1, [3, 2, 1,
  0]⟩) Orc.z) ∧ (decide (128 ≤ Int.ofNat n) = false → K (Res.st (XO.exit 0) (z1 (AV.p 0 0) (z1 (AV.i .i64 (Int.ofNat n)) T.e (z0 (zl (AV.b (decide (128 ≤ Int.ofNat n)))) T.e)) (z0 (z0 (zl (AV.i .i64 (Int.ofNat n))) T.e) T.e)) ⟨z1 (AObj.cells 140 2 [AV.p0, AV.i .i64 0] (z1 (AV.p 1 0) (zl (AV.i .i64 (Int.ofNat k))) T.e)) (zl (AObj.cells 157 1 [] (zl (AV.lr 2 1 0 k false)))) (zl (AObj.rows 5 1 k (iF g))), 3, []⟩) Orc.z)) := by kernel_rfl
theorem lay0_con (x : Int) : Con Tryd.prog 97 [.p 0 0, .i .u8 x] [some w0O] (.tup []) [.set (wO 1), .set (shO 2 1), .set (.rows 5 1 1 (Cl.iF fun _ => x))] := by
  have k : Con Tryd.prog 97 [.p 0 0, .i .u8 x] [some w0O] (.tup []) [.set (wO 1), .set (.cells 157 1 [] (setAll .e 0 [.l 2 0 1 1 1 false])), .set (cellsO 5 [.i .u8 x])] :=
    con_of_run [] [1, 3] ((lay0_vc x _).mpr (by
      repeat' first | exact trivial | apply And.intro | decide | exact ⟨_, _, rfl, ret_is (by kernel_rfl) rfl (by kernel_rfl) (by kernel_rfl) rfl (by refine ⟨?_, ?_, ?_, ?_, ?_, ?_, trivial⟩ <;> kernel_rfl)⟩))
  refine k.post (.refl _) ⟨.refl _, .cellsD (dflt := []) (l := [.l 2 0 1 1 1 false]) (l' := [.lr 2 1 0 1 false]) ⟨⟨fun _ => rfl, fun ρ x h => h.l_lr⟩, trivial⟩, .x (OX.cellsRows (f := fun i => Cl.iF (fun _ => x) i 0) rfl fun i hi => ?_), trivial⟩
  have : i = 0 := by omega
  subst this
  exact ⟨_, rfl, fun ρ y h => by cases h; exact .i _ _⟩
theorem lay_app (g : Nat → Int) (k : Nat) (x : Int) (i j : Nat) (hi : i < k + 1) (hj : j < 1) : CW (appZ k (Cl.iF g) (fun _ j => List.getD [CV.i .u8 x] j .p0) i j) (Cl.iF (lyB g k x) i j) := by
  have : j = 0 := by omega
  subst this
  have h := appZ_i (n := k) (f := Cl.iF g) (g := fun _ j => List.getD [CV.i .u8 x] j .p0) (i := i) (j := 0) (k := .u8) (a := g i) (b := x) rfl rfl
  refine .of ?_
  rw [h]
  unfold Cl.iF lyB
  by_cases q : i < k
  · rw [if_pos q, show Nat.blt i k = true by rw [Nat.blt_eq]; exact q]; rfl
  · rw [if_neg q, show Nat.blt i k = false by rw [Bool.eq_false_iff, ne_eq, Nat.blt_eq]; exact q]; rfl
theorem layR_con (x : Int) (k : Nat) (g : Nat → Int) (hk : k ≤ 1073741824) : Con Tryd.prog 97 [.p 0 0, .i .u8 x] [some (wO k), some (shO 2 k), some (.rows 5 1 k (Cl.iF g))] (.tup []) [.set (wO (k + 1)), .set (shO 3 (k + 1)), .gone, .set (.rows 5 1 (k + 1) (Cl.iF (lyB g k x)))] := by
  have d : decide (Int.ofNat k < Int.ofNat k) = false := decide_eq_false (by simp)
  have sz : 0 + k ≤ k ∧ True ∧ k + 1 ≤ 140737488355328 ∧ (3 * (k + 1) + 1536) * 1 ≤ 562949953421312 := ⟨by omega, trivial, by omega, by omega⟩
  have b : (-9223372036854775808 : Int) ≤ Int.ofNat k + 1 ∧ Int.ofNat k + 1 ≤ (9223372036854775807 : Int) := ⟨by simp; omega, by simp; omega⟩
  have q : Con Tryd.prog 97 [.p 0 0, .i .u8 x] [some (wO k), some (shO 2 k), some (.rows 5 1 k (Cl.iF g))] (.tup []) [.set (wO (k + 1)), .set (shO 3 (addN k 1)), .gone, .set (.rows 5 1 (addN k 1) (appZ k (Cl.iF g) fun _ j => List.getD [CV.i .u8 x] j .p0))] :=
    con_of_run [] [4] ((layR_vc x k g d _).mpr (by
      repeat' first | exact trivial | assumption | apply And.intro | exact ⟨_, _, rfl, ret_is (by kernel_rfl) rfl (by kernel_rfl) (by kernel_rfl) rfl (by refine ⟨?_, ?_, ?_, ?_, ?_, ?_, trivial⟩ <;> kernel_rfl)⟩))
  rw [addN_eq] at q
  exact q.post (.refl _) ⟨.refl _, .refl _, .refl _, .rowsW fun i j hi hj => lay_app g k x i j hi hj, trivial⟩
noncomputable def chN (n : Nat) : Int := wrapA IntKind.u8 ↑(BitVec.toNat (BitVec.ofInt 8 (wrapA IntKind.u8 (Int.ofNat n)) ||| BitVec.ofInt 8 (128 : Int)))
theorem chN_eq (n : Nat) : chN n = Int.ofNat (n % 128 + 128) := by
  have key : ∀ x : Fin 256, (BitVec.ofInt 8 (Int.ofNat x.1) ||| BitVec.ofInt 8 (128 : Int)).toNat = x.1 % 128 + 128 := by decide
  have e : wrapA IntKind.u8 (Int.ofNat n) = Int.ofNat (n % 256) := rfl
  unfold chN
  rw [e, key ⟨n % 256, Nat.mod_lt _ (by decide)⟩]
  show Int.ofNat ((n % 256 % 128 + 128) % 256) = _
  congr 1
  omega
theorem fdiv128 (n : Nat) : Int.fdiv (Int.ofNat n) (128 : Int) = Int.ofNat (n / 128) := by
  cases n <;> rfl
noncomputable def fW (n : Nat) : Nat → Int := fun i => chN (n / 128 ^ i)
noncomputable def gW (g : Nat → Int) (k n : Nat) : Nat → Int := fun i => bif Nat.blt i k then g i else chN (n / 128 ^ (i - k))
noncomputable def mRf : Nat → Nat → Nat
  | 0, _ => 0
  | f + 1, n => match Nat.blt n 128 with
    | true => 0
    | false => mRf f (n / 128) + 1
noncomputable def mR (n : Nat) : Nat := mRf 10 n
noncomputable def lst (n : Nat) : Nat := n / 128 ^ mR n
theorem mRf_ok : ∀ (f n : Nat), n < 128 ^ (f + 1) → mRf f n ≤ f ∧ (∀ j, j < mRf f n → 128 ≤ n / 128 ^ j) ∧ n / 128 ^ mRf f n < 128
  | 0, n, h => ⟨Nat.le_refl _, fun j hj => absurd hj (Nat.not_lt_zero j), by show n / 1 < 128; rw [Nat.div_one]; simpa using h⟩
  | f + 1, n, h => by
    cases hb : Nat.blt n 128 with
    | true =>
      have e : mRf (f + 1) n = 0 := by show (match Nat.blt n 128 with | true => 0 | false => _) = 0; rw [hb]
      have : n < 128 := by rwa [Nat.blt_eq] at hb
      rw [e]
      exact ⟨Nat.zero_le _, fun j hj => absurd hj (Nat.not_lt_zero j), by show n / 1 < 128; rw [Nat.div_one]; exact this⟩
    | false =>
      have e : mRf (f + 1) n = mRf f (n / 128) + 1 := by show (match Nat.blt n 128 with | true => 0 | false => mRf f (n / 128) + 1) = _; rw [hb]
      have hn : ¬ n < 128 := by rw [Bool.eq_false_iff, ne_eq, Nat.blt_eq] at hb; exact hb
      have hd : n / 128 < 128 ^ (f + 1) := by
        rw [Nat.div_lt_iff_lt_mul (by decide), ← Nat.pow_succ]; exact h
      obtain ⟨i1, i2, i3⟩ := mRf_ok f (n / 128) hd
      have ed : ∀ j, n / 128 / 128 ^ j = n / 128 ^ (j + 1) := fun j => by rw [Nat.div_div_eq_div_mul, Nat.pow_succ, Nat.mul_comm]
      rw [e]
      refine ⟨by omega, fun j hj => ?_, ?_⟩
      · cases j with
        | zero => show 128 ≤ n / 1; rw [Nat.div_one]; omega
        | succ j => rw [← ed]; exact i2 j (by omega)
      · rw [← ed]; exact i3
theorem mR_ok {n : Nat} (h : n < 9223372036854775808) : mR n ≤ 10 ∧ (∀ j, j < mR n → 128 ≤ n / 128 ^ j) ∧ n / 128 ^ mR n < 128 := mRf_ok 10 n (Nat.lt_of_lt_of_le h (by decide))
theorem le_dec {x : Nat} (h : decide ((128 : Int) ≤ Int.ofNat x) = true) : 128 ≤ x := by
  have := of_decide_eq_true h
  simp at this; omega
theorem lt_dec {x : Nat} (h : decide ((128 : Int) ≤ Int.ofNat x) = false) : x < 128 := by
  have := of_decide_eq_false h
  simp at this; omega
theorem div_s (n j : Nat) : n / 128 ^ j / 128 = n / 128 ^ (j + 1) := by rw [Nat.div_div_eq_div_mul, Nat.pow_succ]
noncomputable def wI (n k : Nat) (g : Nat → Int) (j : Nat) : List (Nat × AV) × List (Option AObj) := ([(0, .p 0 0), (1, .i .i64 (Int.ofNat (n / 128 ^ j)))], [some (wO (k + j)), some (shO 2 (k + j)), some (.rows 5 1 (k + j) (Cl.iF (gW g k n)))])
theorem lpC (n k : Nat) (g : Nat → Int) (hn : n < 9223372036854775808) (hk : k ≤ 1073741000) (s : Nat) (hs : s ≤ mR n) :
    LDoes Tryd.prog (loopAt Tryd.prog 78 0) 21 2 (mkT (wI n k g s).1) (wI n k g s).2 (.exit 0) (mkT [(0, .p 0 0), (1, .i .i64 (Int.ofNat (lst n)))]) [some (wO (k + mR n)), some (shO 2 (k + mR n)), some (.rows 5 1 (k + mR n) (Cl.iF (gW g k n)))] := by
  obtain ⟨m10, mge, mlt⟩ := mR_ok hn
  refine loop_indV (D := Nat) (l' := [(0, .p 0 0), (1, .i .i64 (Int.ofNat (lst n)))]) (wI n k g) (fun j => mR n - j) (fun j => j ≤ mR n) ?_ s hs
  intro j hj
  refine ⟨by simp [wI], 1000000, ?_⟩
  refine ⟨_, (wR_vc (n / 128 ^ j) (k + j) (gW g k n) _).mpr ⟨fun h0 => ?_, fun h0 => ?_⟩⟩
  · have hlt : j < mR n := by
      rcases Nat.lt_or_ge j (mR n) with q | q
      · exact q
      · have : j = mR n := by omega
        subst this
        have := le_dec h0
        omega
    have c := layR_con (chN (n / 128 ^ j)) (k + j) (gW g k n) (by omega)
    refine ⟨trivial, trivial, c, by decide, .inl ⟨j + 1, [0, 1, 3], [], _, _, [(0, .p 0 0), (1, .i .i64 (Int.fdiv (Int.ofNat (n / 128 ^ j)) 128))], [some (wO (k + j + 1)), some (shO 2 (k + j + 1)), some (.rows 5 1 (k + j + 1) (Cl.iF (lyB (gW g k n) (k + j) (chN (n / 128 ^ j)))))], hlt, by show mR n - (j + 1) < mR n - j; omega, rfl,
      st_is [0, 1, 3] (by kernel_rfl) rfl rfl rfl (by refine ⟨?_, ?_, ?_, ?_, ?_, ?_, trivial⟩ <;> kernel_rfl) rfl, ?_, .refl _, .refl _, .rowsW fun i z hi hz => .of ?_, trivial⟩⟩
    · rw [fdiv128, div_s]; exact .refl _
    · show CV.i .u8 (bif Nat.blt i (k + j) then gW g k n i else chN (n / 128 ^ j)) = CV.i .u8 (gW g k n i)
      by_cases q : i < k + j
      · rw [show Nat.blt i (k + j) = true by rw [Nat.blt_eq]; exact q]; rfl
      · have : i = k + j := by have hi : i < k + j + 1 := hi; omega
        subst this
        rw [show Nat.blt (k + j) (k + j) = false by rw [Bool.eq_false_iff, ne_eq, Nat.blt_eq]; omega]
        unfold gW
        rw [show Nat.blt (k + j) k = false by rw [Bool.eq_false_iff, ne_eq, Nat.blt_eq]; omega, Nat.add_sub_cancel_left]
        rfl
  · have : j = mR n := by
      have h0 := lt_dec h0
      rcases Nat.lt_or_ge j (mR n) with q | q
      · have := mge j q
        omega
      · omega
    subst this
    exact .inr ⟨[0, 1, 2], [], _, _, [(0, .p 0 0), (1, .i .i64 (Int.ofNat (n / 128 ^ mR n)))], [some (wO (k + mR n)), some (shO 2 (k + mR n)), some (.rows 5 1 (k + mR n) (Cl.iF (gW g k n)))], rfl, by simp,
      st_is [0, 1, 2] (by kernel_rfl) rfl rfl rfl (by refine ⟨?_, ?_, ?_, ?_, ?_, ?_, trivial⟩ <;> kernel_rfl) rfl, .refl _, .refl _⟩
theorem wnA_vc (n : Nat) (K : Res → Orc → Prop) : runK Tryd.prog 1000000 (.call 78 [.p 0 0, .i .i64 (Int.ofNat n)] (mkH [some w0O])) (Orc.c (Orc.lop [0] [0, 1] 1 (XO.exit 0) [(0, AV.p 0 0), (1, AV.i .i64 (Int.ofNat (lst n)))] [some (wO (mR n)), some (shO 2 (mR n)), some (AObj.rows 5 1 (mR n) (iF (fW n)))] (Orc.cal [0, 1, 2] (AV.tup []) [Upd.set (wO (mR n + 1)), Upd.set (shO 3 (mR n + 1)), Upd.gone, Upd.set (AObj.rows 5 1 (mR n + 1) (iF (lyB (fW n) (mR n) (wrapA .u8 (Int.ofNat (lst n))))))] Orc.z))) K = (True ∧ LDoes Tryd.prog (loopAt Tryd.prog 78 0) 21 1 (mkT [(0, AV.p 0 0), (1, AV.i .i64 (if 0 > Int.ofNat n then 0 else Int.ofNat n))]) [some w0O] (XO.exit 0) (mkT [(0, AV.p 0 0), (1, AV.i .i64 (Int.ofNat (lst n)))]) [some (wO (mR n)), some (shO 2 (mR n)), some (AObj.rows 5 1 (mR n) (iF (fW n)))] ∧ True ∧ Con Tryd.prog 97 [AV.p 0 0, AV.i .u8 (wrapA .u8 (Int.ofNat (lst n)))] [some (wO (mR
  n)), some (shO 2 (mR n)), some (AObj.rows 5 1 (mR n) (iF (fW n)))] (AV.tup []) [Upd.set (wO (mR n + 1)), Upd.set (shO 3 (mR n + 1)), Upd.gone, Upd.set (AObj.rows 5 1 (mR n + 1) (iF (lyB (fW n) (mR n) (wrapA .u8 (Int.ofNat (lst n))))))] ∧ K (Res.rv (AV.tup []) ⟨z1 (AObj.cells 140 2 [AV.p0, AV.i .i64 0] (z1 (AV.p 1 0) (zl (AV.i .i64 (Int.ofNat (mR n + 1)))) T.e)) (z1 (AObj.cells 157 1 [] (zl (AV.lr 3 1 0 (mR n + 1) false))) (zl (AObj.rows 5 1 (mR n + 1) (iF (lyB (fW n) (mR n) (wrapA .u8 (Int.ofNat (lst n))))))) T.e) (z0 T.e T.e), 4, [3, 2, 1, 0, 2, 1, 0]⟩) Orc.z) := by kernel_rfl
theorem wnB_vc (n : Nat) (K : Res → Orc → Prop) : runK Tryd.prog 1000000 (.call 78 [.p 0 0, .i .i64 (Int.ofNat n)] (mkH [some w0O])) (Orc.c (Orc.lop [0] [0, 1] 1 (XO.exit 0) [(0, AV.p 0 0), (1, AV.i .i64 (if 0 > Int.ofNat n then 0 else Int.ofNat n))] [some w0O] (Orc.cal [0] (AV.tup []) [Upd.set (wO 1), Upd.set (shO 2 1), Upd.set (AObj.rows 5 1 1 (iF fun x => wrapA .u8 (if 0 > Int.ofNat n then 0 else Int.ofNat n)))] Orc.z))) K = (True ∧ LDoes Tryd.prog (loopAt Tryd.prog 78 0) 21 1 (mkT [(0, AV.p 0 0), (1, AV.i .i64 (if 0 > Int.ofNat n then 0 else Int.ofNat n))]) [some w0O] (XO.exit 0) (mkT [(0, AV.p 0 0), (1, AV.i .i64 (if 0 > Int.ofNat n then 0 else Int.ofNat n))]) [some w0O] ∧ True ∧ Con Tryd.prog 97 [AV.p 0 0, AV.i .u8 (wrapA .u8 (if 0 > Int.ofNat n then 0 else Int.ofNat n))] [some w0O] (AV.tup []) [Upd.set (wO 1), Upd.set (shO 2 1), Upd.set (AObj.rows 5 1 1 (iF fun x => wrapA .u8 (if
  0 > Int.ofNat n then 0 else Int.ofNat n)))] ∧ K (Res.rv (AV.tup []) ⟨z1 (AObj.cells 140 2 [AV.p0, AV.i .i64 0] (z1 (AV.p 1 0) (zl (AV.i .i64 1)) T.e)) (zl (AObj.cells 157 1 [] (zl (AV.lr 2 1 0 1 false)))) (zl (AObj.rows 5 1 1 (iF fun x => wrapA .u8 (if 0 > Int.ofNat n then 0 else Int.ofNat n)))), 3, [2, 1, 0, 0]⟩) Orc.z) := by kernel_rfl
theorem wnC_vc (n k : Nat) (g : Nat → Int) (K : Res → Orc → Prop) : runK Tryd.prog 1000000 (.call 78 [.p 0 0, .i .i64 (Int.ofNat n)] (mkH [some (wO k), some (shO 2 k), some (.rows 5 1 k (Cl.iF g))])) (Orc.c (Orc.lop [0, 1, 2] [0, 1] 2 (XO.exit 0) [(0, AV.p 0 0), (1, AV.i .i64 (Int.ofNat (lst n)))] [some (wO (k + mR n)), some (shO 2 (k + mR n)), some (AObj.rows 5 1 (k + mR n) (iF (gW g k n)))] (Orc.cal [0, 1, 3] (AV.tup []) [Upd.set (wO (k + mR n + 1)), Upd.set (shO 3 (k + mR n + 1)), Upd.gone, Upd.set (AObj.rows 5 1 (k + mR n + 1) (iF (lyB (gW g k n) (k + mR n) (wrapA .u8 (Int.ofNat (lst n))))))] Orc.z))) K = (True ∧ LDoes Tryd.prog (loopAt Tryd.prog 78 0) 21 2 (mkT [(0, AV.p 0 0), (1, AV.i .i64 (if 0 > Int.ofNat n then 0 else Int.ofNat n))]) [some (wO k), some (shO 2 k), some (AObj.rows 5 1 k (iF g))] (XO.exit 0) (mkT [(0, AV.p 0 0), (1, AV.i .i64 (Int.ofNat (lst n)))]) [some (wO (k +
  mR n)), some (shO 2 (k + mR n)), some (AObj.rows 5 1 (k + mR n) (iF (gW g k n)))] ∧ True ∧ Con Tryd.prog 97 [AV.p 0 0, AV.i .u8 (wrapA .u8 (Int.ofNat (lst n)))] [some (wO (k + mR n)), some (shO 2 (k + mR n)), some (AObj.rows 5 1 (k + mR n) (iF (gW g k n)))] (AV.tup []) [Upd.set (wO (k + mR n + 1)), Upd.set (shO 3 (k + mR n + 1)), Upd.gone, Upd.set (AObj.rows 5 1 (k + mR n + 1) (iF (lyB (gW g k n) (k + mR n) (wrapA .u8 (Int.ofNat (lst n))))))] ∧ K (Res.rv (AV.tup []) ⟨z1 (AObj.cells 140 2 [AV.p0, AV.i .i64 0] (z1 (AV.p 1 0) (zl (AV.i .i64 (Int.ofNat (k + mR n + 1)))) T.e)) (z1 (AObj.cells 157 1 [] (zl (AV.lr 4 1 0 (k + mR n + 1) false))) (z0 T.e T.e) T.e) (z0 (zl (AObj.rows 5 1 (k + mR n + 1) (iF (lyB (gW g k n) (k + mR n) (wrapA .u8 (Int.ofNat (lst n))))))) T.e), 5, [4, 3, 1, 0, 3, 2, 1, 0]⟩) Orc.z) := by kernel_rfl
noncomputable def aI (n : Nat) : Nat → List (Nat × AV) × List (Option AObj)
  | 0 => ([(0, .p 0 0), (1, .i .i64 (Int.ofNat n))], [some w0O])
  | j + 1 => ([(0, .p 0 0), (1, .i .i64 (Int.ofNat (n / 128 ^ (j + 1))))], [some (wO (j + 1)), some (shO 2 (j + 1)), some (.rows 5 1 (j + 1) (Cl.iF (fW n)))])
theorem lpA (n : Nat) (hn : n < 9223372036854775808) (h128 : 128 ≤ n) :
    LDoes Tryd.prog (loopAt Tryd.prog 78 0) 21 1 (mkT [(0, .p 0 0), (1, .i .i64 (Int.ofNat n))]) [some w0O] (.exit 0) (mkT [(0, .p 0 0), (1, .i .i64 (Int.ofNat (lst n)))]) [some (wO (mR n)), some (shO 2 (mR n)), some (.rows 5 1 (mR n) (Cl.iF (fW n)))] := by
  obtain ⟨m10, mge, mlt⟩ := mR_ok hn
  have m1 : 1 ≤ mR n := by
    rcases Nat.eq_zero_or_pos (mR n) with q | q
    · rw [q] at mlt
      have : n / 128 ^ 0 = n := Nat.div_one n
      omega
    · exact q
  refine loop_indV (D := Nat) (l' := [(0, .p 0 0), (1, .i .i64 (Int.ofNat (lst n)))]) (aI n) (fun j => mR n - j) (fun j => j ≤ mR n) ?_ 0 (Nat.zero_le _)
  intro j hj
  cases j with
  | zero =>
    refine ⟨by simp [aI], 1000000, _, (w0_vc n _).mpr ⟨fun _ => ⟨trivial, trivial, lay0_con (chN n), by decide, ?_⟩, fun h0 => absurd (lt_dec h0) (by omega)⟩⟩
    refine .inl ⟨1, [0, 1, 2], [], _, _, [(0, .p 0 0), (1, .i .i64 (Int.fdiv (Int.ofNat n) 128))], [some (wO 1), some (shO 2 1), some (.rows 5 1 1 (Cl.iF fun _ => chN n))], m1, by show mR n - 1 < mR n - 0; omega, rfl,
      st_is [0, 1, 2] (by kernel_rfl) rfl rfl rfl (by refine ⟨?_, ?_, ?_, ?_, ?_, ?_, trivial⟩ <;> kernel_rfl) rfl, ?_, .refl _, .refl _, .rowsW fun i z hi hz => .of ?_, trivial⟩
    · rw [fdiv128]
      show TVL _ [(0, .p 0 0), (1, .i .i64 (Int.ofNat (n / 128 ^ 1)))]
      rw [Nat.pow_one]; exact .refl _
    · have : i = 0 := by omega
      subst this
      show CV.i .u8 (chN n) = CV.i .u8 (chN (n / 128 ^ 0))
      rw [show n / 128 ^ 0 = n from Nat.div_one n]
  | succ j =>
    refine ⟨by simp [aI], 1000000, _, (wR_vc (n / 128 ^ (j + 1)) (j + 1) (fW n) _).mpr ⟨fun h0 => ?_, fun h0 => ?_⟩⟩
    · have hlt : j + 1 < mR n := by
        rcases Nat.lt_or_ge (j + 1) (mR n) with q | q
        · exact q
        · have : j + 1 = mR n := by omega
          rw [this] at h0
          have := le_dec h0
          omega
      have c := layR_con (chN (n / 128 ^ (j + 1))) (j + 1) (fW n) (by omega)
      refine ⟨trivial, trivial, c, by decide, .inl ⟨j + 1 + 1, [0, 1, 3], [], _, _, [(0, .p 0 0), (1, .i .i64 (Int.fdiv (Int.ofNat (n / 128 ^ (j + 1))) 128))], [some (wO (j + 1 + 1)), some (shO 2 (j + 1 + 1)), some (.rows 5 1 (j + 1 + 1) (Cl.iF (lyB (fW n) (j + 1) (chN (n / 128 ^ (j + 1))))))], hlt, by show mR n - (j + 1 + 1) < mR n - (j + 1); omega, rfl,
        st_is [0, 1, 3] (by kernel_rfl) rfl rfl rfl (by refine ⟨?_, ?_, ?_, ?_, ?_, ?_, trivial⟩ <;> kernel_rfl) rfl, ?_, .refl _, .refl _, .rowsW fun i z hi hz => .of ?_, trivial⟩⟩
      · rw [fdiv128, div_s]; exact .refl _
      · show CV.i .u8 (bif Nat.blt i (j + 1) then fW n i else chN (n / 128 ^ (j + 1))) = CV.i .u8 (fW n i)
        by_cases q : i < j + 1
        · rw [show Nat.blt i (j + 1) = true by rw [Nat.blt_eq]; exact q]; rfl
        · have : i = j + 1 := by have hi : i < j + 1 + 1 := hi; omega
          subst this
          rw [show Nat.blt (j + 1) (j + 1) = false by rw [Bool.eq_false_iff, ne_eq, Nat.blt_eq]; omega]; rfl
    · have e : j + 1 = mR n := by
        have h0 := lt_dec h0
        rcases Nat.lt_or_ge (j + 1) (mR n) with q | q
        · have := mge (j + 1) q
          omega
        · omega
      refine .inr ⟨[0, 1, 2], [], _, _, [(0, .p 0 0), (1, .i .i64 (Int.ofNat (n / 128 ^ (j + 1))))], [some (wO (j + 1)), some (shO 2 (j + 1)), some (.rows 5 1 (j + 1) (Cl.iF (fW n)))], rfl, by simp,
        st_is [0, 1, 2] (by kernel_rfl) rfl rfl rfl (by refine ⟨?_, ?_, ?_, ?_, ?_, ?_, trivial⟩ <;> kernel_rfl) rfl, ?_, ?_⟩
      · unfold lst; rw [e]; exact .refl _
      · rw [e]; exact .refl _
theorem lpB (n : Nat) (h : n < 128) (x : Int) (hx : x = Int.ofNat n) : LDoes Tryd.prog (loopAt Tryd.prog 78 0) 21 1 (mkT [(0, .p 0 0), (1, .i .i64 x)]) [some w0O] (.exit 0) (mkT [(0, .p 0 0), (1, .i .i64 x)]) [some w0O] := by
  subst hx
  refine loop_indV (D := Unit) (l' := [(0, .p 0 0), (1, .i .i64 (Int.ofNat n))]) (fun _ => ([(0, .p 0 0), (1, .i .i64 (Int.ofNat n))], [some w0O])) (fun _ => 0) (fun _ => True) ?_ () trivial
  intro _ _
  exact ⟨by simp, 1000000, _, (w0_vc n _).mpr ⟨fun h0 => absurd (le_dec h0) (by omega), fun _ => .inr ⟨[0], [], _, _, [(0, .p 0 0), (1, .i .i64 (Int.ofNat n))], [some w0O], rfl, by simp, st_k [0] (by kernel_rfl), .refl _, .refl _⟩⟩⟩
noncomputable def wl (n : Nat) : Nat := mR n + 1
noncomputable def wB (n : Nat) : Nat → Int := fun i => bif Nat.blt i (mR n) then chN (n / 128 ^ i) else Int.ofNat (lst n)
noncomputable def wG (g : Nat → Int) (k n : Nat) : Nat → Int := fun i => bif Nat.blt i k then g i else wB n (i - k)
theorem max0 (n : Nat) : (if (0 : Int) > Int.ofNat n then (0 : Int) else Int.ofNat n) = Int.ofNat n := if_neg (by simp)
theorem u8_lo {n : Nat} (h : n < 256) : wrapA IntKind.u8 (Int.ofNat n) = Int.ofNat n := by
  show Int.ofNat (n % 256) = _
  rw [Nat.mod_eq_of_lt h]
theorem wnum0_con (n : Nat) (hn : n < 9223372036854775808) : Con Tryd.prog 78 [.p 0 0, .i .i64 (Int.ofNat n)] [some w0O] (.tup []) [.set (wO (wl n)), .set (shO 2 (wl n)), .set (.rows 5 1 (wl n) (Cl.iF (wB n)))] := by
  obtain ⟨m10, mge, mlt⟩ := mR_ok hn
  by_cases h128 : n < 128
  · have e0 : mR n = 0 := by
      rcases Nat.eq_zero_or_pos (mR n) with q | q
      · exact q
      · have := mge 0 q
        have e : n / 128 ^ 0 = n := Nat.div_one n
        omega
    have k : Con Tryd.prog 78 [.p 0 0, .i .i64 (Int.ofNat n)] [some w0O] (.tup []) [.set (wO 1), .set (shO 2 1), .set (.rows 5 1 1 (Cl.iF fun _ => wrapA IntKind.u8 (if (0 : Int) > Int.ofNat n then (0 : Int) else Int.ofNat n)))] :=
      con_of_run [] [1, 2] ((wnB_vc n _).mpr ⟨trivial, lpB n h128 _ (max0 n), trivial, lay0_con _, _, _, rfl, ret_is (by kernel_rfl) rfl (by kernel_rfl) (by kernel_rfl) rfl (by refine ⟨?_, ?_, ?_, ?_, ?_, ?_, trivial⟩ <;> kernel_rfl)⟩)
    unfold wl
    rw [e0]
    refine k.post (.refl _) ⟨.refl _, .refl _, .rowsW fun i j hi hj => .of ?_, trivial⟩
    have : i = 0 := by omega
    subst this
    show CV.i .u8 (wrapA IntKind.u8 (if (0 : Int) > Int.ofNat n then (0 : Int) else Int.ofNat n)) = CV.i .u8 (bif Nat.blt 0 (mR n) then chN (n / 128 ^ 0) else Int.ofNat (n / 128 ^ mR n))
    rw [e0, max0, u8_lo (by omega), show n / 128 ^ 0 = n from Nat.div_one n]; rfl
  · have lp := lpA n hn (by omega)
    rw [← max0 n] at lp
    have k : Con Tryd.prog 78 [.p 0 0, .i .i64 (Int.ofNat n)] [some w0O] (.tup []) [.set (wO (mR n + 1)), .set (shO 2 (mR n + 1)), .set (.rows 5 1 (mR n + 1) (Cl.iF (lyB (fW n) (mR n) (wrapA IntKind.u8 (Int.ofNat (lst n))))))] :=
      con_of_run [] [1, 3] ((wnA_vc n _).mpr ⟨trivial, lp, trivial, layR_con _ _ _ (by omega), _, _, rfl, ret_is (by kernel_rfl) rfl (by kernel_rfl) (by kernel_rfl) rfl (by refine ⟨?_, ?_, ?_, ?_, ?_, ?_, trivial⟩ <;> kernel_rfl)⟩)
    refine k.post (.refl _) ⟨.refl _, .refl _, .rowsW fun i j hi hj => .of ?_, trivial⟩
    show CV.i .u8 (bif Nat.blt i (mR n) then fW n i else wrapA IntKind.u8 (Int.ofNat (lst n))) = CV.i .u8 (bif Nat.blt i (mR n) then chN (n / 128 ^ i) else Int.ofNat (lst n))
    rw [u8_lo (show lst n < 256 by unfold lst; omega)]; rfl
theorem wnumR_con (n k : Nat) (g : Nat → Int) (hn : n < 9223372036854775808) (hk : k ≤ 1073741000) : Con Tryd.prog 78 [.p 0 0, .i .i64 (Int.ofNat n)] [some (wO k), some (shO 2 k), some (.rows 5 1 k (Cl.iF g))] (.tup [])
    [.set (wO (k + wl n)), .set (shO 3 (k + wl n)), .gone, .set (.rows 5 1 (k + wl n) (Cl.iF (wG g k n)))] := by
  obtain ⟨m10, mge, mlt⟩ := mR_ok hn
  have lp0 : LDoes Tryd.prog (loopAt Tryd.prog 78 0) 21 2 (mkT [(0, .p 0 0), (1, .i .i64 (Int.ofNat n))]) [some (wO k), some (shO 2 k), some (.rows 5 1 k (Cl.iF g))] (.exit 0) (mkT [(0, .p 0 0), (1, .i .i64 (Int.ofNat (lst n)))]) [some (wO (k + mR n)), some (shO 2 (k + mR n)), some (.rows 5 1 (k + mR n) (Cl.iF (gW g k n)))] := by
    have h := lpC n k g hn hk 0 (Nat.zero_le _)
    unfold wI at h
    rw [show n / 128 ^ 0 = n from Nat.div_one n] at h
    refine h.ovl ⟨.refl _, .refl _, .rowsW fun i j hi hj => .of ?_, trivial⟩
    show CV.i .u8 (g i) = CV.i .u8 (bif Nat.blt i k then g i else chN (n / 128 ^ (i - k)))
    rw [show Nat.blt i k = true by rw [Nat.blt_eq]; exact hi]; rfl
  have lp := lp0
  rw [← max0 n] at lp
  have q : Con Tryd.prog 78 [.p 0 0, .i .i64 (Int.ofNat n)] [some (wO k), some (shO 2 k), some (.rows 5 1 k (Cl.iF g))] (.tup [])
      [.set (wO (k + mR n + 1)), .set (shO 3 (k + mR n + 1)), .gone, .set (.rows 5 1 (k + mR n + 1) (Cl.iF (lyB (gW g k n) (k + mR n) (wrapA IntKind.u8 (Int.ofNat (lst n))))))] :=
    con_of_run [] [4] ((wnC_vc n k g _).mpr ⟨trivial, lp, trivial, layR_con _ _ _ (by omega), _, _, rfl, ret_is (by kernel_rfl) rfl (by kernel_rfl) (by kernel_rfl) rfl (by refine ⟨?_, ?_, ?_, ?_, ?_, ?_, trivial⟩ <;> kernel_rfl)⟩)
  refine q.post (.refl _) ⟨.refl _, .refl _, .refl _, .rowsW fun i j hi hj => .of ?_, trivial⟩
  show CV.i .u8 (bif Nat.blt i (k + mR n) then (bif Nat.blt i k then g i else chN (n / 128 ^ (i - k))) else wrapA IntKind.u8 (Int.ofNat (lst n))) = CV.i .u8 (bif Nat.blt i k then g i else (bif Nat.blt (i - k) (mR n) then chN (n / 128 ^ (i - k)) else Int.ofNat (lst n)))
  rw [u8_lo (show lst n < 256 by unfold lst; omega)]
  by_cases h1 : i < k
  · rw [show Nat.blt i k = true by rw [Nat.blt_eq]; exact h1, show Nat.blt i (k + mR n) = true by rw [Nat.blt_eq]; omega]; rfl
  · rw [show Nat.blt i k = false by rw [Bool.eq_false_iff, ne_eq, Nat.blt_eq]; exact h1]
    by_cases h2 : i < k + mR n
    · rw [show Nat.blt i (k + mR n) = true by rw [Nat.blt_eq]; exact h2, show Nat.blt (i - k) (mR n) = true by rw [Nat.blt_eq]; omega]; rfl
    · rw [show Nat.blt i (k + mR n) = false by rw [Bool.eq_false_iff, ne_eq, Nat.blt_eq]; exact h2, show Nat.blt (i - k) (mR n) = false by rw [Bool.eq_false_iff, ne_eq, Nat.blt_eq]; omega]; rfl
theorem cloneSI_vc (m : Nat) (g : Nat → Int) (K : Res → Orc → Prop) : runK Tryd.prog 1000000 (.call 98 [.sv 1 (m + 1) (Cl.iF g)] (mkH [])) (Orc.c (Orc.s Orc.z Orc.z)) K = (True ∧ ((1 = 1 ∧ 0 + (m + 1) ≤ m + 1) ∧ True ∧ True ∧ 0 + (m + 1) ≤ 140737488355328 ∧ (3 * (0 + (m + 1)) + 1536) * 1 ≤ 562949953421312) ∧ K (Res.rv (AV.sv 1 (m + 1) fun k x => CV.i .u8 (g k)) ⟨z0 (z0 T.e T.e) T.e, 2, [1, 1, 0, 0]⟩) Orc.z) := by kernel_rfl
theorem wby_vc (k : Nat) (g : Nat → Int) (K : Res → Orc → Prop) : runK Tryd.prog 1000000 (.call 79 [.p 0 0] (mkH [some (wO k), some (shO 2 k), some (.rows 5 1 k (Cl.iF g))])) (oc 7 (Orc.cal [2] (AV.sv 1 k (iF g)) [Upd.gone] Orc.z)) K = (True ∧ True ∧ True ∧ True ∧ True ∧ True ∧ (True ∧ 0 ≤ Int.ofNat k ∧ 0 ≤ k ∧ k ≤ k ∧ (0 = 0 ∨ 0 < k)) ∧ Con Tryd.prog 98 [AV.lr 0 1 0 k false] [some (AObj.rows 5 1 k (iF g))] (AV.sv 1 k (iF g)) [Upd.gone] ∧ K (Res.rv (AV.sv 1 k (iF g)) ⟨z1 (AObj.cells 140 2 [AV.p0, AV.i .i64 0] (z1 (AV.p 1 0) (zl (AV.i .i64 (Int.ofNat k))) T.e)) (zl (AObj.cells 157 1 [] (zl (AV.lr 2 1 0 k false)))) (z0 T.e T.e), 3, [2]⟩) Orc.z) := by kernel_rfl
theorem blockText_vc (n : Nat) (d : List Nat) (K : Res → Orc → Prop) : runK Tryd.prog 1000000 (.call 60 [.agg [.i .i64 (Int.ofNat n), .s d]] (mkH [])) (Orc.s Orc.z (Orc.cal [1] (AV.tup []) [Upd.set (wO (wl n)), Upd.set (shO 2 (wl n)), Upd.set (AObj.rows 5 1 (wl n) (iF (wB n)))] (Orc.cal [1, 2, 3] (AV.sv 1 (wl n) (iF (wB n))) [Upd.keep, Upd.keep, Upd.gone] Orc.z))) K = (True ∧ ((decide (Int.ofNat n = 0) && (natsEq d [] && true)) = true → K (Res.rv (AV.s []) ⟨zl (AObj.cells 45 2 [] (z1 (AV.i .i64 (Int.ofNat n)) (zl (AV.s d)) T.e)), 1, [0]⟩) Orc.z) ∧ ((decide (Int.ofNat n = 0) && (natsEq d [] && true)) = false → True ∧ Con Tryd.prog 78 [AV.p 0 0, AV.i .i64 (Int.ofNat n)] [some w0O] (AV.tup []) [Upd.set (wO (wl n)), Upd.set (shO 2 (wl n)), Upd.set (AObj.rows 5 1 (wl n) (iF (wB n)))] ∧ Con Tryd.prog 79 [AV.p 0 0] [some (wO (wl n)), some (shO 2 (wl n)), some (AObj.rows 5 1 (wl n) (iF (wB n)))]
  (AV.sv 1 (wl n) (iF (wB n))) [Upd.keep, Upd.keep, Upd.gone] ∧ U8s (wl n) (iF (wB n)) ∧ True ∧ List.length (bytesF (wl n) (iF (wB n))) + List.length d ≤ 1073741824 ∧ K (Res.rv (AV.s (bytesF (wl n) (iF (wB n)) ++ d)) ⟨z1 (AObj.cells 45 2 [] (z1 (AV.i .i64 (Int.ofNat n)) (zl (AV.s d)) T.e)) (z1 (AObj.cells 140 2 [AV.p0, AV.i .i64 0] (z1 (AV.p 2 0) (zl (AV.i .i64 (Int.ofNat (wl n)))) T.e)) (z0 T.e T.e) T.e) (zl (AObj.cells 157 1 [] (zl (AV.lr 3 1 0 (wl n) false)))), 4, [3, 3, 2, 1, 1, 0]⟩) Orc.z)) := by kernel_rfl
theorem metaText_vc (a b c d e : Nat) (K : Res → Orc → Prop) : runK Tryd.prog 1000000 (.call 80 [.agg [.i .i64 (Int.ofNat a), .i .i64 (Int.ofNat b), .i .i64 (Int.ofNat c), .i .i64 (Int.ofNat d), .i .i64 (Int.ofNat e)]] (mkH [])) (Orc.s Orc.z (Orc.inl (Orc.inl (Orc.cal [1] (AV.tup []) [Upd.set (wO (wl a)), Upd.set (shO 2 (wl a)), Upd.set (AObj.rows 5 1 (wl a) (iF (wB a)))] (Orc.inl (Orc.cal [1, 2, 3] (AV.tup []) [Upd.set (wO (wl a + wl b)), Upd.set (shO 3 (wl a + wl b)), Upd.gone, Upd.set (AObj.rows 5 1 (wl a + wl b) (iF (wG (wB a) (wl a) b)))] (Orc.inl (oc 2 (Orc.inl (Orc.cal [1, 2, 4] (AV.tup []) [Upd.set (wO (wl a + wl b + wl c)), Upd.set (shO 3 (wl a + wl b + wl c)), Upd.gone, Upd.set (AObj.rows 5 1 (wl a + wl b + wl c) (iF (wG (wG (wB a) (wl a) b) (wl a + wl b) c)))] (Orc.inl (oc 2 (Orc.inl (Orc.cal [1, 2, 5] (AV.tup []) [Upd.set (wO (wl a + wl b + wl c + wl d)), Upd.set (shO 3 (wl a
  + wl b + wl c + wl d)), Upd.gone, Upd.set (AObj.rows 5 1 (wl a + wl b + wl c + wl d) (iF (wG (wG (wG (wB a) (wl a) b) (wl a + wl b) c) (wl a + wl b + wl c) d)))] (Orc.inl (oc 2 (Orc.inl (Orc.cal [1, 2, 6] (AV.tup []) [Upd.set (wO (wl a + wl b + wl c + wl d + wl e)), Upd.set (shO 3 (wl a + wl b + wl c + wl d + wl e)), Upd.gone, Upd.set (AObj.rows 5 1 (wl a + wl b + wl c + wl d + wl e) (iF (wG (wG (wG (wG (wB a) (wl a) b) (wl a + wl b) c) (wl a + wl b + wl c) d) (wl a + wl b + wl c + wl d) e)))] (Orc.inl (Orc.c (Orc.cal [1, 2, 7] (AV.sv 1 (wl a + wl b + wl c + wl d + wl e) (iF (wG (wG (wG (wG (wB a) (wl a) b) (wl a + wl b) c) (wl a + wl b + wl c) d) (wl a + wl b + wl c + wl d) e))) [Upd.keep, Upd.keep, Upd.gone] Orc.z))))))))))))))))))))) K = (True ∧ ((decide (Int.ofNat a = 0) && (decide (Int.ofNat b = 0) && (decide (Int.ofNat c = 0) && (decide (Int.ofNat d = 0) && (decide (Int.ofNat e =
  0) && true)) && true))) = true → K (Res.rv (AV.s []) ⟨zl (AObj.cells 73 5 [] (z1 (AV.i .i64 (Int.ofNat a)) (z1 (AV.i .i64 (Int.ofNat b)) (zl (AV.i .i64 (Int.ofNat d))) T.e) (z1 (AV.i .i64 (Int.ofNat c)) (zl (AV.i .i64 (Int.ofNat e))) T.e))), 1, [0]⟩) Orc.z) ∧ ((decide (Int.ofNat a = 0) && (decide (Int.ofNat b = 0) && (decide (Int.ofNat c = 0) && (decide (Int.ofNat d = 0) && (decide (Int.ofNat e = 0) && true)) && true))) = false → True ∧ Con Tryd.prog 78 [AV.p 0 0, AV.i .i64 (Int.ofNat a)] [some w0O] (AV.tup []) [Upd.set (wO (wl a)), Upd.set (shO 2 (wl a)), Upd.set (AObj.rows 5 1 (wl a) (iF (wB a)))] ∧ True ∧ Con Tryd.prog 78 [AV.p 0 0, AV.i .i64 (Int.ofNat b)] [some (wO (wl a)), some (shO 2 (wl a)), some (AObj.rows 5 1 (wl a) (iF (wB a)))] (AV.tup []) [Upd.set (wO (wl a + wl b)), Upd.set (shO 3 (wl a + wl b)), Upd.gone, Upd.set (AObj.rows 5 1 (wl a + wl b) (iF (wG (wB a) (wl a) b)))] ∧
  True ∧ Con Tryd.prog 78 [AV.p 0 0, AV.i .i64 (Int.ofNat c)] [some (wO (wl a + wl b)), some (shO 2 (wl a + wl b)), some (AObj.rows 5 1 (wl a + wl b) (iF (wG (wB a) (wl a) b)))] (AV.tup []) [Upd.set (wO (wl a + wl b + wl c)), Upd.set (shO 3 (wl a + wl b + wl c)), Upd.gone, Upd.set (AObj.rows 5 1 (wl a + wl b + wl c) (iF (wG (wG (wB a) (wl a) b) (wl a + wl b) c)))] ∧ ((-9223372036854775808 : Int) ≤ (1 : Int) ∧ (1 : Int) ≤ (9223372036854775807 : Int)) ∧ True ∧ Con Tryd.prog 78 [AV.p 0 0, AV.i .i64 (Int.ofNat d)] [some (wO (wl a + wl b + wl c)), some (shO 2 (wl a + wl b + wl c)), some (AObj.rows 5 1 (wl a + wl b + wl c) (iF (wG (wG (wB a) (wl a) b) (wl a + wl b) c)))] (AV.tup []) [Upd.set (wO (wl a + wl b + wl c + wl d)), Upd.set (shO 3 (wl a + wl b + wl c + wl d)), Upd.gone, Upd.set (AObj.rows 5 1 (wl a + wl b + wl c + wl d) (iF (wG (wG (wG (wB a) (wl a) b) (wl a + wl b) c) (wl a + wl b +
  wl c) d)))] ∧ ((-9223372036854775808 : Int) ≤ (2 : Int) ∧ (2 : Int) ≤ (9223372036854775807 : Int)) ∧ True ∧ Con Tryd.prog 78 [AV.p 0 0, AV.i .i64 (Int.ofNat e)] [some (wO (wl a + wl b + wl c + wl d)), some (shO 2 (wl a + wl b + wl c + wl d)), some (AObj.rows 5 1 (wl a + wl b + wl c + wl d) (iF (wG (wG (wG (wB a) (wl a) b) (wl a + wl b) c) (wl a + wl b + wl c) d)))] (AV.tup []) [Upd.set (wO (wl a + wl b + wl c + wl d + wl e)), Upd.set (shO 3 (wl a + wl b + wl c + wl d + wl e)), Upd.gone, Upd.set (AObj.rows 5 1 (wl a + wl b + wl c + wl d + wl e) (iF (wG (wG (wG (wG (wB a) (wl a) b) (wl a + wl b) c) (wl a + wl b + wl c) d) (wl a + wl b + wl c + wl d) e)))] ∧ ((-9223372036854775808 : Int) ≤ (3 : Int) ∧ (3 : Int) ≤ (9223372036854775807 : Int)) ∧ Con Tryd.prog 79 [AV.p 0 0] [some (wO (wl a + wl b + wl c + wl d + wl e)), some (shO 2 (wl a + wl b + wl c + wl d + wl e)), some (AObj.rows 5 1 (wl
  a + wl b + wl c + wl d + wl e) (iF (wG (wG (wG (wG (wB a) (wl a) b) (wl a + wl b) c) (wl a + wl b + wl c) d) (wl a + wl b + wl c + wl d) e)))] (AV.sv 1 (wl a + wl b + wl c + wl d + wl e) (iF (wG (wG (wG (wG (wB a) (wl a) b) (wl a + wl b) c) (wl a + wl b + wl c) d) (wl a + wl b + wl c + wl d) e))) [Upd.keep, Upd.keep, Upd.gone] ∧ U8s (wl a + wl b + wl c + wl d + wl e) (iF (wG (wG (wG (wG (wB a) (wl a) b) (wl a + wl b) c) (wl a + wl b + wl c) d) (wl a + wl b + wl c + wl d) e)) ∧ K (Res.rv (AV.s (bytesF (wl a + wl b + wl c + wl d + wl e) (iF (wG (wG (wG (wG (wB a) (wl a) b) (wl a + wl b) c) (wl a + wl b + wl c) d) (wl a + wl b + wl c + wl d) e)))) ⟨z1 (AObj.cells 73 5 [] (z1 (AV.i .i64 (Int.ofNat a)) (z1 (AV.i .i64 (Int.ofNat b)) (zl (AV.i .i64 (Int.ofNat d))) T.e) (z1 (AV.i .i64 (Int.ofNat c)) (zl (AV.i .i64 (Int.ofNat e))) T.e))) (z1 (AObj.cells 140 2 [AV.p0, AV.i .i64 0] (z1 (AV.p 2 0)
  (zl (AV.i .i64 (Int.ofNat (wl a + wl b + wl c + wl d + wl e)))) T.e)) (z0 (z0 T.e T.e) T.e) (z0 T.e T.e)) (z1 (AObj.cells 157 1 [] (zl (AV.lr 7 1 0 (wl a + wl b + wl c + wl d + wl e) false))) (z0 T.e T.e) (z0 T.e T.e)), 8, [7, 7, 6, 2, 1, 6, 5, 2, 1, 5, 4, 2, 1, 4, 3, 2, 1, 3, 2, 1, 1, 0]⟩) Orc.z)) := by kernel_rfl
theorem cloneI_con (L : Nat) (g : Nat → Int) (hL : L ≤ 1073741824) : Con Tryd.prog 98 [.sv 1 L (Cl.iF g)] [] (.sv 1 L (Cl.iF g)) [] := by
  cases L with
  | succ m => exact con_of_run [] [] ((cloneSI_vc m g _).mpr ⟨trivial, ⟨⟨rfl, by omega⟩, trivial, trivial, by omega, by omega⟩, _, _, rfl, ret_k (by kernel_rfl)⟩)
  | zero =>
    have k := cloneB_con 0 (fun _ => 0) (by decide)
    exact (k.pre (pargs' := [.sv 1 0 (Cl.iF g)]) ⟨.sv fun i j hi => absurd hi (Nat.not_lt_zero i), trivial⟩).post (.sv fun i j hi => absurd hi (Nat.not_lt_zero i)) trivial
theorem cloneLI_con (L : Nat) (g : Nat → Int) (hL : L ≤ 1073741824) : Con Tryd.prog 98 [.lr 0 1 0 L false] [some (.rows 5 1 L (Cl.iF g))] (.sv 1 L (Cl.iF g)) [.gone] :=
  ((cloneI_con L g hL).slot rfl (by kernel_rfl) (by kernel_rfl)).thaw (us0 := [.gone]) 0 (e := 5) (sz := 1) (n := L) (f := Cl.iF g) rfl ⟨rfl, trivial⟩ ⟨.inr ⟨by kernel_rfl, ⟨rfl, by omega⟩, rfl⟩, trivial⟩ rfl
theorem wby_con (k : Nat) (g : Nat → Int) (hk : k ≤ 1073741824) : Con Tryd.prog 79 [.p 0 0] [some (wO k), some (shO 2 k), some (.rows 5 1 k (Cl.iF g))] (.sv 1 k (Cl.iF g)) [.keep, .keep, .gone] := by
  refine con_of_run [] [] ((wby_vc k g _).mpr ?_)
  have c := cloneLI_con k g hk
  repeat' first | exact trivial | assumption | exact Nat.zero_le _ | exact Nat.le_refl _ | exact .inl rfl | (simp; done) | apply And.intro | exact ⟨_, _, rfl, ret_is (by kernel_rfl) rfl (by kernel_rfl) (by kernel_rfl) rfl (by refine ⟨?_, ?_, ?_, ?_, trivial⟩ <;> kernel_rfl)⟩
theorem wl_le {n : Nat} (hn : n < 9223372036854775808) : wl n ≤ 11 := by
  have := (mR_ok hn).1
  unfold wl; omega
theorem wB_nn {n : Nat} (i : Nat) : ∃ m : Nat, wB n i = Int.ofNat m := by
  unfold wB
  cases Nat.blt i (mR n) with
  | true => exact ⟨_, chN_eq _⟩
  | false => exact ⟨_, rfl⟩
theorem wG_nn {g : Nat → Int} {k n : Nat} (h : ∀ i, ∃ m : Nat, g i = Int.ofNat m) (i : Nat) : ∃ m : Nat, wG g k n i = Int.ofNat m := by
  unfold wG
  cases Nat.blt i k with
  | true => exact h i
  | false => exact wB_nn _
theorem iF_u8 {L : Nat} {g : Nat → Int} (h : ∀ i, ∃ m : Nat, g i = Int.ofNat m) : U8s L (Cl.iF g) := fun i hi => by
  obtain ⟨m, e⟩ := h i
  exact ⟨m, by show CV.i .u8 (g i) = _; rw [e]⟩
theorem bytesF_len (L : Nat) (f : Nat → Nat → CV) : (bytesF L f).length = L := by
  unfold bytesF
  simp
noncomputable def btx (n : Nat) (d : List Nat) : List Nat := bif decide (Int.ofNat n = (0 : Int)) && (natsEq d [] && true) then [] else bytesF (wl n) (Cl.iF (wB n)) ++ d
theorem blockText_con (n : Nat) (d : List Nat) (hn : n < 9223372036854775808) (hd : d.length ≤ 1000000) : Con Tryd.prog 60 [.agg [.i .i64 (Int.ofNat n), .s d]] [] (.s (btx n d)) [] := by
  have hw := wl_le hn
  cases h : (decide (Int.ofNat n = (0 : Int)) && (natsEq d [] && true)) with
  | true =>
    have e : btx n d = [] := by unfold btx; rw [h]; rfl
    rw [e]
    exact con_plain rfl ((blockText_vc n d _).mpr ⟨trivial, fun _ => ⟨_, _, rfl, rfl⟩, fun h' => (by rw [h] at h'; cases h')⟩)
  | false =>
    have e : btx n d = bytesF (wl n) (Cl.iF (wB n)) ++ d := by unfold btx; rw [h]; rfl
    rw [e]
    exact con_plain rfl ((blockText_vc n d _).mpr ⟨trivial, fun h' => (by rw [h] at h'; cases h'), fun _ => ⟨trivial, wnum0_con n hn, wby_con _ _ (by omega), iF_u8 fun i => wB_nn i, trivial, by rw [bytesF_len]; omega, _, _, rfl, rfl⟩⟩)
structure RdS where
  L : Nat
  b : Nat → Nat
  e : Int
noncomputable def RdS.next (r : RdS) : RdS := match decide (r.e = 0) with
  | true => ⟨r.L - nmz r.b r.L, shB (nmz r.b r.L) r.b, Int.ofNat (nme r.b r.L)⟩
  | false => r
noncomputable def RdS.val (r : RdS) : Nat := match decide (r.e = 0) with
  | true => nmv r.b r.L
  | false => 0
noncomputable def rS (t : List Nat) : Nat → RdS
  | 0 => ⟨t.length, tB t, 0⟩
  | j + 1 => (rS t j).next
noncomputable def rv (t : List Nat) (j : Nat) : Nat := (rS t j).val
noncomputable def rL (t : List Nat) (j : Nat) : Nat := (rS t j).L
noncomputable def rb (t : List Nat) (j : Nat) : Nat → Nat := (rS t j).b
noncomputable def re (t : List Nat) (j : Nat) : Int := (rS t j).e
theorem RdS.next_lt {r : RdS} (h : ∀ k, r.b k < 256) : ∀ k, r.next.b k < 256 := fun k => by
  unfold RdS.next
  cases decide (r.e = 0) with
  | true => exact h _
  | false => exact h k
theorem rS_lt {t : List Nat} (ht : ∀ x ∈ t, x < 256) : ∀ j k, (rS t j).b k < 256
  | 0, k => tB_lt ht k
  | j + 1, k => RdS.next_lt (rS_lt ht j) k
theorem rdN_con (r : RdS) (h : ∀ k, r.b k < 256) : Con Tryd.prog 82 [.p 0 0] [some (rdO r.L r.b r.e)] (.i .i64 (Int.ofNat r.val)) [.set (rdO r.next.L r.next.b r.next.e)] := by
  obtain ⟨L, b, e⟩ := r
  cases hd : decide (e = 0) with
  | true =>
    obtain rfl : e = 0 := of_decide_eq_true hd
    exact rdNum_con L b h
  | false =>
    have he : e ≠ 0 := of_decide_eq_false hd
    have e1 : RdS.val ⟨L, b, e⟩ = 0 := by show (match decide (e = 0) with | true => nmv b L | false => 0) = 0; rw [hd]
    have e2 : RdS.next ⟨L, b, e⟩ = ⟨L, b, e⟩ := by
      show (match decide (e = 0) with | true => _ | false => (⟨L, b, e⟩ : RdS)) = _
      rw [hd]
    rw [e1, e2]
    exact (rdNumE_con L b e he).oeq (OEqL.refl _) (OEqL.refl _)
theorem metaOf_vc (t : List Nat) (K : Res → Orc → Prop) : runK Tryd.prog 1000000 (.call 68 [.s t] (mkH [])) (Orc.s (Orc.cal [1] (AV.p 1 0) [Upd.gone, Upd.set (rdO (List.length t) (tB t) 0)] (Orc.inl (Orc.inl (Orc.cal [2] (AV.i .i64 (Int.ofNat (rv t 0))) [Upd.set (rdO (rL t 1) (rb t 1) (re t 1))] (Orc.inl (Orc.cal [2] (AV.i .i64 (Int.ofNat (rv t 1))) [Upd.set (rdO (rL t 2) (rb t 2) (re t 2))] (Orc.inl (oc 2 (Orc.inl (Orc.cal [2] (AV.i .i64 (Int.ofNat (rv t 2))) [Upd.set (rdO (rL t 3) (rb t 3) (re t 3))] (Orc.inl (oc 2 (Orc.inl (Orc.cal [2] (AV.i .i64 (Int.ofNat (rv t 3))) [Upd.set (rdO (rL t 4) (rb t 4) (re t 4))] (Orc.inl (oc 2 (Orc.inl (Orc.cal [2] (AV.i .i64 (Int.ofNat (rv t 4))) [Upd.set (rdO (rL t 5) (rb t 5) (re t 5))] (Orc.inl (Orc.c (Orc.inl (Orc.c (Orc.s (Orc.t (Orc.inl (Orc.c (Orc.t (Orc.f (Orc.s (Orc.t (Orc.f (Orc.s Orc.z Orc.z))) (Orc.f (Orc.t (Orc.c Orc.z))))))))) (Orc.f
  (Orc.f (Orc.t (oc 4 Orc.z))))))))))))))))))))))))))) Orc.z) K = (True ∧ Con Tryd.prog 81 [AV.lr 0 1 0 (List.length t) false] [some (AObj.rows 5 1 (List.length t) fun i x => CV.i .u8 (Int.ofNat (List.getD t i 0)))] (AV.p 1 0) [Upd.gone, Upd.set (rdO (List.length t) (tB t) 0)] ∧ True ∧ Con Tryd.prog 82 [AV.p 0 0] [some (rdO (List.length t) (tB t) 0)] (AV.i .i64 (Int.ofNat (rv t 0))) [Upd.set (rdO (rL t 1) (rb t 1) (re t 1))] ∧ True ∧ Con Tryd.prog 82 [AV.p 0 0] [some (rdO (rL t 1) (rb t 1) (re t 1))] (AV.i .i64 (Int.ofNat (rv t 1))) [Upd.set (rdO (rL t 2) (rb t 2) (re t 2))] ∧ True ∧ Con Tryd.prog 82 [AV.p 0 0] [some (rdO (rL t 2) (rb t 2) (re t 2))] (AV.i .i64 (Int.ofNat (rv t 2))) [Upd.set (rdO (rL t 3) (rb t 3) (re t 3))] ∧ ((-9223372036854775808 : Int) ≤ (1 : Int) ∧ (1 : Int) ≤ (9223372036854775807 : Int)) ∧ True ∧ Con Tryd.prog 82 [AV.p 0 0] [some (rdO (rL t 3) (rb t 3) (re t 3))]
  (AV.i .i64 (Int.ofNat (rv t 3))) [Upd.set (rdO (rL t 4) (rb t 4) (re t 4))] ∧ ((-9223372036854775808 : Int) ≤ (2 : Int) ∧ (2 : Int) ≤ (9223372036854775807 : Int)) ∧ True ∧ Con Tryd.prog 82 [AV.p 0 0] [some (rdO (rL t 4) (rb t 4) (re t 4))] (AV.i .i64 (Int.ofNat (rv t 4))) [Upd.set (rdO (rL t 5) (rb t 5) (re t 5))] ∧ ((-9223372036854775808 : Int) ≤ (3 : Int) ∧ (3 : Int) ≤ (9223372036854775807 : Int)) ∧ True ∧ True ∧ ((!!decide (re t 5 = 0)) = true → (!!decide (re t 5 = 0)) = true ∧ True ∧ True ∧ (!!decide (re t 5 = 0)) = true ∧ (!decide (re t 5 = 0)) = false ∧ ((!decide (0 < Int.ofNat (rL t 5))) = true → (!decide (0 < Int.ofNat (rL t 5))) = true ∧ decide (0 < Int.ofNat (rL t 5)) = false ∧ (decide (1099511627776 < if Int.ofNat (rv t 4) > if Int.ofNat (rv t 3) > if Int.ofNat (rv t 2) > if Int.ofNat (rv t 1) > if Int.ofNat (rv t 0) > 0 then Int.ofNat (rv t 0) else 0 then Int.ofNat (rv t 1)
  else if Int.ofNat (rv t 0) > 0 then Int.ofNat (rv t 0) else 0 then Int.ofNat (rv t 2) else if Int.ofNat (rv t 1) > if Int.ofNat (rv t 0) > 0 then Int.ofNat (rv t 0) else 0 then Int.ofNat (rv t 1) else if Int.ofNat (rv t 0) > 0 then Int.ofNat (rv t 0) else 0 then Int.ofNat (rv t 3) else if Int.ofNat (rv t 2) > if Int.ofNat (rv t 1) > if Int.ofNat (rv t 0) > 0 then Int.ofNat (rv t 0) else 0 then Int.ofNat (rv t 1) else if Int.ofNat (rv t 0) > 0 then Int.ofNat (rv t 0) else 0 then Int.ofNat (rv t 2) else if Int.ofNat (rv t 1) > if Int.ofNat (rv t 0) > 0 then Int.ofNat (rv t 0) else 0 then Int.ofNat (rv t 1) else if Int.ofNat (rv t 0) > 0 then Int.ofNat (rv t 0) else 0 then Int.ofNat (rv t 4) else if Int.ofNat (rv t 3) > if Int.ofNat (rv t 2) > if Int.ofNat (rv t 1) > if Int.ofNat (rv t 0) > 0 then Int.ofNat (rv t 0) else 0 then Int.ofNat (rv t 1) else if Int.ofNat (rv t 0) > 0 then
  Int.ofNat (rv t 0) else 0 then Int.ofNat (rv t 2) else if Int.ofNat (rv t 1) > if Int.ofNat (rv t 0) > 0 then Int.ofNat (rv t 0) else 0 then Int.ofNat (rv t 1) else if Int.ofNat (rv t 0) > 0 then Int.ofNat (rv t 0) else 0 then Int.ofNat (rv t 3) else if Int.ofNat (rv t 2) > if Int.ofNat (rv t 1) > if Int.ofNat (rv t 0) > 0 then Int.ofNat (rv t 0) else 0 then Int.ofNat (rv t 1) else if Int.ofNat (rv t 0) > 0 then Int.ofNat (rv t 0) else 0 then Int.ofNat (rv t 2) else if Int.ofNat (rv t 1) > if Int.ofNat (rv t 0) > 0 then Int.ofNat (rv t 0) else 0 then Int.ofNat (rv t 1) else if Int.ofNat (rv t 0) > 0 then Int.ofNat (rv t 0) else 0) = true → K (Res.rv (AV.agg [AV.i .i64 0, AV.i .i64 0, AV.i .i64 0, AV.i .i64 0, AV.i .i64 0]) ⟨z1 (AObj.cells 73 5 [AV.i .i64 0, AV.i .i64 0, AV.i .i64 0, AV.i .i64 0, AV.i .i64 0] (z1 (AV.i .i64 0) (z1 (AV.i .i64 0) (zl (AV.i .i64 0)) T.e) (z1 (AV.i .i64 0)
  (zl (AV.i .i64 0)) T.e))) (z0 (zl (AObj.cells 142 1 [AV.p0] (zl (AV.p 2 0)))) (zl (AObj.cells 3 1 [AV.i .i64 0] (zl (AV.i .i64 (if Int.ofNat (rv t 4) > if Int.ofNat (rv t 3) > if Int.ofNat (rv t 2) > if Int.ofNat (rv t 1) > if Int.ofNat (rv t 0) > 0 then Int.ofNat (rv t 0) else 0 then Int.ofNat (rv t 1) else if Int.ofNat (rv t 0) > 0 then Int.ofNat (rv t 0) else 0 then Int.ofNat (rv t 2) else if Int.ofNat (rv t 1) > if Int.ofNat (rv t 0) > 0 then Int.ofNat (rv t 0) else 0 then Int.ofNat (rv t 1) else if Int.ofNat (rv t 0) > 0 then Int.ofNat (rv t 0) else 0 then Int.ofNat (rv t 3) else if Int.ofNat (rv t 2) > if Int.ofNat (rv t 1) > if Int.ofNat (rv t 0) > 0 then Int.ofNat (rv t 0) else 0 then Int.ofNat (rv t 1) else if Int.ofNat (rv t 0) > 0 then Int.ofNat (rv t 0) else 0 then Int.ofNat (rv t 2) else if Int.ofNat (rv t 1) > if Int.ofNat (rv t 0) > 0 then Int.ofNat (rv t 0) else 0 then
  Int.ofNat (rv t 1) else if Int.ofNat (rv t 0) > 0 then Int.ofNat (rv t 0) else 0 then Int.ofNat (rv t 4) else if Int.ofNat (rv t 3) > if Int.ofNat (rv t 2) > if Int.ofNat (rv t 1) > if Int.ofNat (rv t 0) > 0 then Int.ofNat (rv t 0) else 0 then Int.ofNat (rv t 1) else if Int.ofNat (rv t 0) > 0 then Int.ofNat (rv t 0) else 0 then Int.ofNat (rv t 2) else if Int.ofNat (rv t 1) > if Int.ofNat (rv t 0) > 0 then Int.ofNat (rv t 0) else 0 then Int.ofNat (rv t 1) else if Int.ofNat (rv t 0) > 0 then Int.ofNat (rv t 0) else 0 then Int.ofNat (rv t 3) else if Int.ofNat (rv t 2) > if Int.ofNat (rv t 1) > if Int.ofNat (rv t 0) > 0 then Int.ofNat (rv t 0) else 0 then Int.ofNat (rv t 1) else if Int.ofNat (rv t 0) > 0 then Int.ofNat (rv t 0) else 0 then Int.ofNat (rv t 2) else if Int.ofNat (rv t 1) > if Int.ofNat (rv t 0) > 0 then Int.ofNat (rv t 0) else 0 then Int.ofNat (rv t 1) else if Int.ofNat (rv t
  0) > 0 then Int.ofNat (rv t 0) else 0)))))) (z1 (AObj.cells 159 2 [] (z1 (AV.sv 1 (rL t 5) (byF (rb t 5))) (zl (AV.i .i64 (re t 5))) T.e)) (zl (AObj.cells 73 5 [AV.i .i64 0, AV.i .i64 0, AV.i .i64 0, AV.i .i64 0, AV.i .i64 0] (z1 (AV.i .i64 (Int.ofNat (rv t 0))) (z1 (AV.i .i64 (Int.ofNat (rv t 1))) (zl (AV.i .i64 (Int.ofNat (rv t 3)))) T.e) (z1 (AV.i .i64 (Int.ofNat (rv t 2))) (zl (AV.i .i64 (Int.ofNat (rv t 4)))) T.e)))) T.e), 6, [0, 5, 4, 2, 5, 4, 2, 5, 4, 2, 5, 4, 2, 5, 4, 2, 5, 4, 5, 4, 3, 3, 2, 1, 1, 0]⟩) Orc.z) ∧ (decide (1099511627776 < if Int.ofNat (rv t 4) > if Int.ofNat (rv t 3) > if Int.ofNat (rv t 2) > if Int.ofNat (rv t 1) > if Int.ofNat (rv t 0) > 0 then Int.ofNat (rv t 0) else 0 then Int.ofNat (rv t 1) else if Int.ofNat (rv t 0) > 0 then Int.ofNat (rv t 0) else 0 then Int.ofNat (rv t 2) else if Int.ofNat (rv t 1) > if Int.ofNat (rv t 0) > 0 then Int.ofNat (rv t 0) else 0
  then Int.ofNat (rv t 1) else if Int.ofNat (rv t 0) > 0 then Int.ofNat (rv t 0) else 0 then Int.ofNat (rv t 3) else if Int.ofNat (rv t 2) > if Int.ofNat (rv t 1) > if Int.ofNat (rv t 0) > 0 then Int.ofNat (rv t 0) else 0 then Int.ofNat (rv t 1) else if Int.ofNat (rv t 0) > 0 then Int.ofNat (rv t 0) else 0 then Int.ofNat (rv t 2) else if Int.ofNat (rv t 1) > if Int.ofNat (rv t 0) > 0 then Int.ofNat (rv t 0) else 0 then Int.ofNat (rv t 1) else if Int.ofNat (rv t 0) > 0 then Int.ofNat (rv t 0) else 0 then Int.ofNat (rv t 4) else if Int.ofNat (rv t 3) > if Int.ofNat (rv t 2) > if Int.ofNat (rv t 1) > if Int.ofNat (rv t 0) > 0 then Int.ofNat (rv t 0) else 0 then Int.ofNat (rv t 1) else if Int.ofNat (rv t 0) > 0 then Int.ofNat (rv t 0) else 0 then Int.ofNat (rv t 2) else if Int.ofNat (rv t 1) > if Int.ofNat (rv t 0) > 0 then Int.ofNat (rv t 0) else 0 then Int.ofNat (rv t 1) else if Int.ofNat
  (rv t 0) > 0 then Int.ofNat (rv t 0) else 0 then Int.ofNat (rv t 3) else if Int.ofNat (rv t 2) > if Int.ofNat (rv t 1) > if Int.ofNat (rv t 0) > 0 then Int.ofNat (rv t 0) else 0 then Int.ofNat (rv t 1) else if Int.ofNat (rv t 0) > 0 then Int.ofNat (rv t 0) else 0 then Int.ofNat (rv t 2) else if Int.ofNat (rv t 1) > if Int.ofNat (rv t 0) > 0 then Int.ofNat (rv t 0) else 0 then Int.ofNat (rv t 1) else if Int.ofNat (rv t 0) > 0 then Int.ofNat (rv t 0) else 0) = false → K (Res.rv (AV.agg [AV.i .i64 (Int.ofNat (rv t 0)), AV.i .i64 (Int.ofNat (rv t 1)), AV.i .i64 (Int.ofNat (rv t 2)), AV.i .i64 (Int.ofNat (rv t 3)), AV.i .i64 (Int.ofNat (rv t 4))]) ⟨z1 (AObj.cells 73 5 [AV.i .i64 0, AV.i .i64 0, AV.i .i64 0, AV.i .i64 0, AV.i .i64 0] (z1 (AV.i .i64 (Int.ofNat (rv t 0))) (z1 (AV.i .i64 (Int.ofNat (rv t 1))) (zl (AV.i .i64 (Int.ofNat (rv t 3)))) T.e) (z1 (AV.i .i64 (Int.ofNat (rv t 2))) (zl
  (AV.i .i64 (Int.ofNat (rv t 4)))) T.e))) (z0 (zl (AObj.cells 142 1 [AV.p0] (zl (AV.p 2 0)))) (zl (AObj.cells 3 1 [AV.i .i64 0] (zl (AV.i .i64 (if Int.ofNat (rv t 4) > if Int.ofNat (rv t 3) > if Int.ofNat (rv t 2) > if Int.ofNat (rv t 1) > if Int.ofNat (rv t 0) > 0 then Int.ofNat (rv t 0) else 0 then Int.ofNat (rv t 1) else if Int.ofNat (rv t 0) > 0 then Int.ofNat (rv t 0) else 0 then Int.ofNat (rv t 2) else if Int.ofNat (rv t 1) > if Int.ofNat (rv t 0) > 0 then Int.ofNat (rv t 0) else 0 then Int.ofNat (rv t 1) else if Int.ofNat (rv t 0) > 0 then Int.ofNat (rv t 0) else 0 then Int.ofNat (rv t 3) else if Int.ofNat (rv t 2) > if Int.ofNat (rv t 1) > if Int.ofNat (rv t 0) > 0 then Int.ofNat (rv t 0) else 0 then Int.ofNat (rv t 1) else if Int.ofNat (rv t 0) > 0 then Int.ofNat (rv t 0) else 0 then Int.ofNat (rv t 2) else if Int.ofNat (rv t 1) > if Int.ofNat (rv t 0) > 0 then Int.ofNat (rv t
  0) else 0 then Int.ofNat (rv t 1) else if Int.ofNat (rv t 0) > 0 then Int.ofNat (rv t 0) else 0 then Int.ofNat (rv t 4) else if Int.ofNat (rv t 3) > if Int.ofNat (rv t 2) > if Int.ofNat (rv t 1) > if Int.ofNat (rv t 0) > 0 then Int.ofNat (rv t 0) else 0 then Int.ofNat (rv t 1) else if Int.ofNat (rv t 0) > 0 then Int.ofNat (rv t 0) else 0 then Int.ofNat (rv t 2) else if Int.ofNat (rv t 1) > if Int.ofNat (rv t 0) > 0 then Int.ofNat (rv t 0) else 0 then Int.ofNat (rv t 1) else if Int.ofNat (rv t 0) > 0 then Int.ofNat (rv t 0) else 0 then Int.ofNat (rv t 3) else if Int.ofNat (rv t 2) > if Int.ofNat (rv t 1) > if Int.ofNat (rv t 0) > 0 then Int.ofNat (rv t 0) else 0 then Int.ofNat (rv t 1) else if Int.ofNat (rv t 0) > 0 then Int.ofNat (rv t 0) else 0 then Int.ofNat (rv t 2) else if Int.ofNat (rv t 1) > if Int.ofNat (rv t 0) > 0 then Int.ofNat (rv t 0) else 0 then Int.ofNat (rv t 1) else if
  Int.ofNat (rv t 0) > 0 then Int.ofNat (rv t 0) else 0)))))) (z1 (AObj.cells 159 2 [] (z1 (AV.sv 1 (rL t 5) (byF (rb t 5))) (zl (AV.i .i64 (re t 5))) T.e)) (zl (AObj.cells 73 5 [AV.i .i64 0, AV.i .i64 0, AV.i .i64 0, AV.i .i64 0, AV.i .i64 0] (z1 (AV.i .i64 (Int.ofNat (rv t 0))) (z1 (AV.i .i64 (Int.ofNat (rv t 1))) (zl (AV.i .i64 (Int.ofNat (rv t 3)))) T.e) (z1 (AV.i .i64 (Int.ofNat (rv t 2))) (zl (AV.i .i64 (Int.ofNat (rv t 4)))) T.e)))) T.e), 6, [0, 5, 4, 2, 5, 4, 2, 5, 4, 2, 5, 4, 2, 5, 4, 2, 5, 4, 5, 4, 3, 3, 2, 1, 1, 0]⟩) Orc.z)) ∧ ((!decide (0 < Int.ofNat (rL t 5))) = false → (!decide (0 < Int.ofNat (rL t 5))) = false ∧ decide (0 < Int.ofNat (rL t 5)) = true ∧ K (Res.rv (AV.agg [AV.i .i64 0, AV.i .i64 0, AV.i .i64 0, AV.i .i64 0, AV.i .i64 0]) ⟨z1 (AObj.cells 73 5 [AV.i .i64 0, AV.i .i64 0, AV.i .i64 0, AV.i .i64 0, AV.i .i64 0] (z1 (AV.i .i64 0) (z1 (AV.i .i64 0) (zl (AV.i .i64
  0)) T.e) (z1 (AV.i .i64 0) (zl (AV.i .i64 0)) T.e))) (z0 (zl (AObj.cells 142 1 [AV.p0] (zl (AV.p 2 0)))) (zl (AObj.cells 3 1 [AV.i .i64 0] (zl (AV.i .i64 (if Int.ofNat (rv t 4) > if Int.ofNat (rv t 3) > if Int.ofNat (rv t 2) > if Int.ofNat (rv t 1) > if Int.ofNat (rv t 0) > 0 then Int.ofNat (rv t 0) else 0 then Int.ofNat (rv t 1) else if Int.ofNat (rv t 0) > 0 then Int.ofNat (rv t 0) else 0 then Int.ofNat (rv t 2) else if Int.ofNat (rv t 1) > if Int.ofNat (rv t 0) > 0 then Int.ofNat (rv t 0) else 0 then Int.ofNat (rv t 1) else if Int.ofNat (rv t 0) > 0 then Int.ofNat (rv t 0) else 0 then Int.ofNat (rv t 3) else if Int.ofNat (rv t 2) > if Int.ofNat (rv t 1) > if Int.ofNat (rv t 0) > 0 then Int.ofNat (rv t 0) else 0 then Int.ofNat (rv t 1) else if Int.ofNat (rv t 0) > 0 then Int.ofNat (rv t 0) else 0 then Int.ofNat (rv t 2) else if Int.ofNat (rv t 1) > if Int.ofNat (rv t 0) > 0 then
  Int.ofNat (rv t 0) else 0 then Int.ofNat (rv t 1) else if Int.ofNat (rv t 0) > 0 then Int.ofNat (rv t 0) else 0 then Int.ofNat (rv t 4) else if Int.ofNat (rv t 3) > if Int.ofNat (rv t 2) > if Int.ofNat (rv t 1) > if Int.ofNat (rv t 0) > 0 then Int.ofNat (rv t 0) else 0 then Int.ofNat (rv t 1) else if Int.ofNat (rv t 0) > 0 then Int.ofNat (rv t 0) else 0 then Int.ofNat (rv t 2) else if Int.ofNat (rv t 1) > if Int.ofNat (rv t 0) > 0 then Int.ofNat (rv t 0) else 0 then Int.ofNat (rv t 1) else if Int.ofNat (rv t 0) > 0 then Int.ofNat (rv t 0) else 0 then Int.ofNat (rv t 3) else if Int.ofNat (rv t 2) > if Int.ofNat (rv t 1) > if Int.ofNat (rv t 0) > 0 then Int.ofNat (rv t 0) else 0 then Int.ofNat (rv t 1) else if Int.ofNat (rv t 0) > 0 then Int.ofNat (rv t 0) else 0 then Int.ofNat (rv t 2) else if Int.ofNat (rv t 1) > if Int.ofNat (rv t 0) > 0 then Int.ofNat (rv t 0) else 0 then Int.ofNat
  (rv t 1) else if Int.ofNat (rv t 0) > 0 then Int.ofNat (rv t 0) else 0)))))) (z1 (AObj.cells 159 2 [] (z1 (AV.sv 1 (rL t 5) (byF (rb t 5))) (zl (AV.i .i64 (re t 5))) T.e)) (zl (AObj.cells 73 5 [AV.i .i64 0, AV.i .i64 0, AV.i .i64 0, AV.i .i64 0, AV.i .i64 0] (z1 (AV.i .i64 (Int.ofNat (rv t 0))) (z1 (AV.i .i64 (Int.ofNat (rv t 1))) (zl (AV.i .i64 (Int.ofNat (rv t 3)))) T.e) (z1 (AV.i .i64 (Int.ofNat (rv t 2))) (zl (AV.i .i64 (Int.ofNat (rv t 4)))) T.e)))) T.e), 6, [0, 5, 4, 2, 5, 4, 2, 5, 4, 2, 5, 4, 2, 5, 4, 2, 5, 4, 5, 4, 3, 3, 2, 1, 1, 0]⟩) Orc.z)) ∧ ((!!decide (re t 5 = 0)) = false → (!!decide (re t 5 = 0)) = false ∧ (!!decide (re t 5 = 0)) = false ∧ (!decide (re t 5 = 0)) = true ∧ K (Res.rv (AV.agg [AV.i .i64 0, AV.i .i64 0, AV.i .i64 0, AV.i .i64 0, AV.i .i64 0]) ⟨z1 (AObj.cells 73 5 [AV.i .i64 0, AV.i .i64 0, AV.i .i64 0, AV.i .i64 0, AV.i .i64 0] (z1 (AV.i .i64 0) (z1 (AV.i .i64
  0) (zl (AV.i .i64 0)) T.e) (z1 (AV.i .i64 0) (zl (AV.i .i64 0)) T.e))) (z0 (zl (AObj.cells 142 1 [AV.p0] (zl (AV.p 2 0)))) (zl (AObj.cells 3 1 [AV.i .i64 0] (zl (AV.i .i64 (if Int.ofNat (rv t 4) > if Int.ofNat (rv t 3) > if Int.ofNat (rv t 2) > if Int.ofNat (rv t 1) > if Int.ofNat (rv t 0) > 0 then Int.ofNat (rv t 0) else 0 then Int.ofNat (rv t 1) else if Int.ofNat (rv t 0) > 0 then Int.ofNat (rv t 0) else 0 then Int.ofNat (rv t 2) else if Int.ofNat (rv t 1) > if Int.ofNat (rv t 0) > 0 then Int.ofNat (rv t 0) else 0 then Int.ofNat (rv t 1) else if Int.ofNat (rv t 0) > 0 then Int.ofNat (rv t 0) else 0 then Int.ofNat (rv t 3) else if Int.ofNat (rv t 2) > if Int.ofNat (rv t 1) > if Int.ofNat (rv t 0) > 0 then Int.ofNat (rv t 0) else 0 then Int.ofNat (rv t 1) else if Int.ofNat (rv t 0) > 0 then Int.ofNat (rv t 0) else 0 then Int.ofNat (rv t 2) else if Int.ofNat (rv t 1) > if Int.ofNat (rv t
  0) > 0 then Int.ofNat (rv t 0) else 0 then Int.ofNat (rv t 1) else if Int.ofNat (rv t 0) > 0 then Int.ofNat (rv t 0) else 0 then Int.ofNat (rv t 4) else if Int.ofNat (rv t 3) > if Int.ofNat (rv t 2) > if Int.ofNat (rv t 1) > if Int.ofNat (rv t 0) > 0 then Int.ofNat (rv t 0) else 0 then Int.ofNat (rv t 1) else if Int.ofNat (rv t 0) > 0 then Int.ofNat (rv t 0) else 0 then Int.ofNat (rv t 2) else if Int.ofNat (rv t 1) > if Int.ofNat (rv t 0) > 0 then Int.ofNat (rv t 0) else 0 then Int.ofNat (rv t 1) else if Int.ofNat (rv t 0) > 0 then Int.ofNat (rv t 0) else 0 then Int.ofNat (rv t 3) else if Int.ofNat (rv t 2) > if Int.ofNat (rv t 1) > if Int.ofNat (rv t 0) > 0 then Int.ofNat (rv t 0) else 0 then Int.ofNat (rv t 1) else if Int.ofNat (rv t 0) > 0 then Int.ofNat (rv t 0) else 0 then Int.ofNat (rv t 2) else if Int.ofNat (rv t 1) > if Int.ofNat (rv t 0) > 0 then Int.ofNat (rv t 0) else 0 then
  Int.ofNat (rv t 1) else if Int.ofNat (rv t 0) > 0 then Int.ofNat (rv t 0) else 0)))))) (z1 (AObj.cells 159 2 [] (z1 (AV.sv 1 (rL t 5) (byF (rb t 5))) (zl (AV.i .i64 (re t 5))) T.e)) (zl (AObj.cells 73 5 [AV.i .i64 0, AV.i .i64 0, AV.i .i64 0, AV.i .i64 0, AV.i .i64 0] (z1 (AV.i .i64 (Int.ofNat (rv t 0))) (z1 (AV.i .i64 (Int.ofNat (rv t 1))) (zl (AV.i .i64 (Int.ofNat (rv t 3)))) T.e) (z1 (AV.i .i64 (Int.ofNat (rv t 2))) (zl (AV.i .i64 (Int.ofNat (rv t 4)))) T.e)))) T.e), 6, [0, 5, 4, 2, 5, 4, 2, 5, 4, 2, 5, 4, 2, 5, 4, 2, 5, 4, 5, 4, 3, 3, 2, 1, 1, 0]⟩) Orc.z)) := by kernel_rfl
noncomputable def mx (a b : Int) : Int := if a > b then a else b
noncomputable def grt (t : List Nat) : Int := mx (Int.ofNat (rv t 4)) (mx (Int.ofNat (rv t 3)) (mx (Int.ofNat (rv t 2)) (mx (Int.ofNat (rv t 1)) (mx (Int.ofNat (rv t 0)) 0))))
noncomputable def okMt (t : List Nat) : Bool := decide (re t 5 = 0) && (!decide ((0 : Int) < Int.ofNat (rL t 5)) && !decide ((1099511627776 : Int) < grt t))
noncomputable def mtV (t : List Nat) (j : Nat) : Nat := bif okMt t then rv t j else 0
theorem metaOf_con (t : List Nat) (ht : ∀ x ∈ t, x < 256) (hL : t.length ≤ 1073741824) :
    Con Tryd.prog 68 [.s t] [] (.agg [.i .i64 (Int.ofNat (mtV t 0)), .i .i64 (Int.ofNat (mtV t 1)), .i .i64 (Int.ofNat (mtV t 2)), .i .i64 (Int.ofNat (mtV t 3)), .i .i64 (Int.ofNat (mtV t 4))]) [] := by
  have c0 : Con Tryd.prog 81 [.lr 0 1 0 t.length false] [some (.rows 5 1 t.length fun i _ => .i .u8 (Int.ofNat (t.getD i 0)))] (.p 1 0) [.gone, .set (rdO t.length (tB t) 0)] := newRL_con t.length (tB t) hL
  have c : ∀ j, Con Tryd.prog 82 [.p 0 0] [some (rdO (rL t j) (rb t j) (re t j))] (.i .i64 (Int.ofNat (rv t j))) [.set (rdO (rL t (j + 1)) (rb t (j + 1)) (re t (j + 1)))] := fun j => rdN_con (rS t j) (rS_lt ht j)
  have c1 : Con Tryd.prog 82 [.p 0 0] [some (rdO t.length (tB t) 0)] (.i .i64 (Int.ofNat (rv t 0))) [.set (rdO (rL t 1) (rb t 1) (re t 1))] := c 0
  have c2 := c 1; have c3 := c 2; have c4 := c 3; have c5 := c 4
  have one : (-9223372036854775808 : Int) ≤ 1 ∧ (1 : Int) ≤ 9223372036854775807 := by decide
  have two : (-9223372036854775808 : Int) ≤ 2 ∧ (2 : Int) ≤ 9223372036854775807 := by decide
  have three : (-9223372036854775808 : Int) ≤ 3 ∧ (3 : Int) ≤ 9223372036854775807 := by decide
  have no : okMt t = false → Con Tryd.prog 68 [.s t] [] (.agg [.i .i64 0, .i .i64 0, .i .i64 0, .i .i64 0, .i .i64 0]) [] →
      Con Tryd.prog 68 [.s t] [] (.agg [.i .i64 (Int.ofNat (mtV t 0)), .i .i64 (Int.ofNat (mtV t 1)), .i .i64 (Int.ofNat (mtV t 2)), .i .i64 (Int.ofNat (mtV t 3)), .i .i64 (Int.ofNat (mtV t 4))]) [] := fun h k => by
    have e : ∀ j, mtV t j = 0 := fun j => by unfold mtV; rw [h]; rfl
    rw [e, e, e, e, e]; exact k
  cases hE : decide (re t 5 = 0) with
  | false =>
    have dE : (!!decide (re t 5 = 0)) = false := by rw [hE]; rfl
    have dE2 : (!decide (re t 5 = 0)) = true := by rw [hE]; rfl
    refine no (by unfold okMt; rw [hE]; rfl) (con_plain rfl ((metaOf_vc t _).mpr ?_))
    repeat' first | exact trivial | assumption | apply And.intro | exact fun h => absurd (dE.symm.trans h) (by decide) | exact fun _ => ⟨dE, dE, dE2, _, _, rfl, rfl⟩ | (refine fun _ => ?_)
    all_goals exact ⟨_, _, rfl, rfl⟩
  | true =>
    have dE : (!!decide (re t 5 = 0)) = true := by rw [hE]; rfl
    have dE2 : (!decide (re t 5 = 0)) = false := by rw [hE]; rfl
    cases hl : decide ((0 : Int) < Int.ofNat (rL t 5)) with
    | true =>
      have dl : (!decide ((0 : Int) < Int.ofNat (rL t 5))) = false := by rw [hl]; rfl
      refine no (by unfold okMt; rw [hE, hl]; rfl) (con_plain rfl ((metaOf_vc t _).mpr ?_))
      repeat' first | exact trivial | assumption | apply And.intro | exact fun h => absurd (dE.symm.trans h) (by decide) | exact fun h => absurd (dl.symm.trans h) (by decide) | exact ⟨_, _, rfl, rfl⟩ | (refine fun _ => ?_)
    | false =>
      have dl : (!decide ((0 : Int) < Int.ofNat (rL t 5))) = true := by rw [hl]; rfl
      cases hg : decide ((1099511627776 : Int) < grt t) with
      | true =>
        refine no (by unfold okMt; rw [hE, hl, hg]; rfl) (con_plain rfl ((metaOf_vc t _).mpr ?_))
        repeat' first | exact trivial | assumption | apply And.intro | exact fun h => absurd (dE.symm.trans h) (by decide) | exact fun h => absurd (dl.symm.trans h) (by decide) | exact fun h => absurd ((show decide ((1099511627776 : Int) < grt t) = true from hg).symm.trans h) (by decide) | exact ⟨_, _, rfl, rfl⟩ | (refine fun _ => ?_)
      | false =>
        have ok : okMt t = true := by unfold okMt; rw [hE, hl, hg]; rfl
        have e : ∀ j, mtV t j = rv t j := fun j => by unfold mtV; rw [ok]; rfl
        rw [e, e, e, e, e]
        refine con_plain rfl ((metaOf_vc t _).mpr ?_)
        repeat' first | exact trivial | assumption | apply And.intro | exact fun h => absurd (dE.symm.trans h) (by decide) | exact fun h => absurd (dl.symm.trans h) (by decide) | exact fun h => absurd ((show decide ((1099511627776 : Int) < grt t) = false from hg).symm.trans h) (by decide) | exact ⟨_, _, rfl, rfl⟩ | (refine fun _ => ?_)
noncomputable def mtx (a b c d e : Nat) : List Nat :=
  bif decide (Int.ofNat a = (0 : Int)) && (decide (Int.ofNat b = (0 : Int)) && (decide (Int.ofNat c = (0 : Int)) && (decide (Int.ofNat d = (0 : Int)) && (decide (Int.ofNat e = (0 : Int)) && true)) && true)) then []
  else bytesF (wl a + wl b + wl c + wl d + wl e) (Cl.iF (wG (wG (wG (wG (wB a) (wl a) b) (wl a + wl b) c) (wl a + wl b + wl c) d) (wl a + wl b + wl c + wl d) e))
theorem metaText_con (a b c d e : Nat) (ha : a < 9223372036854775808) (hb : b < 9223372036854775808) (hc : c < 9223372036854775808) (hd : d < 9223372036854775808) (he : e < 9223372036854775808) :
    Con Tryd.prog 80 [.agg [.i .i64 (Int.ofNat a), .i .i64 (Int.ofNat b), .i .i64 (Int.ofNat c), .i .i64 (Int.ofNat d), .i .i64 (Int.ofNat e)]] [] (.s (mtx a b c d e)) [] := by
  have wa := wl_le ha; have wb := wl_le hb; have wc := wl_le hc; have wd := wl_le hd; have we := wl_le he
  cases h : (decide (Int.ofNat a = (0 : Int)) && (decide (Int.ofNat b = (0 : Int)) && (decide (Int.ofNat c = (0 : Int)) && (decide (Int.ofNat d = (0 : Int)) && (decide (Int.ofNat e = (0 : Int)) && true)) && true))) with
  | true =>
    have ex : mtx a b c d e = [] := by unfold mtx; rw [h]; rfl
    rw [ex]
    exact con_plain rfl ((metaText_vc a b c d e _).mpr ⟨trivial, fun _ => ⟨_, _, rfl, rfl⟩, fun h' => (by rw [h] at h'; cases h')⟩)
  | false =>
    have ex : mtx a b c d e = bytesF (wl a + wl b + wl c + wl d + wl e) (Cl.iF (wG (wG (wG (wG (wB a) (wl a) b) (wl a + wl b) c) (wl a + wl b + wl c) d) (wl a + wl b + wl c + wl d) e)) := by unfold mtx; rw [h]; rfl
    rw [ex]
    have c1 := wnum0_con a ha
    have c2 := wnumR_con b (wl a) (wB a) hb (by omega)
    have c3 := wnumR_con c (wl a + wl b) (wG (wB a) (wl a) b) hc (by omega)
    have c4 := wnumR_con d (wl a + wl b + wl c) (wG (wG (wB a) (wl a) b) (wl a + wl b) c) hd (by omega)
    have c5 := wnumR_con e (wl a + wl b + wl c + wl d) (wG (wG (wG (wB a) (wl a) b) (wl a + wl b) c) (wl a + wl b + wl c) d) he (by omega)
    have c6 := wby_con (wl a + wl b + wl c + wl d + wl e) (wG (wG (wG (wG (wB a) (wl a) b) (wl a + wl b) c) (wl a + wl b + wl c) d) (wl a + wl b + wl c + wl d) e) (by omega)
    have u : U8s (wl a + wl b + wl c + wl d + wl e) (Cl.iF (wG (wG (wG (wG (wB a) (wl a) b) (wl a + wl b) c) (wl a + wl b + wl c) d) (wl a + wl b + wl c + wl d) e)) := iF_u8 (wG_nn (wG_nn (wG_nn (wG_nn fun i => wB_nn i))))
    have one : (-9223372036854775808 : Int) ≤ 1 ∧ (1 : Int) ≤ 9223372036854775807 := by decide
    have two : (-9223372036854775808 : Int) ≤ 2 ∧ (2 : Int) ≤ 9223372036854775807 := by decide
    have three : (-9223372036854775808 : Int) ≤ 3 ∧ (3 : Int) ≤ 9223372036854775807 := by decide
    refine con_plain rfl ((metaText_vc a b c d e _).mpr ⟨trivial, fun h' => (by rw [h] at h'; cases h'), fun _ => ?_⟩)
    repeat' first | exact trivial | assumption | apply And.intro | exact ⟨_, _, rfl, rfl⟩
theorem wB_lt {n : Nat} (hn : n < 9223372036854775808) (i : Nat) : ∃ m : Nat, m < 256 ∧ wB n i = Int.ofNat m := by
  unfold wB
  cases Nat.blt i (mR n) with
  | true => exact ⟨_, by omega, chN_eq _⟩
  | false => exact ⟨lst n, by have := (mR_ok hn).2.2; unfold lst; omega, rfl⟩
theorem wG_lt {g : Nat → Int} {k n : Nat} (hn : n < 9223372036854775808) (h : ∀ i, ∃ m : Nat, m < 256 ∧ g i = Int.ofNat m) (i : Nat) : ∃ m : Nat, m < 256 ∧ wG g k n i = Int.ofNat m := by
  unfold wG
  cases Nat.blt i k with
  | true => exact h i
  | false => exact wB_lt hn _
theorem bytes_at {L : Nat} {g : Nat → Int} (h : ∀ i, ∃ m : Nat, m < 256 ∧ g i = Int.ofNat m) {i : Nat} (hi : i < L) : ∃ m, (bytesF L (Cl.iF g))[i]? = some m ∧ Int.ofNat m = g i ∧ m < 256 := by
  obtain ⟨m, hm, e⟩ := h i
  refine ⟨m, ?_, e.symm, hm⟩
  unfold bytesF
  rw [List.getElem?_map, List.getElem?_range hi]
  show some (Go.Sim.byteOf (CV.i .u8 (g i))) = some m
  rw [e]
  show some (m % 256) = some m
  rw [Nat.mod_eq_of_lt hm]
theorem bytes_lt {L : Nat} {g : Nat → Int} (h : ∀ i, ∃ m : Nat, m < 256 ∧ g i = Int.ofNat m) : ∀ x ∈ bytesF L (Cl.iF g), x < 256 := fun x hx => by
  obtain ⟨i, hi, e⟩ := List.getElem_of_mem hx
  rw [bytesF_len] at hi
  obtain ⟨m, e1, _, hm⟩ := bytes_at h hi
  have := List.getElem?_eq_some_iff.1 e1
  obtain ⟨_, e3⟩ := this
  rw [← e, e3]; exact hm
theorem btx_lt {n : Nat} {d : List Nat} (hn : n < 9223372036854775808) (hd : ∀ x ∈ d, x < 256) : ∀ x ∈ btx n d, x < 256 := by
  unfold btx
  cases (decide (Int.ofNat n = (0 : Int)) && (natsEq d [] && true)) with
  | true => intro x hx; cases hx
  | false =>
    intro x hx
    rcases List.mem_append.1 hx with h | h
    · exact bytes_lt (fun i => wB_lt hn i) x h
    · exact hd x h
end Go.Proofs.Cl
