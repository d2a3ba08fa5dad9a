/- Runs over unknown values, told by the kernel: part ClA. -/
import Derived.Test.YtiihmkiiojlcaaaDoorCdA
set_option linter.unusedSimpArgs false
set_option linter.unusedVariables false
set_option maxRecDepth 20000
namespace Go.Proofs.Cl
open Go Go.Sim Go.Proofs Go.Proofs.Cd Go.Proofs.St Go.Proofs.YtiihmkiiojlcaaaDoor
theorem open64T_con (gg : Nat → Nat → CV) (h : IsBy 64 gg) (hb : openB gg = true) : Con Tryd.prog 52 [.sv 1 64 gg] [] (.tup [.sv 1 60 gg, .b true]) [] := by
  have k := open64_con gg h
  rw [hb] at k; exact k
theorem open64F_con (gg : Nat → Nat → CV) (h : IsBy 64 gg) (hb : openB gg = false) : Con Tryd.prog 52 [.sv 1 64 gg] [] (.tup [.l0, .b false]) [] := by
  have h4 : IsBy 4 (shiftF 60 gg) := fun k hk => h (60 + k) (by omega)
  have h6 : IsBy 60 gg := h.le (by omega)
  have hd : (!decide (Int.ofNat (four1 (bOf (shiftF 60 gg))) = Int.ofNat (sumN (bOf gg) 60))) = true := by
    show (!openB gg) = true
    rw [hb]; rfl
  exact con_of_run [] [] ((open64_vc gg _).mpr ⟨by decide, ⟨by decide, trivial, by decide, by decide⟩, ofFour_con 4 _ (by decide) h4, ⟨trivial, by decide, by decide, by decide⟩, sumf_con 60 gg (by decide) h6, fun _ => ⟨_, _, rfl, ret_k (by kernel_rfl)⟩, fun h => (by rw [hd] at h; cases h)⟩)
noncomputable def numN (b : Nat → Nat) : Nat := four1 (bOf (byF b)) + four1 (bOf (shiftF 4 (byF b))) * 4294967296
noncomputable def txtD (b : Nat → Nat) : List Nat := bytesF (b 8) (shiftF 9 (byF b))
noncomputable def restN (b : Nat → Nat) : Nat := trN (bOf (shiftF (9 + b 8) (byF b))) (60 - (9 + b 8))
noncomputable def okB (b : Nat → Nat) : Bool := openB (byF b) && (Nat.ble (b 8) 51 && (Nat.ble 1 (numN b) && (Nat.ble (numN b) 1099511627776 && Nat.beq (restN b) 0)))
noncomputable def lkQ (b : Nat → Nat) : Nat := bif okB b then numN b else 0
noncomputable def lkD (b : Nat → Nat) : List Nat := bif okB b then txtD b else []
theorem numE {x y : Nat} (hx : x < 4294967296) (hy : y < 4294967296) : wrapA IntKind.u64 ↑(BitVec.toNat (BitVec.ofInt 64 (wrapA IntKind.u64 (wrapA IntKind.u64 (Int.ofNat x) * (4294967296 : Int))) ||| BitVec.ofInt 64 (wrapA IntKind.u64 (Int.ofNat y)))) = Int.ofNat (y + x * 4294967296) := by
  have w : ∀ m, m < 18446744073709551616 → wrapA .u64 (Int.ofNat m) = Int.ofNat m := fun m hm => by
    show Int.ofNat (m % 18446744073709551616) = _
    rw [Nat.mod_eq_of_lt hm]
  have w2 : wrapA IntKind.u64 (wrapA IntKind.u64 (Int.ofNat x) * (4294967296 : Int)) = Int.ofNat (4294967296 * x) := by
    rw [w x (by omega)]
    show Int.ofNat ((x * 4294967296) % 18446744073709551616) = _
    rw [Nat.mul_comm, Nat.mod_eq_of_lt (by omega)]
  rw [w2, w y (by omega), BitVec.toNat_or, ofInt_nat, ofInt_nat, Nat.mod_eq_of_lt (by omega), Nat.mod_eq_of_lt (by omega)]
  have e : 4294967296 * x ||| y = 4294967296 * x + y := (Nat.two_pow_add_eq_or_of_lt (i := 32) hy x).symm
  rw [e]
  show wrapA .u64 (Int.ofNat _) = _
  rw [w _ (by omega)]
  congr 1
  omega
theorem toNat_of (m : Nat) : (Int.ofNat m).toNat = m := rfl
theorem standing_vc (b : Nat → Nat) (K : Res → Orc → Prop) : runK Tryd.prog 1000000 (.call 43 [.sv 1 64 (byF b)] (mkH [])) (Orc.cal [] (AV.tup [AV.sv 1 60 (byF b), AV.b true]) [] (Orc.c (Orc.s Orc.z (Orc.cal [] (AV.tup [AV.i .u32 (Int.ofNat (four1 (bOf (byF b)))), AV.b true]) [] (Orc.cal [] (AV.tup [AV.i .u32 (Int.ofNat (four1 (bOf (shiftF 4 (byF b))))), AV.b true]) [] (Orc.s (Orc.t (Orc.f (Orc.s (Orc.t (Orc.cal [] (AV.sv 1 (trN (bOf (shiftF (Int.toNat (9 + Int.ofNat (b 8))) (byF b))) (60 - Int.toNat (9 + Int.ofNat (b 8)))) (byF (trB (bOf (shiftF (Int.toNat (9 + Int.ofNat (b 8))) (byF b))) (60 - Int.toNat (9 + Int.ofNat (b 8)))))) [] (Orc.t (Orc.t (Orc.f (Orc.s Orc.z Orc.z)))))) (Orc.f (Orc.f (Orc.f (Orc.t (Orc.c Orc.z)))))))) (Orc.f (Orc.t (oc 6 Orc.z))))))))) K = (Con Tryd.prog 52 [AV.sv 1 64 (byF b)] [] (AV.tup [AV.sv 1 60 (byF b), AV.b true]) [] ∧ True ∧ ((0 : Int) ≤ (8 : Int) ∧ (8 :
  Int) < (60 : Int)) ∧ True ∧ ((-9223372036854775808) ≤ Int.ofNat (b 8) ∧ Int.ofNat (b 8) ≤ 9223372036854775807) ∧ (decide (51 < Int.ofNat (b 8)) = true → K (Res.rv (AV.agg [AV.i .i64 0, AV.s []]) ⟨T.n (some (AObj.cells 45 2 [AV.i .i64 0, AV.s []] (T.n (some (AV.i .i64 0)) (T.n (some (AV.s [])) T.e T.e) T.e))) T.e T.e, 1, [0, 0]⟩) Orc.z) ∧ (decide (51 < Int.ofNat (b 8)) = false → Con Tryd.prog 53 [AV.sv 1 60 (byF b)] [] (AV.tup [AV.i .u32 (Int.ofNat (four1 (bOf (byF b)))), AV.b true]) [] ∧ ((0 : Int) ≤ (4 : Int) ∧ True ∧ 4 ≤ 60 ∧ 60 ≤ 60) ∧ Con Tryd.prog 53 [AV.sv 1 56 (shiftF 4 (byF b))] [] (AV.tup [AV.i .u32 (Int.ofNat (four1 (bOf (shiftF 4 (byF b))))), AV.b true]) [] ∧ True ∧ (0 : Int) ≤ (32 : Int) ∧ True ∧ True ∧ ((-9223372036854775808 : Int) ≤ (9 : Int) + Int.ofNat (b 8) ∧ 9 + Int.ofNat (b 8) ≤ 9223372036854775807) ∧ ((0 : Int) ≤ (9 : Int) ∧ (0 : Int) ≤ (9 : Int) + Int.ofNat (b 8) ∧
  9 ≤ Int.toNat (9 + Int.ofNat (b 8)) ∧ Int.toNat (9 + Int.ofNat (b 8)) ≤ 60) ∧ ((-9223372036854775808 : Int) ≤ (9 : Int) + Int.ofNat (b 8) ∧ 9 + Int.ofNat (b 8) ≤ 9223372036854775807) ∧ ((0 : Int) ≤ (9 : Int) + Int.ofNat (b 8) ∧ True ∧ Int.toNat (9 + Int.ofNat (b 8)) ≤ 60 ∧ 60 ≤ 60) ∧ ((!decide (wrapA .u64 ↑(BitVec.toNat (BitVec.ofInt 64 (wrapA .u64 (wrapA .u64 (Int.ofNat (four1 (bOf (shiftF 4 (byF b))))) * 4294967296)) ||| BitVec.ofInt 64 (wrapA .u64 (Int.ofNat (four1 (bOf (byF b))))))) < 1)) = true → (!decide (wrapA .u64 ↑(BitVec.toNat (BitVec.ofInt 64 (wrapA .u64 (wrapA .u64 (Int.ofNat (four1 (bOf (shiftF 4 (byF b))))) * 4294967296)) ||| BitVec.ofInt 64 (wrapA .u64 (Int.ofNat (four1 (bOf (byF b))))))) < 1)) = true ∧ decide (wrapA .u64 ↑(BitVec.toNat (BitVec.ofInt 64 (wrapA .u64 (wrapA .u64 (Int.ofNat (four1 (bOf (shiftF 4 (byF b))))) * 4294967296)) ||| BitVec.ofInt 64 (wrapA .u64
  (Int.ofNat (four1 (bOf (byF b))))))) < 1) = false ∧ ((!decide (1099511627776 < wrapA .u64 ↑(BitVec.toNat (BitVec.ofInt 64 (wrapA .u64 (wrapA .u64 (Int.ofNat (four1 (bOf (shiftF 4 (byF b))))) * 4294967296)) ||| BitVec.ofInt 64 (wrapA .u64 (Int.ofNat (four1 (bOf (byF b))))))))) = true → (!decide (1099511627776 < wrapA .u64 ↑(BitVec.toNat (BitVec.ofInt 64 (wrapA .u64 (wrapA .u64 (Int.ofNat (four1 (bOf (shiftF 4 (byF b))))) * 4294967296)) ||| BitVec.ofInt 64 (wrapA .u64 (Int.ofNat (four1 (bOf (byF b))))))))) = true ∧ Con Tryd.prog 54 [AV.sv 1 (60 - Int.toNat (9 + Int.ofNat (b 8))) (shiftF (Int.toNat (9 + Int.ofNat (b 8))) (byF b)), AV.s [0]] [] (AV.sv 1 (trN (bOf (shiftF (Int.toNat (9 + Int.ofNat (b 8))) (byF b))) (60 - Int.toNat (9 + Int.ofNat (b 8)))) (byF (trB (bOf (shiftF (Int.toNat (9 + Int.ofNat (b 8))) (byF b))) (60 - Int.toNat (9 + Int.ofNat (b 8)))))) [] ∧ (!decide (1099511627776 <
  wrapA .u64 ↑(BitVec.toNat (BitVec.ofInt 64 (wrapA .u64 (wrapA .u64 (Int.ofNat (four1 (bOf (shiftF 4 (byF b))))) * 4294967296)) ||| BitVec.ofInt 64 (wrapA .u64 (Int.ofNat (four1 (bOf (byF b))))))))) = true ∧ (!decide (1099511627776 < wrapA .u64 ↑(BitVec.toNat (BitVec.ofInt 64 (wrapA .u64 (wrapA .u64 (Int.ofNat (four1 (bOf (shiftF 4 (byF b))))) * 4294967296)) ||| BitVec.ofInt 64 (wrapA .u64 (Int.ofNat (four1 (bOf (byF b))))))))) = true ∧ decide (1099511627776 < wrapA .u64 ↑(BitVec.toNat (BitVec.ofInt 64 (wrapA .u64 (wrapA .u64 (Int.ofNat (four1 (bOf (shiftF 4 (byF b))))) * 4294967296)) ||| BitVec.ofInt 64 (wrapA .u64 (Int.ofNat (four1 (bOf (byF b)))))))) = false ∧ (decide (0 < Int.ofNat (trN (bOf (shiftF (Int.toNat (9 + Int.ofNat (b 8))) (byF b))) (60 - Int.toNat (9 + Int.ofNat (b 8))))) = true → K (Res.rv (AV.agg [AV.i .i64 0, AV.s []]) ⟨T.n (some (AObj.cells 45 2 [AV.i .i64 0, AV.s []]
  (T.n (some (AV.i .i64 0)) (T.n (some (AV.s [])) T.e T.e) T.e))) T.e T.e, 1, [0, 0]⟩) Orc.z) ∧ (decide (0 < Int.ofNat (trN (bOf (shiftF (Int.toNat (9 + Int.ofNat (b 8))) (byF b))) (60 - Int.toNat (9 + Int.ofNat (b 8))))) = false → ((-9223372036854775808) ≤ wrapA .u64 ↑(BitVec.toNat (BitVec.ofInt 64 (wrapA .u64 (wrapA .u64 (Int.ofNat (four1 (bOf (shiftF 4 (byF b))))) * 4294967296)) ||| BitVec.ofInt 64 (wrapA .u64 (Int.ofNat (four1 (bOf (byF b))))))) ∧ wrapA .u64 ↑(BitVec.toNat (BitVec.ofInt 64 (wrapA .u64 (wrapA .u64 (Int.ofNat (four1 (bOf (shiftF 4 (byF b))))) * 4294967296)) ||| BitVec.ofInt 64 (wrapA .u64 (Int.ofNat (four1 (bOf (byF b))))))) ≤ 9223372036854775807) ∧ U8s (Int.toNat (9 + Int.ofNat (b 8)) - 9) (shiftF 9 (byF b)) ∧ K (Res.rv (AV.agg [AV.i .i64 (wrapA .u64 ↑(BitVec.toNat (BitVec.ofInt 64 (wrapA .u64 (wrapA .u64 (Int.ofNat (four1 (bOf (shiftF 4 (byF b))))) * 4294967296)) |||
  BitVec.ofInt 64 (wrapA .u64 (Int.ofNat (four1 (bOf (byF b)))))))), AV.s (bytesF (Int.toNat (9 + Int.ofNat (b 8)) - 9) (shiftF 9 (byF b)))]) ⟨T.n (some (AObj.cells 45 2 [AV.i .i64 0, AV.s []] (T.n (some (AV.i .i64 (wrapA .u64 ↑(BitVec.toNat (BitVec.ofInt 64 (wrapA .u64 (wrapA .u64 (Int.ofNat (four1 (bOf (shiftF 4 (byF b))))) * 4294967296)) ||| BitVec.ofInt 64 (wrapA .u64 (Int.ofNat (four1 (bOf (byF b)))))))))) (T.n (some (AV.s (bytesF (Int.toNat (9 + Int.ofNat (b 8)) - 9) (shiftF 9 (byF b))))) T.e T.e) T.e))) T.e T.e, 1, [0, 0]⟩) Orc.z)) ∧ ((!decide (1099511627776 < wrapA .u64 ↑(BitVec.toNat (BitVec.ofInt 64 (wrapA .u64 (wrapA .u64 (Int.ofNat (four1 (bOf (shiftF 4 (byF b))))) * 4294967296)) ||| BitVec.ofInt 64 (wrapA .u64 (Int.ofNat (four1 (bOf (byF b))))))))) = false → (!decide (1099511627776 < wrapA .u64 ↑(BitVec.toNat (BitVec.ofInt 64 (wrapA .u64 (wrapA .u64 (Int.ofNat (four1 (bOf
  (shiftF 4 (byF b))))) * 4294967296)) ||| BitVec.ofInt 64 (wrapA .u64 (Int.ofNat (four1 (bOf (byF b))))))))) = false ∧ (!decide (1099511627776 < wrapA .u64 ↑(BitVec.toNat (BitVec.ofInt 64 (wrapA .u64 (wrapA .u64 (Int.ofNat (four1 (bOf (shiftF 4 (byF b))))) * 4294967296)) ||| BitVec.ofInt 64 (wrapA .u64 (Int.ofNat (four1 (bOf (byF b))))))))) = false ∧ (!decide (1099511627776 < wrapA .u64 ↑(BitVec.toNat (BitVec.ofInt 64 (wrapA .u64 (wrapA .u64 (Int.ofNat (four1 (bOf (shiftF 4 (byF b))))) * 4294967296)) ||| BitVec.ofInt 64 (wrapA .u64 (Int.ofNat (four1 (bOf (byF b))))))))) = false ∧ decide (1099511627776 < wrapA .u64 ↑(BitVec.toNat (BitVec.ofInt 64 (wrapA .u64 (wrapA .u64 (Int.ofNat (four1 (bOf (shiftF 4 (byF b))))) * 4294967296)) ||| BitVec.ofInt 64 (wrapA .u64 (Int.ofNat (four1 (bOf (byF b)))))))) = true ∧ K (Res.rv (AV.agg [AV.i .i64 0, AV.s []]) ⟨T.n (some (AObj.cells 45 2 [AV.i .i64 0,
  AV.s []] (T.n (some (AV.i .i64 0)) (T.n (some (AV.s [])) T.e T.e) T.e))) T.e T.e, 1, [0, 0]⟩) Orc.z)) ∧ ((!decide (wrapA .u64 ↑(BitVec.toNat (BitVec.ofInt 64 (wrapA .u64 (wrapA .u64 (Int.ofNat (four1 (bOf (shiftF 4 (byF b))))) * 4294967296)) ||| BitVec.ofInt 64 (wrapA .u64 (Int.ofNat (four1 (bOf (byF b))))))) < 1)) = false → (!decide (wrapA .u64 ↑(BitVec.toNat (BitVec.ofInt 64 (wrapA .u64 (wrapA .u64 (Int.ofNat (four1 (bOf (shiftF 4 (byF b))))) * 4294967296)) ||| BitVec.ofInt 64 (wrapA .u64 (Int.ofNat (four1 (bOf (byF b))))))) < 1)) = false ∧ decide (wrapA .u64 ↑(BitVec.toNat (BitVec.ofInt 64 (wrapA .u64 (wrapA .u64 (Int.ofNat (four1 (bOf (shiftF 4 (byF b))))) * 4294967296)) ||| BitVec.ofInt 64 (wrapA .u64 (Int.ofNat (four1 (bOf (byF b))))))) < 1) = true ∧ K (Res.rv (AV.agg [AV.i .i64 0, AV.s []]) ⟨T.n (some (AObj.cells 45 2 [AV.i .i64 0, AV.s []] (T.n (some (AV.i .i64 0)) (T.n (some
  (AV.s [])) T.e T.e) T.e))) T.e T.e, 1, [0, 0]⟩) Orc.z))) := by kernel_rfl
theorem standingF_vc (b : Nat → Nat) (K : Res → Orc → Prop) : runK Tryd.prog 1000000 (.call 43 [.sv 1 64 (byF b)] (mkH [])) (Orc.cal [] (AV.tup [AV.l0, AV.b false]) [] (Orc.c Orc.z)) K = (Con Tryd.prog 52 [AV.sv 1 64 (byF b)] [] (AV.tup [AV.l0, AV.b false]) [] ∧ True ∧ K (Res.rv (AV.agg [AV.i .i64 0, AV.s []]) ⟨T.n (some (AObj.cells 45 2 [AV.i .i64 0, AV.s []] (T.n (some (AV.i .i64 0)) (T.n (some (AV.s [])) T.e T.e) T.e))) T.e T.e, 1, [0, 0]⟩) Orc.z) := by kernel_rfl
theorem standing0_vc (gg : Nat → Nat → CV) (K : Res → Orc → Prop) : runK Tryd.prog 1000000 (.call 43 [.sv 1 0 gg] (mkH [])) (Orc.cal [] (AV.tup [AV.l0, AV.b false]) [] (Orc.c Orc.z)) K = (Con Tryd.prog 52 [AV.sv 1 0 gg] [] (AV.tup [AV.l0, AV.b false]) [] ∧ True ∧ K (Res.rv (AV.agg [AV.i .i64 0, AV.s []]) ⟨T.n (some (AObj.cells 45 2 [AV.i .i64 0, AV.s []] (T.n (some (AV.i .i64 0)) (T.n (some (AV.s [])) T.e T.e) T.e))) T.e T.e, 1, [0, 0]⟩) Orc.z) := by kernel_rfl
theorem standing64_con (b : Nat → Nat) (hb : ∀ k, k < 64 → b k < 256) : Con Tryd.prog 43 [.sv 1 64 (byF b)] [] (.agg [.i .i64 (Int.ofNat (lkQ b)), .s (lkD b)]) [] := by
  have hI : IsBy 64 (byF b) := .of hb
  cases ho : openB (byF b) with
  | false =>
    have e : okB b = false := by unfold okB; rw [ho]; rfl
    have eq : lkQ b = 0 := by unfold lkQ; rw [e, cond_false]
    have ed : lkD b = [] := by unfold lkD; rw [e, cond_false]
    rw [eq, ed]
    exact con_of_run [] [] ((standingF_vc b _).mpr ⟨open64F_con _ hI ho, trivial, _, _, rfl, ret_k (by kernel_rfl)⟩)
  | true =>
    have h8 := hb 8 (by omega)
    have hlo : four1 (bOf (byF b)) < 4294967296 := four1_lt fun k hk => hb k (by omega)
    have hhi : four1 (bOf (shiftF 4 (byF b))) < 4294967296 := four1_lt fun k hk => hb (4 + k) (by omega)
    have eN := numE hhi hlo
    have eN' : numN b = four1 (bOf (byF b)) + four1 (bOf (shiftF 4 (byF b))) * 4294967296 := by unfold numN; exact Eq.refl _
    rw [← eN'] at eN
    have e9 : (9 : Int) + Int.ofNat (b 8) = Int.ofNat (9 + b 8) := by simp
    have f4 : ∀ M g, 4 ≤ M → IsBy M g → Con Tryd.prog 53 [.sv 1 M g] [] (.tup [.i .u32 (Int.ofNat (four1 (bOf g))), .b true]) [] := fun M g h1 h2 => ofFour_con M g h1 h2
    have k1 := open64T_con _ hI ho
    have k2 := f4 60 (byF b) (by omega) (hI.le (by omega))
    have k3 := f4 56 (shiftF 4 (byF b)) (by omega) (fun k hk => hI (4 + k) (by omega))
    have zero : okB b = false → Con Tryd.prog 43 [.sv 1 64 (byF b)] [] (.agg [.i .i64 0, .s []]) [] → Con Tryd.prog 43 [.sv 1 64 (byF b)] [] (.agg [.i .i64 (Int.ofNat (lkQ b)), .s (lkD b)]) [] := by
      intro e h
      have eq : lkQ b = 0 := by unfold lkQ; rw [e, cond_false]
      have ed : lkD b = [] := by unfold lkD; rw [e, cond_false]
      rw [eq, ed]; exact h
    by_cases h51 : b 8 ≤ 51
    · have d51 : decide ((51 : Int) < Int.ofNat (b 8)) = false := by simp; omega
      have e51 : Nat.ble (b 8) 51 = true := Nat.ble_eq_true_of_le h51
      have n9 : (Int.ofNat (9 + b 8)).toNat = 9 + b 8 := rfl
      have k4 : Con Tryd.prog 54 [.sv 1 (60 - (9 + b 8)) (shiftF (9 + b 8) (byF b)), .s [0]] [] (.sv 1 (trN (bOf (shiftF (9 + b 8) (byF b))) (60 - (9 + b 8))) (byF (trB (bOf (shiftF (9 + b 8) (byF b))) (60 - (9 + b 8))))) [] :=
        trim_con _ _ (by omega) fun k hk => by rw [shiftF_eq]; exact ⟨by show _ = CV.i .u8 (Int.ofNat (cvN (shiftF (9 + b 8) (byF b) k 0))); rw [shiftF_eq]; rfl, by show cvN (shiftF (9 + b 8) (byF b) k 0) < 256; rw [shiftF_eq]; exact hb (9 + b 8 + k) (by omega)⟩
      have eR : trN (bOf (shiftF (9 + b 8) (byF b))) (60 - (9 + b 8)) = restN b := by unfold restN; exact Eq.refl _
      by_cases h1 : 1 ≤ numN b
      · have d1 : decide (Int.ofNat (numN b) < 1) = false := by simp; omega
        by_cases h2 : numN b ≤ 1099511627776
        · have d2 : decide ((1099511627776 : Int) < Int.ofNat (numN b)) = false := by simp; omega
          by_cases h3 : restN b = 0
          · have d3 : decide ((0 : Int) < Int.ofNat (restN b)) = false := by simp; omega
            have e : okB b = true := by unfold okB; rw [ho, e51, Nat.ble_eq_true_of_le h1, Nat.ble_eq_true_of_le h2, h3, Nat.beq_refl]; simp only [Bool.and_self]
            have eq : lkQ b = numN b := by unfold lkQ; rw [e, cond_true]
            have ed : lkD b = txtD b := by unfold lkD; rw [e, cond_true]
            rw [eq, ed]
            have kU : U8s (9 + b 8 - 9) (shiftF 9 (byF b)) := fun i _ => ⟨b (9 + i), rfl⟩
            have eT : bytesF (9 + b 8 - 9) (shiftF 9 (byF b)) = txtD b := by unfold txtD; congr 1; omega
            refine con_of_run [] [] ((standing_vc b _).mpr ?_)
            simp only [d51, e9, toNat_of, eN, d1, d2, eR, d3, eT, Bool.not_false, Bool.not_true, true_implies, false_implies, reduceCtorEq, and_true, true_and]
            repeat' first | exact kU | exact k1 | exact k2 | exact k3 | exact k4 | (decide; done) | (constructor <;> first | (decide; done) | (simp <;> omega)) | exact ⟨_, _, rfl, ret_k (by kernel_rfl)⟩ | refine And.intro ?_ ?_
          · have d3 : decide ((0 : Int) < Int.ofNat (restN b)) = true := by simp; omega
            have e : okB b = false := by
              unfold okB
              have : Nat.beq (restN b) 0 = false := by rw [Bool.eq_false_iff, ne_eq, Nat.beq_eq]; exact h3
              rw [this]; simp only [Bool.and_false]
            refine zero e (con_of_run [] [] ((standing_vc b _).mpr ?_))
            simp only [d51, e9, toNat_of, eN, d1, d2, eR, d3, Bool.not_false, Bool.not_true, true_implies, false_implies, reduceCtorEq, and_true, true_and]
            repeat' first | exact k1 | exact k2 | exact k3 | exact k4 | (decide; done) | (constructor <;> first | (decide; done) | (simp <;> omega)) | exact ⟨_, _, rfl, ret_k (by kernel_rfl)⟩ | refine And.intro ?_ ?_
        · have d2 : decide ((1099511627776 : Int) < Int.ofNat (numN b)) = true := by simp; omega
          have e : okB b = false := by
            unfold okB
            have : Nat.ble (numN b) 1099511627776 = false := by rw [Bool.eq_false_iff, ne_eq, Nat.ble_eq]; omega
            rw [this]; simp only [Bool.and_false, Bool.false_and]
          refine zero e (con_of_run [] [] ((standing_vc b _).mpr ?_))
          simp only [d51, e9, toNat_of, eN, d1, d2, Bool.not_false, Bool.not_true, true_implies, false_implies, reduceCtorEq, and_true, true_and]
          repeat' first | exact k1 | exact k2 | exact k3 | exact k4 | (decide; done) | (constructor <;> first | (decide; done) | (simp <;> omega)) | exact ⟨_, _, rfl, ret_k (by kernel_rfl)⟩ | refine And.intro ?_ ?_
      · have d1 : decide (Int.ofNat (numN b) < 1) = true := by simp; omega
        have e : okB b = false := by
          unfold okB
          have : Nat.ble 1 (numN b) = false := by rw [Bool.eq_false_iff, ne_eq, Nat.ble_eq]; omega
          rw [this]; simp only [Bool.and_false, Bool.false_and]
        refine zero e (con_of_run [] [] ((standing_vc b _).mpr ?_))
        simp only [d51, e9, toNat_of, eN, d1, Bool.not_false, Bool.not_true, true_implies, false_implies, reduceCtorEq, and_true, true_and]
        repeat' first | exact k1 | exact k2 | exact k3 | exact k4 | (decide; done) | (constructor <;> first | (decide; done) | (simp <;> omega)) | exact ⟨_, _, rfl, ret_k (by kernel_rfl)⟩ | refine And.intro ?_ ?_
    · have d51 : decide ((51 : Int) < Int.ofNat (b 8)) = true := by simp; omega
      have e51 : okB b = false := by
        unfold okB
        have : Nat.ble (b 8) 51 = false := by rw [Bool.eq_false_iff, ne_eq, Nat.ble_eq]; omega
        rw [this]; simp only [Bool.and_false, Bool.false_and]
      refine zero e51 (con_of_run [] [] ((standing_vc b _).mpr ?_))
      simp only [d51, true_implies, false_implies, reduceCtorEq, and_true, true_and]
      repeat' first | exact k1 | exact k2 | exact k3 | exact k4 | (decide; done) | (constructor <;> first | (decide; done) | (simp <;> omega)) | exact ⟨_, _, rfl, ret_k (by kernel_rfl)⟩ | refine And.intro ?_ ?_
theorem standing0_con (gg : Nat → Nat → CV) : Con Tryd.prog 43 [.sv 1 0 gg] [] (.agg [.i .i64 0, .s []]) [] :=
  con_of_run [] [] ((standing0_vc gg _).mpr ⟨open0_con gg, trivial, _, _, rfl, ret_k (by kernel_rfl)⟩)
theorem sealF_by (gg : Nat → Nat → CV) (b : Nat → Nat) (h : ∀ k, gg k 0 = .i .u8 (Int.ofNat (b k))) (i : Nat) : sealF gg i 0 = .i .u8 (Int.ofNat (bif Nat.blt i 60 then b i else fourB (sumN b 60) (i - 60))) := by
  have e : sumN (bOf gg) 60 = sumN b 60 := sumN_congr fun k _ => by
    show cvN (gg k 0) = b k
    rw [h k]; exact Eq.refl (b k)
  unfold sealF
  rw [e]
  refine (appZ_i (h i) (Eq.refl _)).trans ?_
  by_cases c : i < 60
  · rw [if_pos c, show Nat.blt i 60 = true from by rw [Nat.blt_eq]; exact c, cond_true]
  · rw [if_neg c, show Nat.blt i 60 = false from by rw [Bool.eq_false_iff, ne_eq, Nat.blt_eq]; exact c, cond_false]
theorem seal60R_con (gg : Nat → Nat → CV) (h : IsBy 60 gg) : Con Tryd.prog 58 [.lr 0 1 0 60 false] [some (.rows 5 1 60 gg)] (.sv 1 64 (sealF gg)) [.gone] :=
  ((seal60_con gg h).slot rfl (by kernel_rfl) (by kernel_rfl)).thaw (us0 := [.gone]) 0 (e := 5) (sz := 1) (n := 60) (f := gg) rfl ⟨rfl, trivial⟩ ⟨.inr ⟨by kernel_rfl, ⟨rfl, by omega⟩, rfl⟩, trivial⟩ rfl
noncomputable def bodyB (q : Nat) (d : List Nat) (k : Nat) : Nat :=
  bif Nat.ble 9 k && Nat.blt k (9 + d.length) then d.getD (k - 9) 0 else
  bif Nat.beq k 8 then d.length % 256 else
  bif Nat.ble 4 k && Nat.blt k 8 then fourB (q / 4294967296 % 4294967296) (k - 4) else
  bif Nat.ble 0 k && Nat.blt k 4 then fourB (q % 4294967296) k else 0
noncomputable def sectB (q : Nat) (d : List Nat) (k : Nat) : Nat := bif Nat.blt k 60 then bodyB q d k else fourB (sumN (bodyB q d) 60) (k - 60)
noncomputable def bodyF (q : Nat) (d : List Nat) : Nat → Nat → CV := copyF 9 d.length (fun i x => CV.i IntKind.u8 (Int.ofNat (List.getD d i 0))) (setRow (copyF 4 4 (fun k x => CV.i IntKind.u8 (Int.ofNat (fourB (Int.toNat (wrapA IntKind.u32 (Int.fdiv (Int.ofNat q) (4294967296 : Int)))) k))) (copyF 0 4 (fun k x => CV.i IntKind.u8 (Int.ofNat (fourB (Int.toNat (wrapA IntKind.u32 (Int.ofNat q))) k))) fun x j => List.getD [CV.i IntKind.u8 (0 : Int)] j CV.p0)) 8 0 [CV.i IntKind.u8 (wrapA IntKind.u8 (Int.ofNat d.length))])
theorem hi32 (q : Nat) : Int.toNat (wrapA IntKind.u32 (Int.fdiv (Int.ofNat q) (4294967296 : Int))) = q / 4294967296 % 4294967296 := by
  have e : Int.fdiv (Int.ofNat q) (4294967296 : Int) = Int.ofNat (q / 4294967296) := by
    rw [Int.fdiv_eq_ediv_of_nonneg _ (by decide)]; exact Eq.refl _
  rw [e]; exact Eq.refl _
theorem bodyF_at (q : Nat) (d : List Nat) (k : Nat) : bodyF q d k 0 = .i .u8 (Int.ofNat (bodyB q d k)) := by
  have h : bodyF q d k 0 = zipCV (Nat.ble 9 k && Nat.blt k (9 + d.length)) (.i .u8 (Int.ofNat (d.getD (k - 9) 0))) (zipCV (Nat.beq k 8) (.i .u8 (Int.ofNat (d.length % 256)))
      (zipCV (Nat.ble 4 k && Nat.blt k 8) (.i .u8 (Int.ofNat (fourB (Int.toNat (wrapA IntKind.u32 (Int.fdiv (Int.ofNat q) (4294967296 : Int)))) (k - 4)))) (zipCV (Nat.ble 0 k && Nat.blt k (0 + 4)) (.i .u8 (Int.ofNat (fourB (Int.toNat (wrapA IntKind.u32 (Int.ofNat q))) (k - 0)))) (.i .u8 0)))) := Eq.refl _
  rw [h, hi32, Nat.sub_zero, Nat.zero_add]
  unfold bodyB
  cases (Nat.ble 9 k && Nat.blt k (9 + d.length)) <;> cases Nat.beq k 8 <;> cases (Nat.ble 4 k && Nat.blt k 8) <;> cases (Nat.ble 0 k && Nat.blt k 4) <;> exact Eq.refl _
theorem bodyB_lt {q : Nat} {d : List Nat} (hd : ∀ x ∈ d, x < 256) (k : Nat) : bodyB q d k < 256 := by
  unfold bodyB
  cases (Nat.ble 9 k && Nat.blt k (9 + d.length)) with
  | true =>
    rw [cond_true, List.getD_eq_getElem?_getD]
    cases h : d[k - 9]? with
    | none => exact (by decide : (0 : Nat) < 256)
    | some x => exact hd x (List.mem_of_getElem? h)
  | false =>
    rw [cond_false]
    cases Nat.beq k 8 with
    | true => rw [cond_true]; exact Nat.mod_lt _ (by decide)
    | false =>
      rw [cond_false]
      cases (Nat.ble 4 k && Nat.blt k 8) with
      | true => rw [cond_true]; exact fourB_lt _ _
      | false =>
        rw [cond_false]
        cases (Nat.ble 0 k && Nat.blt k 4) with
        | true => rw [cond_true]; exact fourB_lt _ _
        | false => rw [cond_false]; decide
theorem bodyF_by {q : Nat} {d : List Nat} (hd : ∀ x ∈ d, x < 256) : IsBy 60 (bodyF q d) := fun k _ => by
  have e : bOf (bodyF q d) k = bodyB q d k := by show cvN (bodyF q d k 0) = _; rw [bodyF_at]; exact Eq.refl _
  rw [e]; exact ⟨bodyF_at q d k, bodyB_lt hd k⟩
theorem sectB_lt {q : Nat} {d : List Nat} (hd : ∀ x ∈ d, x < 256) (k : Nat) : sectB q d k < 256 := by
  unfold sectB
  cases Nat.blt k 60 with
  | true => rw [cond_true]; exact bodyB_lt hd k
  | false => rw [cond_false]; exact fourB_lt _ _
theorem sector_vc (q : Nat) (d : List Nat) (K : Res → Orc → Prop) : runK Tryd.prog 1000000 (.call 46 [.agg [.i .i64 (Int.ofNat q), .s d]] (mkH [])) (Orc.s (Orc.cal [] (AV.sv 1 4 (byF (fourB (Int.toNat (wrapA .u32 (Int.ofNat q)))))) [] (Orc.cal [] (AV.sv 1 4 (byF (fourB (Int.toNat (wrapA .u32 (Int.fdiv (Int.ofNat q) 4294967296)))))) [] (Orc.cal [1] (AV.sv 1 64 (sealF (copyF 9 (List.length d) (fun i x => CV.i .u8 (Int.ofNat (List.getD d i 0))) (setRow (copyF 4 4 (fun k x => CV.i .u8 (Int.ofNat (fourB (Int.toNat (wrapA .u32 (Int.fdiv (Int.ofNat q) 4294967296))) k))) (copyF 0 4 (fun k x => CV.i .u8 (Int.ofNat (fourB (Int.toNat (wrapA .u32 (Int.ofNat q))) k))) fun x j => List.getD [CV.i .u8 0] j CV.p0)) 8 0 [CV.i .u8 (wrapA .u8 (Int.ofNat (List.length d)))])))) [Upd.gone] Orc.z))) Orc.z) K = (((0 : Int) ≤ (60 : Int) ∧ (60 : Int) ≤ (60 : Int) ∧ (60 : Int) ≤ (1073741824 : Int)) ∧ True ∧ True ∧
  Con Tryd.prog 57 [AV.i .u32 (wrapA .u32 (Int.ofNat q))] [] (AV.sv 1 4 (byF (fourB (Int.toNat (wrapA .u32 (Int.ofNat q)))))) [] ∧ (True ∧ 0 < 60 ∧ 0 < 60 ∧ 4 ≤ 60 ∧ 60 ≤ 60) ∧ ((0 : Int) ≤ (4 : Int) ∧ True ∧ 4 ≤ 60 ∧ 60 ≤ 60 ∧ (4 = 0 ∨ 4 < 60)) ∧ True ∧ (0 : Int) ≤ (32 : Int) ∧ True ∧ Con Tryd.prog 57 [AV.i .u32 (wrapA .u32 (Int.fdiv (Int.ofNat q) 4294967296))] [] (AV.sv 1 4 (byF (fourB (Int.toNat (wrapA .u32 (Int.fdiv (Int.ofNat q) 4294967296)))))) [] ∧ (True ∧ 0 < 56 ∧ 0 < 60 ∧ 4 ≤ 56 ∧ 60 ≤ 60) ∧ True ∧ True ∧ ((0 : Int) ≤ (8 : Int) ∧ (8 : Int) < (60 : Int)) ∧ 8 < 60 ∧ ((0 : Int) ≤ (9 : Int) ∧ True ∧ 9 ≤ 60 ∧ 60 ≤ 60 ∧ (9 = 0 ∨ 9 < 60)) ∧ True ∧ (True ∧ 0 < 51 ∧ 0 < 60 ∧ List.length d ≤ 51 ∧ 60 ≤ 60) ∧ Con Tryd.prog 58 [AV.lr 0 1 0 60 false] [some (AObj.rows 5 1 60 (copyF 9 (List.length d) (fun i x => CV.i .u8 (Int.ofNat (List.getD d i 0))) (setRow (copyF 4 4 (fun k x => CV.i .u8
  (Int.ofNat (fourB (Int.toNat (wrapA .u32 (Int.fdiv (Int.ofNat q) 4294967296))) k))) (copyF 0 4 (fun k x => CV.i .u8 (Int.ofNat (fourB (Int.toNat (wrapA .u32 (Int.ofNat q))) k))) fun x j => List.getD [CV.i .u8 0] j CV.p0)) 8 0 [CV.i .u8 (wrapA .u8 (Int.ofNat (List.length d)))])))] (AV.sv 1 64 (sealF (copyF 9 (List.length d) (fun i x => CV.i .u8 (Int.ofNat (List.getD d i 0))) (setRow (copyF 4 4 (fun k x => CV.i .u8 (Int.ofNat (fourB (Int.toNat (wrapA .u32 (Int.fdiv (Int.ofNat q) 4294967296))) k))) (copyF 0 4 (fun k x => CV.i .u8 (Int.ofNat (fourB (Int.toNat (wrapA .u32 (Int.ofNat q))) k))) fun x j => List.getD [CV.i .u8 0] j CV.p0)) 8 0 [CV.i .u8 (wrapA .u8 (Int.ofNat (List.length d)))])))) [Upd.gone] ∧ K (Res.rv (AV.sv 1 64 (sealF (copyF 9 (List.length d) (fun i x => CV.i .u8 (Int.ofNat (List.getD d i 0))) (setRow (copyF 4 4 (fun k x => CV.i .u8 (Int.ofNat (fourB (Int.toNat (wrapA .u32
  (Int.fdiv (Int.ofNat q) 4294967296))) k))) (copyF 0 4 (fun k x => CV.i .u8 (Int.ofNat (fourB (Int.toNat (wrapA .u32 (Int.ofNat q))) k))) fun x j => List.getD [CV.i .u8 0] j CV.p0)) 8 0 [CV.i .u8 (wrapA .u8 (Int.ofNat (List.length d)))])))) ⟨T.n (some (AObj.cells 45 2 [] (T.n (some (AV.i .i64 (Int.ofNat q))) (T.n (some (AV.s d)) T.e T.e) T.e))) (T.n none T.e T.e) T.e, 2, [1, 1, 1, 1, 1, 1, 0]⟩) Orc.z) := by kernel_rfl
theorem sector_con (q : Nat) (d : List Nat) (hd : ∀ x ∈ d, x < 256) (hl : d.length ≤ 51) : Con Tryd.prog 46 [.agg [.i .i64 (Int.ofNat q), .s d]] [] (.sv 1 64 (byF (sectB q d))) [] := by
  have e0 : wrapA IntKind.u32 (Int.ofNat q) = Int.ofNat (q % 4294967296) := Eq.refl _
  have e1 : wrapA IntKind.u32 (Int.fdiv (Int.ofNat q) (4294967296 : Int)) = Int.ofNat (q / 4294967296 % 4294967296) := by
    have e : Int.fdiv (Int.ofNat q) (4294967296 : Int) = Int.ofNat (q / 4294967296) := by
      rw [Int.fdiv_eq_ediv_of_nonneg _ (by decide)]; exact Eq.refl _
    rw [e]; exact Eq.refl _
  have k0 : Con Tryd.prog 57 [AV.i IntKind.u32 (wrapA IntKind.u32 (Int.ofNat q))] [] (AV.sv 1 4 (byF (fourB (Int.toNat (wrapA IntKind.u32 (Int.ofNat q)))))) [] := by
    rw [e0]; exact four0_con _
  have k1 : Con Tryd.prog 57 [AV.i IntKind.u32 (wrapA IntKind.u32 (Int.fdiv (Int.ofNat q) (4294967296 : Int)))] [] (AV.sv 1 4 (byF (fourB (Int.toNat (wrapA IntKind.u32 (Int.fdiv (Int.ofNat q) (4294967296 : Int))))))) [] := by
    rw [e1]; exact four0_con _
  have k : Con Tryd.prog 46 [.agg [.i .i64 (Int.ofNat q), .s d]] [] (.sv 1 64 (sealF (bodyF q d))) [] :=
    con_of_run [] [] ((sector_vc q d _).mpr ⟨by decide, trivial, trivial, k0, ⟨trivial, by decide, by decide, by decide, by decide⟩, ⟨by decide, trivial, by decide, by decide, .inr (by decide)⟩, trivial, by decide, trivial, k1, ⟨trivial, by decide, by decide, by decide, by decide⟩, trivial, trivial, by decide, by decide,
      ⟨by decide, trivial, by decide, by decide, .inr (by decide)⟩, trivial, ⟨trivial, by decide, by decide, hl, by decide⟩, seal60R_con _ (bodyF_by hd), _, _, rfl, ret_k (by kernel_rfl)⟩)
  refine k.post (.sv fun i j hi hj => ?_) (OVL.refl _)
  obtain rfl : j = 0 := by omega
  rw [sealF_by _ (bodyB q d) (bodyF_at q d)]
  exact Eq.refl _
noncomputable def cellF (q : Nat → Nat) (d : Nat → List Nat) (sp : Nat → Nat) : Nat → Nat → CV := fun i j => match j with
  | 0 => .i .i64 (Int.ofNat (q i))
  | 1 => .s (d i)
  | _ => .i .i64 (Int.ofNat (sp i))
noncomputable def clO (n : Nat) (q : Nat → Nat) (d : Nat → List Nat) (sp : Nat → Nat) (dead : Bool) : AObj :=
  .segs 74 771 [⟨1, 1, 1, oneF (.i .i64 (Int.ofNat n))⟩, ⟨2, 3, 256, cellF q d sp⟩, ⟨770, 1, 1, oneF (.b dead)⟩] [(0, .p 1 0)]
end Go.Proofs.Cl
namespace Go.Proofs.St
open Go Go.Sim Go.Proofs Go.Proofs.YtiihmkiiojlcaaaDoor
theorem writeSA_vc (s : SS) (q : Nat) (bs : Nat → Int) (K : Res → Orc → Prop) : runK Tryd.prog 1000000 (.call 45 [.p 0 0, .i .i64 (Int.ofNat q), .sv 1 64 fun k _ => .i .u8 (bs k)] (mkH [some s.o]))
  (Orc.cal [0] (AV.i .i64 (SS.faultE s)) [Upd.keep] (Orc.s Orc.z (Orc.cal [0] (AV.b (decide ((0 : Int) ≤ Int.ofNat q ∧ Int.ofNat q < Int.ofNat (SS.n s)))) [Upd.keep] (Orc.s (Orc.t (Orc.t (Orc.f (Orc.c (Orc.cal [0] (AV.tup []) [Upd.set (SS.o (SS.put s q bs))] (Orc.inl (Orc.s Orc.z (Orc.s (Orc.inl (Orc.c Orc.z)) Orc.z)))))))) (Orc.f (Orc.f (Orc.t (Orc.c Orc.z)))))))) K =
  (Con Tryd.prog 50 [AV.p 0 0] [some (SS.o s)] (AV.i .i64 (SS.faultE s)) [Upd.keep] ∧
 ((!decide (SS.faultE s = (0 : Int))) = true → K (Res.rv (AV.i .i64 (SS.faultE s)) ⟨T.n (some (AObj.segs 69 33799 [⟨0, 1, 1, oneF (CV.i .i64 (Int.ofNat (SS.n s)))⟩, ⟨1, 65, 512, durF (SS.dur s) (SS.torn s)⟩, ⟨33281, 1, 1, oneF (CV.opv (pB (SS.P s)) 66 (pW (SS.P s)))⟩, ⟨33282, 1, 512, latF (lB (SS.P s)) (lW (SS.P s))⟩, ⟨33794, 5, 1, tailF (Int.ofNat (List.length (SS.P s))) (Int.ofNat (SS.wr s)) (SS.off s) (SS.armed s) (Int.ofNat (SS.left s))⟩])) T.e T.e, 1, []⟩) Orc.z) ∧
  ((!decide (SS.faultE s = (0 : Int))) = false →
   Con Tryd.prog 51 [AV.p 0 0, AV.i .i64 (Int.ofNat q)] [some (SS.o s)] (AV.b (decide ((0 : Int) ≤ Int.ofNat q ∧ Int.ofNat q < Int.ofNat (SS.n s)))) [Upd.keep] ∧
    True ∧
     ((!!decide ((0 : Int) ≤ Int.ofNat q ∧ Int.ofNat q < Int.ofNat (SS.n s))) = true →
       (!!decide ((0 : Int) ≤ Int.ofNat q ∧ Int.ofNat q < Int.ofNat (SS.n s))) = true ∧
        (!!decide ((0 : Int) ≤ Int.ofNat q ∧ Int.ofNat q < Int.ofNat (SS.n s))) = true ∧
         (!decide ((0 : Int) ≤ Int.ofNat q ∧ Int.ofNat q < Int.ofNat (SS.n s))) = false ∧
          True ∧
           (64 ≤ 64 ∧ 0 < 64) ∧
            True ∧
             Con Tryd.prog 55 [AV.p 0 33281, AV.i .i64 (Int.ofNat q), AV.agg (cvL (fun k => CV.i .u8 (bs k)) 0 64)] [some (SS.o s)] (AV.tup []) [Upd.set (SS.o (SS.put s q bs))] ∧
              True ∧
               True ∧
                ((-9223372036854775808 : Int) ≤ Int.ofNat (SS.wr (SS.put s q bs)) + (1 : Int) ∧ Int.ofNat (SS.wr (SS.put s q bs)) + (1 : Int) ≤ (9223372036854775807 : Int)) ∧
                 True ∧
                  True ∧
                   True ∧
                    True ∧
                     True ∧
                      ((!SS.armed (SS.put s q bs)) = true →
                        K
                         (Res.rv (AV.i .i64 (0 : Int))
                          {
                           tree :=
                            T.n
                             (some
                              (AObj.segs 69 33799
                               [⟨0, 1, 1, oneF (CV.i .i64 (Int.ofNat (SS.n (SS.put s q bs))))⟩, ⟨1, 65, 512, durF (SS.dur (SS.put s q bs)) (SS.torn (SS.put s q bs))⟩, ⟨33281, 1, 1, oneF (CV.opv (pB (SS.P (SS.put s q bs))) 66 (pW (SS.P (SS.put s q bs))))⟩, ⟨33282, 1, 512, latF (lB (SS.P (SS.put s q bs))) (lW (SS.P (SS.put s q bs)))⟩,
                                ⟨33794, 5, 1, setRow
                                   (fun x j =>
                                    match j with
                                    | 0 => CV.i .i64 (Int.ofNat (List.length ((q, bs) :: SS.P s)))
                                    | 1 => CV.i .i64 (Int.ofNat (SS.wr (SS.put s q bs)))
                                    | 2 => CV.b (SS.off (SS.put s q bs))
                                    | 3 => CV.b (SS.armed (SS.put s q bs))
                                    | x => CV.i .i64 (Int.ofNat (SS.left (SS.put s q bs))))
                                   0 1 [CV.i .i64 (Int.ofNat (SS.wr (SS.put s q bs)) + (1 : Int))]⟩]))
                             T.e T.e,
                           next := 1, log := [0, 0] })
                         Orc.z) ∧
                       ((!SS.armed (SS.put s q bs)) = false →
                        True ∧
                         True ∧
                          (decide (Int.ofNat (SS.left (SS.put s q bs)) = (0 : Int)) = true →
                            True ∧
                             True ∧
                              True ∧
                               True ∧
                                True ∧
                                 K
                                  (Res.rv (AV.i .i64 (13 : Int))
                                   {
                                    tree :=
                                     T.n
                                      (some
                                       (AObj.segs 69 33799
                                        [⟨0, 1, 1, oneF (CV.i .i64 (Int.ofNat (SS.n (SS.put s q bs))))⟩, ⟨1, 65, 512, durF (SS.dur (SS.put s q bs)) (SS.torn (SS.put s q bs))⟩, ⟨33281, 1, 1, oneF (CV.opv (pB (SS.P (SS.put s q bs))) 66 (pW (SS.P (SS.put s q bs))))⟩, ⟨33282, 1, 512, latF (lB (SS.P (SS.put s q bs))) (lW (SS.P (SS.put s q bs)))⟩,
                                         ⟨33794, 5, 1, setRow
                                          (fun i j =>
                                           match Nat.ble 2 j with
                                           | true =>
                                            match [CV.b true][j - 2 % 5]? with
                                            | some c =>
                                             zipCV (Nat.beq i 0) c
                                              (Seg.f
                                               ⟨33794, 5, 1, setRow
                                                  (fun x j =>
                                                   match j with
                                                   | 0 => CV.i .i64 (Int.ofNat (List.length ((q, bs) :: SS.P s)))
                                                   | 1 => CV.i .i64 (Int.ofNat (SS.wr (SS.put s q bs)))
                                                   | 2 => CV.b (SS.off (SS.put s q bs))
                                                   | 3 => CV.b (SS.armed (SS.put s q bs))
                                                   | x => CV.i .i64 (Int.ofNat (SS.left (SS.put s q bs))))
                                                  0 1 [CV.i .i64 (Int.ofNat (SS.wr (SS.put s q bs)) + (1 : Int))]⟩
                                               i j)
                                            | none =>
                                             Seg.f
                                              ⟨33794, 5, 1, setRow
                                                 (fun x j =>
                                                  match j with
                                                  | 0 => CV.i .i64 (Int.ofNat (List.length ((q, bs) :: SS.P s)))
                                                  | 1 => CV.i .i64 (Int.ofNat (SS.wr (SS.put s q bs)))
                                                  | 2 => CV.b (SS.off (SS.put s q bs))
                                                  | 3 => CV.b (SS.armed (SS.put s q bs))
                                                  | x => CV.i .i64 (Int.ofNat (SS.left (SS.put s q bs))))
                                                 0 1 [CV.i .i64 (Int.ofNat (SS.wr (SS.put s q bs)) + (1 : Int))]⟩
                                              i j
                                           | false =>
                                            Seg.f
                                             ⟨33794, 5, 1, setRow
                                                (fun x j =>
                                                 match j with
                                                 | 0 => CV.i .i64 (Int.ofNat (List.length ((q, bs) :: SS.P s)))
                                                 | 1 => CV.i .i64 (Int.ofNat (SS.wr (SS.put s q bs)))
                                                 | 2 => CV.b (SS.off (SS.put s q bs))
                                                 | 3 => CV.b (SS.armed (SS.put s q bs))
                                                 | x => CV.i .i64 (Int.ofNat (SS.left (SS.put s q bs))))
                                                0 1 [CV.i .i64 (Int.ofNat (SS.wr (SS.put s q bs)) + (1 : Int))]⟩
                                             i j)
                                          0 3 [CV.b false]⟩]))
                                      T.e T.e,
                                    next := 1, log := [0, 0, 0, 0] })
                                  Orc.z) ∧
                           (decide (Int.ofNat (SS.left (SS.put s q bs)) = (0 : Int)) = false →
                            True ∧
                             True ∧
                              ((-9223372036854775808 : Int) ≤ Int.ofNat (SS.left (SS.put s q bs)) - (1 : Int) ∧ Int.ofNat (SS.left (SS.put s q bs)) - (1 : Int) ≤ (9223372036854775807 : Int)) ∧
                               True ∧
                                True ∧
                                 K
                                  (Res.rv (AV.i .i64 (0 : Int))
                                   {
                                    tree :=
                                     T.n
                                      (some
                                       (AObj.segs 69 33799
                                        [⟨0, 1, 1, oneF (CV.i .i64 (Int.ofNat (SS.n (SS.put s q bs))))⟩, ⟨1, 65, 512, durF (SS.dur (SS.put s q bs)) (SS.torn (SS.put s q bs))⟩, ⟨33281, 1, 1, oneF (CV.opv (pB (SS.P (SS.put s q bs))) 66 (pW (SS.P (SS.put s q bs))))⟩, ⟨33282, 1, 512, latF (lB (SS.P (SS.put s q bs))) (lW (SS.P (SS.put s q bs)))⟩,
                                         ⟨33794, 5, 1, setRow
                                          (fun i j =>
                                           match Nat.ble 1 j with
                                           | true =>
                                            match [CV.i .i64 (Int.ofNat (SS.wr (SS.put s q bs)) + (1 : Int))][j - 1 % 5]? with
                                            | some c => zipCV (Nat.beq i 0) c (Seg.f ⟨33794, 5, 1, tailF (Int.ofNat (List.length (SS.P (SS.put s q bs)))) (Int.ofNat (SS.wr (SS.put s q bs))) (SS.off (SS.put s q bs)) (SS.armed (SS.put s q bs)) (Int.ofNat (SS.left (SS.put s q bs)))⟩ i j)
                                            | none => Seg.f ⟨33794, 5, 1, tailF (Int.ofNat (List.length (SS.P (SS.put s q bs)))) (Int.ofNat (SS.wr (SS.put s q bs))) (SS.off (SS.put s q bs)) (SS.armed (SS.put s q bs)) (Int.ofNat (SS.left (SS.put s q bs)))⟩ i j
                                           | false => Seg.f ⟨33794, 5, 1, tailF (Int.ofNat (List.length (SS.P (SS.put s q bs)))) (Int.ofNat (SS.wr (SS.put s q bs))) (SS.off (SS.put s q bs)) (SS.armed (SS.put s q bs)) (Int.ofNat (SS.left (SS.put s q bs)))⟩ i j)
                                          0 4 [CV.i .i64 (Int.ofNat (SS.left (SS.put s q bs)) - (1 : Int))]⟩]))
                                      T.e T.e,
                                    next := 1, log := [0, 0, 0] })
                                  Orc.z))) ∧
      ((!!decide ((0 : Int) ≤ Int.ofNat q ∧ Int.ofNat q < Int.ofNat (SS.n s))) = false → (!!decide ((0 : Int) ≤ Int.ofNat q ∧ Int.ofNat q < Int.ofNat (SS.n s))) = false ∧ (!!decide ((0 : Int) ≤ Int.ofNat q ∧ Int.ofNat q < Int.ofNat (SS.n s))) = false ∧ (!decide ((0 : Int) ≤ Int.ofNat q ∧ Int.ofNat q < Int.ofNat (SS.n s))) = true ∧ K (Res.rv (AV.i .i64 (2 : Int)) ⟨T.n (some (AObj.segs 69 33799 [⟨0, 1, 1, oneF (CV.i .i64 (Int.ofNat (SS.n s)))⟩, ⟨1, 65, 512, durF (SS.dur s) (SS.torn s)⟩, ⟨33281, 1, 1, oneF (CV.opv (pB (SS.P s)) 66 (pW (SS.P s)))⟩, ⟨33282, 1, 512, latF (lB (SS.P s)) (lW (SS.P s))⟩, ⟨33794, 5, 1, tailF (Int.ofNat (List.length (SS.P s))) (Int.ofNat (SS.wr s)) (SS.off s) (SS.armed s) (Int.ofNat (SS.left s))⟩])) T.e T.e, 1, []⟩) Orc.z))) := by kernel_rfl
theorem writeV_con (s : SS) (q : Nat) (bs : Nat → Int) (ok : s.Ok) (ho : s.off = false) (hq : q < s.n) :
    Con Tryd.prog 45 [.p 0 0, .i .i64 (Int.ofNat q), .sv 1 64 fun k _ => .i .u8 (bs k)] [some s.o] (.i .i64 (s.wrote q bs).payE) [.set (s.wrote q bs).pay.o] := by
  have e0 : s.faultE = 0 := by unfold SS.faultE; rw [ho]; rfl
  have e : (!!decide (0 ≤ Int.ofNat q ∧ Int.ofNat q < Int.ofNat s.n)) = true := by simp; omega
  have e1 : (!decide (0 ≤ Int.ofNat q ∧ Int.ofNat q < Int.ofNat s.n)) = false := by simp; omega
  obtain ⟨h1, h2, h3, h4, h5⟩ := ok
  have hb : (-9223372036854775808 : Int) ≤ Int.ofNat (s.put q bs).wr + 1 ∧ Int.ofNat (s.put q bs).wr + 1 ≤ 9223372036854775807 := by
    have : (s.put q bs).wr = s.wr := rfl
    rw [this]; simp <;> omega
  have ha := add2_con s q bs (by omega) h2
  obtain ⟨n, dur, torn, P, wr, off, armed, left⟩ := s
  cases armed with
  | false =>
    refine Con.runE (us := [.set (tO (Int.ofNat n) dur torn (pB ((q, bs) :: P)) (pW ((q, bs) :: P)) (lB ((q, bs) :: P)) (lW ((q, bs) :: P)) (setRow (tailF (Int.ofNat (P.length + 1)) (Int.ofNat wr) off false (Int.ofNat left)) 0 1 [.i .i64 (Int.ofNat wr + 1)]))]) [] []
      ((writeSA_vc _ q bs _).mpr ⟨fault2_con _, fun h => by rw [e0] at h; simp at h, fun _ => ⟨has2_con _ _, trivial, fun _ => ⟨e, e, e1, trivial, ⟨Nat.le_refl _, by omega⟩, trivial, ha, trivial, trivial, hb, trivial, trivial, trivial, trivial, trivial,
        fun _ => ⟨_, _, rfl, ret_k (by kernel_rfl)⟩, fun h => by simp [SS.put] at h⟩, fun h => by rw [e] at h; simp at h⟩⟩)
      ⟨(tail_oeq (cnt := Int.ofNat (P.length + 1)) (wr := Int.ofNat (wr + 1)) (off := off) (armed := false) (left := Int.ofNat left) ⟨rfl, rfl, rfl, rfl, rfl⟩).1, trivial⟩
  | true =>
    cases left with
    | zero =>
      refine Con.runE (us := [.set (tO (Int.ofNat n) dur torn (pB ((q, bs) :: P)) (pW ((q, bs) :: P)) (lB ((q, bs) :: P)) (lW ((q, bs) :: P)) (setRow (setRow (setRow (tailF (Int.ofNat (P.length + 1)) (Int.ofNat wr) off true 0) 0 1 [.i .i64 (Int.ofNat wr + 1)]) 0 2 [.b true]) 0 3 [.b false]))]) [] []
        ((writeSA_vc _ q bs _).mpr ⟨fault2_con _, fun h => by rw [e0] at h; simp at h, fun _ => ⟨has2_con _ _, trivial, fun _ => ⟨e, e, e1, trivial, ⟨Nat.le_refl _, by omega⟩, trivial, ha, trivial, trivial, hb, trivial, trivial, trivial, trivial, trivial,
          fun h => by simp [SS.put] at h, fun _ => ⟨trivial, trivial, fun _ => ⟨trivial, trivial, trivial, trivial, trivial, _, _, rfl, ret_k (by kernel_rfl)⟩, fun h => by simp [SS.put] at h⟩⟩, fun h => by rw [e] at h; simp at h⟩⟩)
        ⟨(tail_oeq (cnt := Int.ofNat (P.length + 1)) (wr := Int.ofNat (wr + 1)) (off := true) (armed := false) (left := 0) ⟨rfl, rfl, rfl, rfl, rfl⟩).1, trivial⟩
    | succ left =>
      refine Con.runE (us := [.set (tO (Int.ofNat n) dur torn (pB ((q, bs) :: P)) (pW ((q, bs) :: P)) (lB ((q, bs) :: P)) (lW ((q, bs) :: P)) (setRow (setRow (tailF (Int.ofNat (P.length + 1)) (Int.ofNat wr) off true (Int.ofNat (left + 1))) 0 1 [.i .i64 (Int.ofNat wr + 1)]) 0 4 [.i .i64 (Int.ofNat (left + 1) - 1)]))]) [] []
        ((writeSA_vc _ q bs _).mpr ⟨fault2_con _, fun h => by rw [e0] at h; simp at h, fun _ => ⟨has2_con _ _, trivial, fun _ => ⟨e, e, e1, trivial, ⟨Nat.le_refl _, by omega⟩, trivial, ha, trivial, trivial, hb, trivial, trivial, trivial, trivial, trivial,
          fun h => by simp [SS.put] at h, fun _ => ⟨trivial, trivial, fun h => by have h' : Int.ofNat (left + 1) = 0 := of_decide_eq_true h; exact absurd h' (by simp <;> omega), fun _ => ⟨trivial, trivial, ?_, trivial, trivial, _, _, rfl, ret_k (by kernel_rfl)⟩⟩⟩, fun h => by rw [e] at h; simp at h⟩⟩)
        ⟨(tail_oeq (cnt := Int.ofNat (P.length + 1)) (wr := Int.ofNat (wr + 1)) (off := off) (armed := true) (left := Int.ofNat left) ⟨rfl, rfl, rfl, rfl, by show CV.i .i64 (Int.ofNat (left + 1) - 1) = _; simp⟩).1, trivial⟩
      simp [SS.put] at h4 ⊢
      omega
theorem writeVB_con (s : SS) (q : Nat) (bs : Nat → Int) (ho : s.off = true) :
    Con Tryd.prog 45 [.p 0 0, .i .i64 (Int.ofNat q), .sv 1 64 fun k _ => .i .u8 (bs k)] [some s.o] (.i .i64 13) [.set s.o] := by
  have e0 : s.faultE = 13 := by unfold SS.faultE; rw [ho]; rfl
  have h : Con Tryd.prog 45 [.p 0 0, .i .i64 (Int.ofNat q), .sv 1 64 fun k _ => .i .u8 (bs k)] [some s.o] (.i .i64 13) [.keep] := by
    obtain ⟨n, dur, torn, P, wr, off, armed, left⟩ := s
    refine con_of_run [] [] ((writeSA_vc _ q bs _).mpr ⟨fault2_con _, fun _ => ?_, fun h => (by rw [e0] at h; simp at h)⟩)
    rw [e0]
    exact ⟨_, _, rfl, ret_k (by kernel_rfl)⟩
  exact h.oeq (OEqL.refl _) (OEqL.refl _)
theorem writeW_con (s : SS) (q : Nat) (bs : Nat → Int) (ok : s.Ok) (hq : q < s.n) :
    Con Tryd.prog 45 [.p 0 0, .i .i64 (Int.ofNat q), .sv 1 64 fun k _ => .i .u8 (bs k)] [some s.o] (.i .i64 (s.wrE (Int.ofNat q) 64)) [.set (s.wrS (Int.ofNat q) 64 bs).o] := by
  cases ho : s.off with
  | true =>
    have e1 : s.wrE (Int.ofNat q) 64 = 13 := by unfold SS.wrE; rw [ho]
    have e2 : s.wrS (Int.ofNat q) 64 bs = s := by unfold SS.wrS; rw [ho]
    rw [e1, e2]
    exact writeVB_con s q bs ho
  | false =>
    have hd : decide (0 ≤ Int.ofNat q ∧ Int.ofNat q < Int.ofNat s.n ∧ 64 = 64) = true := by simp; omega
    have e1 : s.wrE (Int.ofNat q) 64 = (s.wrote q bs).payE := by unfold SS.wrE; rw [ho, hd]; exact Eq.refl _
    have e2 : s.wrS (Int.ofNat q) 64 bs = (s.wrote q bs).pay := by unfold SS.wrS; rw [ho, hd]; exact Eq.refl _
    rw [e1, e2]
    exact writeV_con s q bs ok ho hq
end Go.Proofs.St
namespace Go.Proofs.Cl
open Go Go.Sim Go.Proofs Go.Proofs.Cd Go.Proofs.St Go.Proofs.YtiihmkiiojlcaaaDoor
structure Byt (s : SS) : Prop where
  dur : ∀ i j, ∃ n : Nat, n < 256 ∧ s.dur i j = Int.ofNat n
  P : ∀ w ∈ s.P, ∀ j, ∃ n : Nat, n < 256 ∧ w.2 j = Int.ofNat n
theorem lbs_mem : ∀ {P : PW} {k : Nat}, lB P k = true → ∃ w ∈ P, w.1 = k ∧ lbs P k = w.2
  | [], k, h => by cases h
  | w :: P, k, h => by
    have h' : (bif Nat.beq k w.1 then true else lB P k) = true := h
    show ∃ w' ∈ w :: P, w'.1 = k ∧ (bif Nat.beq k w.1 then w.2 else lbs P k) = w'.2
    cases hb : Nat.beq k w.1 with
    | true => exact ⟨w, List.mem_cons_self, (Nat.eq_of_beq_eq_true hb).symm, rfl⟩
    | false =>
      rw [hb] at h'
      obtain ⟨w', q1, q2, q3⟩ := lbs_mem (P := P) h'
      exact ⟨w', List.mem_cons_of_mem _ q1, q2, q3⟩
theorem Byt.rd {s : SS} (h : Byt s) (i : Int) (j : Nat) : ∃ n : Nat, n < 256 ∧ s.rdB i j = Int.ofNat n := by
  unfold SS.rdB
  cases hb : lB s.P i.toNat with
  | true =>
    obtain ⟨w, q1, _, q3⟩ := lbs_mem hb
    simp only [q3]
    exact h.P w q1 j
  | false => exact h.dur i.toNat j
noncomputable def rdC (s : SS) (i : Int) : Nat → Nat := fun k => (s.rdB i k).toNat
theorem rdC_eq {s : SS} (h : Byt s) (i : Int) (j : Nat) : s.rdB i j = Int.ofNat (rdC s i j) := by
  obtain ⟨n, _, e⟩ := h.rd i j
  unfold rdC; rw [e]; exact Eq.refl _
theorem rdC_lt {s : SS} (h : Byt s) (i : Int) (j : Nat) : rdC s i j < 256 := by
  obtain ⟨n, hn, e⟩ := h.rd i j
  unfold rdC; rw [e]; exact hn
theorem readZ_con (s : SS) (i : Int) (hn : s.n ≤ 512) : Con Tryd.prog 42 [.p 0 0, .i .i64 i] [some s.o] (.tup [.sv 1 (s.rdN i) fun k _ => .i .u8 (s.rdB i k), .i .i64 (s.rdE i)]) [.keep, .gone] :=
  ((read_con s i hn).freeze (us' := [.keep, .gone]) (v' := .tup [.sv 1 (s.rdN i) (shiftF 0 fun k _ => .i .u8 (s.rdB i k)), .i .i64 (s.rdE i)]) 1 rfl ⟨.refl _, rfl, trivial⟩ (.inr ⟨by kernel_rfl, ⟨rfl, by omega⟩, trivial, trivial⟩))
theorem readT_con (s : SS) (i : Int) (hn : s.n ≤ 512) (hb : Byt s) (h : s.rdE i = 0) : Con Tryd.prog 42 [.p 0 0, .i .i64 i] [some s.o] (.tup [.sv 1 64 (byF (rdC s i)), .i .i64 0]) [.keep, .gone] := by
  have k := readZ_con s i hn
  rw [SS.rdN_64 h, h] at k
  exact k.post (.tup ⟨.sv fun a j _ _ => by show CV.i .u8 (s.rdB i a) = CV.i .u8 (Int.ofNat (rdC s i a)); rw [rdC_eq hb], .refl _, trivial⟩) (OVL.refl _)
theorem readF_con (s : SS) (i : Int) (hn : s.n ≤ 512) (h : s.rdE i ≠ 0) : Con Tryd.prog 42 [.p 0 0, .i .i64 i] [some s.o] (.tup [.sv 1 0 fun _ _ => .p0, .i .i64 (s.rdE i)]) [.keep, .gone] := by
  have k := readZ_con s i hn
  rw [SS.rdN_0 h] at k
  exact k.post (.tup ⟨.sv fun a j h0 _ => by omega, .refl _, trivial⟩) (OVL.refl _)
noncomputable def seeQ (s : SS) (a : Int) : Nat := match decide (s.rdE a = 0) with
  | true => lkQ (rdC s a)
  | false => 0
noncomputable def seeD (s : SS) (a : Int) : List Nat := match decide (s.rdE a = 0) with
  | true => lkD (rdC s a)
  | false => []
theorem lookT_vc (s : SS) (i w : Int) (K : Res → Orc → Prop) : runK Tryd.prog 1000000 (.call 29 [.p 0 0, .i .i64 i, .i .i64 w] (mkH [some s.o])) (Orc.inl (Orc.cal [0] (AV.tup [AV.sv 1 64 (byF (rdC s (i * 2 + w))), AV.i .i64 0]) [Upd.keep, Upd.gone] (Orc.cal [] (AV.agg [AV.i .i64 (Int.ofNat (lkQ (rdC s (i * 2 + w)))), AV.s (lkD (rdC s (i * 2 + w)))]) [] Orc.z))) K = (((-9223372036854775808) ≤ i * 2 ∧ i * (2 : Int) ≤ (9223372036854775807 : Int)) ∧ ((-9223372036854775808) ≤ i * 2 + w ∧ i * 2 + w ≤ 9223372036854775807) ∧ Con Tryd.prog 42 [AV.p 0 0, AV.i .i64 (i * 2 + w)] [some (SS.o s)] (AV.tup [AV.sv 1 64 (byF (rdC s (i * 2 + w))), AV.i .i64 0]) [Upd.keep, Upd.gone] ∧ Con Tryd.prog 43 [AV.sv 1 64 (byF (rdC s (i * 2 + w)))] [] (AV.agg [AV.i .i64 (Int.ofNat (lkQ (rdC s (i * 2 + w)))), AV.s (lkD (rdC s (i * 2 + w)))]) [] ∧ K (Res.rv (AV.agg [AV.i .i64 (Int.ofNat (lkQ (rdC s (i * 2 + w)))),
  AV.s (lkD (rdC s (i * 2 + w)))]) ⟨T.n (some (SS.o s)) (T.n (some (AObj.cells 45 2 [AV.i .i64 0, AV.s []] (T.n (some (AV.i .i64 (Int.ofNat (lkQ (rdC s (i * 2 + w)))))) (T.n (some (AV.s (lkD (rdC s (i * 2 + w))))) T.e T.e) T.e))) T.e T.e) (T.n none T.e T.e), 3, [1, 2, 1]⟩) Orc.z) := by kernel_rfl
theorem lookF_vc (s : SS) (i w : Int) (K : Res → Orc → Prop) : runK Tryd.prog 1000000 (.call 29 [.p 0 0, .i .i64 i, .i .i64 w] (mkH [some s.o])) (Orc.inl (Orc.cal [0] (AV.tup [AV.sv 1 0 fun x x_1 => CV.p0, AV.i .i64 (SS.rdE s (i * 2 + w))]) [Upd.keep, Upd.gone] (Orc.cal [] (AV.agg [AV.i .i64 0, AV.s []]) [] Orc.z))) K = (((-9223372036854775808) ≤ i * 2 ∧ i * (2 : Int) ≤ (9223372036854775807 : Int)) ∧ ((-9223372036854775808) ≤ i * 2 + w ∧ i * 2 + w ≤ 9223372036854775807) ∧ Con Tryd.prog 42 [AV.p 0 0, AV.i .i64 (i * 2 + w)] [some (SS.o s)] (AV.tup [AV.sv 1 0 fun x x_1 => CV.p0, AV.i .i64 (SS.rdE s (i * 2 + w))]) [Upd.keep, Upd.gone] ∧ Con Tryd.prog 43 [AV.sv 1 0 fun x x_1 => CV.p0] [] (AV.agg [AV.i .i64 0, AV.s []]) [] ∧ K (Res.rv (AV.agg [AV.i .i64 0, AV.s []]) ⟨T.n (some (SS.o s)) (T.n (some (AObj.cells 45 2 [AV.i .i64 0, AV.s []] (T.n (some (AV.i .i64 0)) (T.n (some (AV.s [])) T.e T.e)
  T.e))) T.e T.e) (T.n none T.e T.e), 3, [1, 2, 1]⟩) Orc.z) := by kernel_rfl
theorem look_con (s : SS) (i w : Int) (hn : s.n ≤ 512) (hb : Byt s) (hi : 0 ≤ i ∧ i < 256) (hw : 0 ≤ w ∧ w ≤ 1) :
    Con Tryd.prog 29 [.p 0 0, .i .i64 i, .i .i64 w] [some s.o] (.agg [.i .i64 (Int.ofNat (seeQ s (i * 2 + w))), .s (seeD s (i * 2 + w))]) [.keep] := by
  by_cases h : s.rdE (i * 2 + w) = 0
  · have e1 : seeQ s (i * 2 + w) = lkQ (rdC s (i * 2 + w)) := by unfold seeQ; rw [decide_eq_true h]
    have e2 : seeD s (i * 2 + w) = lkD (rdC s (i * 2 + w)) := by unfold seeD; rw [decide_eq_true h]
    rw [e1, e2]
    exact con_of_run [] [] ((lookT_vc s i w _).mpr ⟨by omega, by omega, readT_con s _ hn hb h, standing64_con _ fun k _ => rdC_lt hb _ k, _, _, rfl, ret_k (by kernel_rfl)⟩)
  · have e1 : seeQ s (i * 2 + w) = 0 := by unfold seeQ; rw [decide_eq_false h]
    have e2 : seeD s (i * 2 + w) = [] := by unfold seeD; rw [decide_eq_false h]
    rw [e1, e2]
    exact con_of_run [] [] ((lookF_vc s i w _).mpr ⟨by omega, by omega, readF_con s _ hn h, standing0_con _, _, _, rfl, ret_k (by kernel_rfl)⟩)
structure OkM (s : SS) (m : Nat) : Prop where
  n : s.n ≤ 512
  P : s.P.length ≤ m
  wr : s.wr ≤ m
  left : s.left < 9223372036854775808
  at_ : ∀ w ∈ s.P, w.1 < s.n
theorem OkM.ok {s : SS} {m : Nat} (h : OkM s m) (hm : m < 1073741824) : s.Ok := ⟨h.n, by have := h.P; omega, by have := h.wr; omega, h.left, h.at_⟩
theorem OkM.mono {s : SS} {m k : Nat} (h : OkM s m) (hm : m ≤ k) : OkM s k := ⟨h.n, by have := h.P; omega, by have := h.wr; omega, h.left, h.at_⟩
theorem wrS_off {s : SS} (ho : s.off = true) (a : Int) (bs : Nat → Int) : s.wrS a 64 bs = s := by unfold SS.wrS; rw [ho]
theorem wrS_on {s : SS} {q : Nat} (ho : s.off = false) (hq : q < s.n) (bs : Nat → Int) : s.wrS (Int.ofNat q) 64 bs = (s.wrote q bs).pay := by
  have hd : decide (0 ≤ Int.ofNat q ∧ Int.ofNat q < Int.ofNat s.n ∧ 64 = 64) = true := by simp; omega
  unfold SS.wrS; rw [ho, hd]; exact Eq.refl _
theorem pay_or (s : SS) : s.pay = s ∨ s.pay = { s with off := true, armed := false } ∨ s.pay = { s with left := s.left - 1 } := by
  unfold SS.pay
  cases s.armed with
  | false => exact .inl rfl
  | true =>
    cases Nat.beq s.left 0 with
    | true => exact .inr (.inl rfl)
    | false => exact .inr (.inr rfl)
theorem OkM.wrS {s : SS} {m q : Nat} (h : OkM s m) (hq : q < s.n) (bs : Nat → Int) : OkM (s.wrS (Int.ofNat q) 64 bs) (m + 1) := by
  cases ho : s.off with
  | true => rw [wrS_off ho]; exact h.mono (Nat.le_succ m)
  | false =>
    rw [wrS_on ho hq]
    have base : OkM (s.wrote q bs) (m + 1) := ⟨h.n, by have := h.P; show (s.P.length + 1) ≤ _; omega, by have := h.wr; show s.wr + 1 ≤ _; omega, h.left, fun w hw => by
      rcases List.mem_cons.1 hw with rfl | hw
      · exact hq
      · exact h.at_ w hw⟩
    rcases pay_or (s.wrote q bs) with e | e | e <;> rw [e]
    · exact base
    · exact ⟨base.n, base.P, base.wr, base.left, base.at_⟩
    · exact ⟨base.n, base.P, base.wr, by have := base.left; show (s.wrote q bs).left - 1 < _; omega, base.at_⟩
theorem Byt.wrS {s : SS} {q : Nat} {bs : Nat → Int} (h : Byt s) (hq : q < s.n) (hb : ∀ j, ∃ n : Nat, n < 256 ∧ bs j = Int.ofNat n) : Byt (s.wrS (Int.ofNat q) 64 bs) := by
  cases ho : s.off with
  | true => rw [wrS_off ho]; exact h
  | false =>
    rw [wrS_on ho hq]
    have base : Byt (s.wrote q bs) := ⟨h.dur, fun w hw j => by
      rcases List.mem_cons.1 hw with rfl | hw
      · exact hb j
      · exact h.P w hw j⟩
    rcases pay_or (s.wrote q bs) with e | e | e <;> rw [e]
    · exact base
    · exact ⟨base.dur, base.P⟩
    · exact ⟨base.dur, base.P⟩
theorem durL_byt {dur : Nat → Nat → Int} (h : ∀ i j, ∃ n : Nat, n < 256 ∧ dur i j = Int.ofNat n) : ∀ (P : PW), (∀ w ∈ P, ∀ j, ∃ n : Nat, n < 256 ∧ w.2 j = Int.ofNat n) → ∀ i j, ∃ n : Nat, n < 256 ∧ durL dur P i j = Int.ofNat n
  | [], _, i, j => h i j
  | w :: P, hP, i, j => by
    have ih := durL_byt h P (fun w hw => hP w (List.mem_cons_of_mem _ hw)) i j
    have hw := hP w List.mem_cons_self j
    first
    | (show ∃ n : Nat, n < 256 ∧ (bif Nat.beq i w.1 then w.2 else durL dur P i) j = Int.ofNat n
       cases Nat.beq i w.1
       · exact ih
       · exact hw)
    | (show ∃ n : Nat, n < 256 ∧ durL (fun k => bif Nat.beq k w.1 then w.2 else dur k) P i j = Int.ofNat n
       exact durL_byt (fun i j => by
         show ∃ n : Nat, n < 256 ∧ (bif Nat.beq i w.1 then w.2 else dur i) j = Int.ofNat n
         cases Nat.beq i w.1
         · exact h i j
         · exact hP w List.mem_cons_self j) P (fun w hw => hP w (List.mem_cons_of_mem _ hw)) i j)
theorem Byt.flush {s : SS} (h : Byt s) (m : Nat) : Byt (s.flush m) :=
  ⟨durL_byt h.dur _ fun w hw => h.P w (List.mem_of_mem_drop hw), fun w hw => by cases hw⟩
theorem Byt.bar {s : SS} (h : Byt s) : Byt s.bar := by
  unfold SS.bar
  split
  · exact h
  · exact h.flush _
theorem OkM.bar {s : SS} {m : Nat} (h : OkM s m) : OkM s.bar m := by
  unfold SS.bar
  split
  · exact h
  · exact ⟨h.n, Nat.zero_le _, h.wr, h.left, fun w hw => by cases hw⟩
noncomputable def wrote (s : SS) (a q : Int) (d : List Nat) : SS := s.wrS a 64 fun k => Int.ofNat (sectB q.toNat d k)
noncomputable def cmE (s : SS) (a q : Int) (d : List Nat) : Int := match decide (s.wrE a 64 = 0) with
  | true => (wrote s a q d).faultE
  | false => s.wrE a 64
noncomputable def cmS (s : SS) (a q : Int) (d : List Nat) : SS := match decide (s.wrE a 64 = 0) with
  | true => (wrote s a q d).bar
  | false => wrote s a q d
theorem commit_vc (s : SS) (i q : Int) (d : List Nat) (K : Res → Orc → Prop) : runK Tryd.prog 1000000 (.call 36 [.p 0 0, .i .i64 i, .agg [.i .i64 q, .s d]] (mkH [some s.o])) (Orc.cal [] (AV.sv 1 64 (byF (sectB (Int.toNat q) d))) [] (Orc.cal [0] (AV.i .i64 (SS.wrE s i 64)) [Upd.set (SS.o (SS.wrS s i 64 fun k => Int.ofNat (sectB (Int.toNat q) d k)))] (Orc.s Orc.z (Orc.cal [0] (AV.i .i64 (SS.faultE (SS.wrS s i 64 fun k => Int.ofNat (sectB (Int.toNat q) d k)))) [Upd.set (SS.o (SS.bar (SS.wrS s i 64 fun k => Int.ofNat (sectB (Int.toNat q) d k))))] Orc.z)))) K = (Con Tryd.prog 46 [AV.agg [AV.i .i64 q, AV.s d]] [] (AV.sv 1 64 (byF (sectB (Int.toNat q) d))) [] ∧ Con Tryd.prog 45 [AV.p 0 0, AV.i .i64 i, AV.sv 1 64 (byF (sectB (Int.toNat q) d))] [some (SS.o s)] (AV.i .i64 (SS.wrE s i 64)) [Upd.set (SS.o (SS.wrS s i 64 fun k => Int.ofNat (sectB (Int.toNat q) d k)))] ∧ ((!decide (SS.wrE s i 64 = 0))
  = true → K (Res.rv (AV.i .i64 (SS.wrE s i 64)) ⟨T.n (some (SS.o (SS.wrS s i 64 fun k => Int.ofNat (sectB (Int.toNat q) d k)))) (T.n (some (AObj.cells 45 2 [] (T.n (some (AV.i .i64 q)) (T.n (some (AV.s d)) T.e T.e) T.e))) T.e T.e) T.e, 2, [0, 1]⟩) Orc.z) ∧ ((!decide (SS.wrE s i 64 = 0)) = false → Con Tryd.prog 47 [AV.p 0 0] [some (SS.o (SS.wrS s i 64 fun k => Int.ofNat (sectB (Int.toNat q) d k)))] (AV.i .i64 (SS.faultE (SS.wrS s i 64 fun k => Int.ofNat (sectB (Int.toNat q) d k)))) [Upd.set (SS.o (SS.bar (SS.wrS s i 64 fun k => Int.ofNat (sectB (Int.toNat q) d k))))] ∧ K (Res.rv (AV.i .i64 (SS.faultE (SS.wrS s i 64 fun k => Int.ofNat (sectB (Int.toNat q) d k)))) ⟨T.n (some (SS.o (SS.bar (SS.wrS s i 64 fun k => Int.ofNat (sectB (Int.toNat q) d k))))) (T.n (some (AObj.cells 45 2 [] (T.n (some (AV.i .i64 q)) (T.n (some (AV.s d)) T.e T.e) T.e))) T.e T.e) T.e, 2, [0, 0, 1]⟩) Orc.z)) := by
  kernel_rfl
theorem commit_con (s : SS) (a q m : Nat) (d : List Nat) (ok : OkM s m) (hm : m < 1073741823) (ha : a < s.n) (hd : ∀ x ∈ d, x < 256) (hl : d.length ≤ 51) :
    Con Tryd.prog 36 [.p 0 0, .i .i64 (Int.ofNat a), .agg [.i .i64 (Int.ofNat q), .s d]] [some s.o] (.i .i64 (cmE s (Int.ofNat a) (Int.ofNat q) d)) [.set (cmS s (Int.ofNat a) (Int.ofNat q) d).o] := by
  have ok1 := ok.wrS ha (fun k => Int.ofNat (sectB q d k))
  have k1 : Con Tryd.prog 45 [.p 0 0, .i .i64 (Int.ofNat a), .sv 1 64 (byF (sectB q d))] [some s.o] (.i .i64 (s.wrE (Int.ofNat a) 64)) [.set (s.wrS (Int.ofNat a) 64 fun k => Int.ofNat (sectB q d k)).o] :=
    writeW_con s a (fun k => Int.ofNat (sectB q d k)) (ok.ok (by omega)) ha
  have k2 := barrier_con (s.wrS (Int.ofNat a) 64 fun k => Int.ofNat (sectB q d k)) (by have := ok1.P; omega) (fun w hw => by have := ok1.at_ w hw; have := ok1.n; omega)
  by_cases h : s.wrE (Int.ofNat a) 64 = 0
  · have e1 : cmE s (Int.ofNat a) (Int.ofNat q) d = (s.wrS (Int.ofNat a) 64 fun k => Int.ofNat (sectB q d k)).faultE := by unfold cmE; rw [decide_eq_true h]; exact Eq.refl _
    have e2 : cmS s (Int.ofNat a) (Int.ofNat q) d = (s.wrS (Int.ofNat a) 64 fun k => Int.ofNat (sectB q d k)).bar := by unfold cmS; rw [decide_eq_true h]; exact Eq.refl _
    rw [e1, e2]
    refine con_of_run [] [] ((commit_vc s (Int.ofNat a) (Int.ofNat q) d _).mpr ⟨sector_con q d hd hl, k1, fun h' => ?_, fun _ => ⟨k2, _, _, rfl, ret_k (by kernel_rfl)⟩⟩)
    rw [h] at h'; cases h'
  · have e1 : cmE s (Int.ofNat a) (Int.ofNat q) d = s.wrE (Int.ofNat a) 64 := by unfold cmE; rw [decide_eq_false h]
    have e2 : cmS s (Int.ofNat a) (Int.ofNat q) d = s.wrS (Int.ofNat a) 64 fun k => Int.ofNat (sectB q d k) := by unfold cmS; rw [decide_eq_false h]; exact Eq.refl _
    rw [e1, e2]
    refine con_of_run [] [] ((commit_vc s (Int.ofNat a) (Int.ofNat q) d _).mpr ⟨sector_con q d hd hl, k1, fun _ => ⟨_, _, rfl, ret_k (by kernel_rfl)⟩, fun h' => ?_⟩)
    rw [decide_eq_false h] at h'; cases h'
structure CS where
  n : Nat
  q : Nat → Nat
  d : Nat → List Nat
  sp : Nat → Nat
  dead : Bool
noncomputable def CS.o (c : CS) : AObj := clO c.n c.q c.d c.sp c.dead
theorem has_vc (n : Nat) (cq : Nat → Nat) (cd : Nat → List Nat) (cs : Nat → Nat) (dd : Bool) (ss : SS) (i : Int) (K : Res → Orc → Prop) : runK Tryd.prog 1000000 (.call 35 [.p 0 0, .i .i64 i] (mkH [some (clO n cq cd cs dd), some ss.o])) (Orc.s (Orc.t (Orc.t (Orc.inl (Orc.c (Orc.t (Orc.t Orc.z)))))) (Orc.f (Orc.f (Orc.f (Orc.f Orc.z))))) K = ((decide (0 ≤ i) = true → decide (0 ≤ i) = true ∧ decide (0 ≤ i) = true ∧ True ∧ True ∧ True ∧ decide (0 ≤ i) = true ∧ decide (0 ≤ i) = true ∧ K (Res.rv (AV.b (decide (i < Int.ofNat n))) ⟨T.n (some (AObj.segs 74 771 [⟨1, 1, 1, oneF (CV.i .i64 (Int.ofNat n))⟩, ⟨2, 3, 256, cellF cq cd cs⟩, ⟨770, 1, 1, oneF (CV.b dd)⟩] [(0, AV.p 1 0)])) (T.n (some (SS.o ss)) T.e T.e) T.e, 2, []⟩) Orc.z) ∧ (decide (0 ≤ i) = false → decide (0 ≤ i) = false ∧ decide (0 ≤ i) = false ∧ decide (0 ≤ i) = false ∧ decide (0 ≤ i) = false ∧ K (Res.rv (AV.b false) ⟨T.n (some
  (AObj.segs 74 771 [⟨1, 1, 1, oneF (CV.i .i64 (Int.ofNat n))⟩, ⟨2, 3, 256, cellF cq cd cs⟩, ⟨770, 1, 1, oneF (CV.b dd)⟩] [(0, AV.p 1 0)])) (T.n (some (SS.o ss)) T.e T.e) T.e, 2, []⟩) Orc.z)) := by kernel_rfl
theorem len_vc (n : Nat) (cq : Nat → Nat) (cd : Nat → List Nat) (cs : Nat → Nat) (dd : Bool) (ss : SS) (K : Res → Orc → Prop) : runK Tryd.prog 1000000 (.call 21 [.p 0 0] (mkH [some (clO n cq cd cs dd), some ss.o])) (Orc.c Orc.z) K = (True ∧ True ∧ True ∧ K (Res.rv (AV.i .i64 (Int.ofNat n)) ⟨T.n (some (AObj.segs 74 771 [⟨1, 1, 1, oneF (CV.i .i64 (Int.ofNat n))⟩, ⟨2, 3, 256, cellF cq cd cs⟩, ⟨770, 1, 1, oneF (CV.b dd)⟩] [(0, AV.p 1 0)])) (T.n (some (SS.o ss)) T.e T.e) T.e, 2, []⟩) Orc.z) := by kernel_rfl
theorem has_con (c : CS) (s : SS) (i : Int) : Con Tryd.prog 35 [.p 0 0, .i .i64 i] [some c.o, some s.o] (.b (decide (0 ≤ i ∧ i < Int.ofNat c.n))) [.keep, .keep] := by
  refine con_of_run [] [] ((has_vc c.n c.q c.d c.sp c.dead s i _).mpr ⟨fun h => ?_, fun h => ?_⟩)
  · have h' : 0 ≤ i := of_decide_eq_true h
    have e : decide (0 ≤ i ∧ i < Int.ofNat c.n) = decide (i < Int.ofNat c.n) := by simp [h']
    rw [e]
    exact ⟨h, h, trivial, trivial, trivial, h, h, _, _, rfl, ret_k (by kernel_rfl)⟩
  · have h' : ¬ 0 ≤ i := of_decide_eq_false h
    have e : decide (0 ≤ i ∧ i < Int.ofNat c.n) = false := by simp [h']
    rw [e]
    exact ⟨h, h, h, h, _, _, rfl, ret_k (by kernel_rfl)⟩
theorem len_con (c : CS) (s : SS) : Con Tryd.prog 21 [.p 0 0] [some c.o, some s.o] (.i .i64 (Int.ofNat c.n)) [.keep, .keep] :=
  con_of_run [] [] ((len_vc c.n c.q c.d c.sp c.dead s _).mpr ⟨trivial, trivial, trivial, _, _, rfl, ret_k (by kernel_rfl)⟩)
theorem get_vc (n : Nat) (cq : Nat → Nat) (cd : Nat → List Nat) (cs : Nat → Nat) (dd : Bool) (ss : SS) (i : Int) (K : Res → Orc → Prop) : runK Tryd.prog 1000000 (.call 18 [.p 0 0, .i .i64 i] (mkH [some (clO n cq cd cs dd), some ss.o])) (Orc.cal [0, 1] (AV.b (decide (0 ≤ i ∧ i < Int.ofNat n))) [Upd.keep, Upd.keep] (Orc.s Orc.z (Orc.s Orc.z Orc.z))) K = (Con Tryd.prog 35 [AV.p 0 0, AV.i .i64 i] [some (clO n cq cd cs dd), some (SS.o ss)] (AV.b (decide (0 ≤ i ∧ i < Int.ofNat n))) [Upd.keep, Upd.keep] ∧ True ∧ ((!decide (0 ≤ i ∧ i < Int.ofNat n)) = true → K (Res.rv (AV.agg [AV.i .i64 0, AV.s []]) ⟨T.n (some (AObj.segs 74 771 [⟨1, 1, 1, oneF (CV.i .i64 (Int.ofNat n))⟩, ⟨2, 3, 256, cellF cq cd cs⟩, ⟨770, 1, 1, oneF (CV.b dd)⟩] [(0, AV.p 1 0)])) (T.n (some (SS.o ss)) T.e T.e) (T.n (some (AObj.cells 45 2 [AV.i .i64 0, AV.s []] (T.n (some (AV.i .i64 0)) (T.n (some (AV.s [])) T.e T.e) T.e))) T.e
  T.e), 3, [2, 2]⟩) Orc.z) ∧ ((!decide (0 ≤ i ∧ i < Int.ofNat n)) = false → True ∧ (0 ≤ i ∧ i < 256) ∧ True ∧ Int.toNat i < 256 ∧ K (Res.rv (AV.agg [AV.i .i64 (Int.ofNat (cq (Int.toNat i))), AV.s (cd (Int.toNat i))]) ⟨T.n (some (AObj.segs 74 771 [⟨1, 1, 1, oneF (CV.i .i64 (Int.ofNat n))⟩, ⟨2, 3, 256, cellF cq cd cs⟩, ⟨770, 1, 1, oneF (CV.b dd)⟩] [(0, AV.p 1 0)])) (T.n (some (SS.o ss)) T.e T.e) (T.n (some (AObj.cells 45 2 [AV.i .i64 0, AV.s []] (T.n (some (AV.i .i64 (Int.ofNat (cq (Int.toNat i))))) (T.n (some (AV.s (cd (Int.toNat i)))) T.e T.e) T.e))) T.e T.e), 3, [2, 2]⟩) Orc.z)) := by kernel_rfl
noncomputable def CS.getQ (c : CS) (i : Int) : Nat := match decide (0 ≤ i ∧ i < Int.ofNat c.n) with
  | true => c.q i.toNat
  | false => 0
noncomputable def CS.getD (c : CS) (i : Int) : List Nat := match decide (0 ≤ i ∧ i < Int.ofNat c.n) with
  | true => c.d i.toNat
  | false => []
theorem get_con (c : CS) (s : SS) (i : Int) (hn : c.n ≤ 256) : Con Tryd.prog 18 [.p 0 0, .i .i64 i] [some c.o, some s.o] (.agg [.i .i64 (Int.ofNat (c.getQ i)), .s (c.getD i)]) [.keep, .keep] := by
  cases hd : decide (0 ≤ i ∧ i < Int.ofNat c.n) with
  | true =>
    have h := of_decide_eq_true hd
    have h2 : i < 256 := by have := h.2; simp at this; omega
    have e1 : c.getQ i = c.q i.toNat := by unfold CS.getQ; rw [hd]
    have e2 : c.getD i = c.d i.toNat := by unfold CS.getD; rw [hd]
    rw [e1, e2]
    refine con_of_run [] [] ((get_vc c.n c.q c.d c.sp c.dead s i _).mpr ⟨has_con c s i, trivial, fun h' => (by rw [hd] at h'; cases h'), fun _ => ?_⟩)
    repeat' first | exact trivial | exact h.1 | exact h2 | (omega; done) | refine And.intro ?_ ?_ | exact ⟨_, _, rfl, ret_k (by kernel_rfl)⟩
  | false =>
    have e1 : c.getQ i = 0 := by unfold CS.getQ; rw [hd]
    have e2 : c.getD i = [] := by unfold CS.getD; rw [hd]
    rw [e1, e2]
    exact con_of_run [] [] ((get_vc c.n c.q c.d c.sp c.dead s i _).mpr ⟨has_con c s i, trivial, fun _ => ⟨_, _, rfl, ret_k (by kernel_rfl)⟩, fun h' => (by rw [hd] at h'; cases h')⟩)
noncomputable def CS.at_ (c : CS) (i : Int) : Int := i * 2 + Int.ofNat (c.sp i.toNat)
noncomputable def CS.nx (c : CS) (i : Int) : Int := Int.ofNat (c.q i.toNat) + 1
noncomputable def CS.no (c : CS) (i : Int) (x : List Nat) : Int := match c.dead with
  | true => 13
  | false => match decide (0 ≤ i ∧ i < Int.ofNat c.n) with
    | false => 2
    | true => match decide ((51 : Int) < Int.ofNat x.length) with
      | true => 2
      | false => match decide ((1099511627776 : Int) ≤ Int.ofNat (c.q i.toNat)) with
        | true => 15
        | false => 0
noncomputable def CS.putE (c : CS) (s : SS) (i : Int) (x : List Nat) : Int := match decide (c.no i x = 0) with
  | false => c.no i x
  | true => match decide (cmE s (c.at_ i) (c.nx i) x = 0) with
    | true => 0
    | false => 13
noncomputable def CS.upd (c : CS) (k : Nat) (q : Nat) (x : List Nat) (p : Nat) : CS :=
  { c with q := fun j => bif Nat.beq j k then q else c.q j, d := fun j => bif Nat.beq j k then x else c.d j, sp := fun j => bif Nat.beq j k then p else c.sp j }
noncomputable def CS.putC (c : CS) (s : SS) (i : Int) (x : List Nat) : CS := match decide (c.no i x = 0) with
  | false => c
  | true => match decide (cmE s (c.at_ i) (c.nx i) x = 0) with
    | true => c.upd i.toNat (c.q i.toNat + 1) x (1 - c.sp i.toNat)
    | false => { c with dead := true }
noncomputable def CS.putS (c : CS) (s : SS) (i : Int) (x : List Nat) : SS := match decide (c.no i x = 0) with
  | false => s
  | true => cmS s (c.at_ i) (c.nx i) x
theorem put_vc (n : Nat) (cq : Nat → Nat) (cd : Nat → List Nat) (cs : Nat → Nat) (dd : Bool) (ss : SS) (i : Int) (d : List Nat) (K : Res → Orc → Prop) : runK Tryd.prog 1000000 (.call 16 [.p 0 0, .i .i64 i, .s d] (mkH [some (clO n cq cd cs dd), some ss.o])) (Orc.c (Orc.s Orc.z (Orc.cal [0, 1] (AV.b (decide (0 ≤ i ∧ i < Int.ofNat n))) [Upd.keep, Upd.keep] (Orc.s (Orc.t (Orc.t (Orc.f (Orc.s Orc.z (Orc.s (Orc.s Orc.z (Orc.inl (Orc.cal [1] (AV.i .i64 (cmE ss (i * 2 + Int.ofNat (cs (Int.toNat i))) (Int.ofNat (cq (Int.toNat i)) + 1) d)) [Upd.set (SS.o (cmS ss (i * 2 + Int.ofNat (cs (Int.toNat i))) (Int.ofNat (cq (Int.toNat i)) + 1) d))] (Orc.s Orc.z (Orc.s Orc.z Orc.z))))) Orc.z))))) (Orc.f (Orc.f (Orc.t (Orc.c Orc.z)))))))) K = (True ∧ True ∧ True ∧ (dd = true → K (Res.rv (AV.i .i64 13) ⟨T.n (some (AObj.segs 74 771 [⟨1, 1, 1, oneF (CV.i .i64 (Int.ofNat n))⟩, ⟨2, 3, 256, cellF cq cd cs⟩, ⟨770, 1, 1, oneF (CV.b dd)⟩] [(0, AV.p 1 0)])) (T.n (some (SS.o ss)) T.e T.e) T.e, 2, []⟩)
 Orc.z) ∧ (dd = false → Con Tryd.prog 35 [AV.p 0 0, AV.i .i64 i] [some (clO n cq cd cs dd), some (SS.o ss)] (AV.b (decide (0 ≤ i ∧ i < Int.ofNat n))) [Upd.keep, Upd.keep] ∧ True ∧ ((!!decide (0 ≤ i ∧ i < Int.ofNat n)) = true → (!!decide (0 ≤ i ∧ i < Int.ofNat n)) = true ∧ (!!decide (0 ≤ i ∧ i < Int.ofNat n)) = true ∧ (!decide (0 ≤ i ∧ i < Int.ofNat n)) = false ∧ (decide (51 < Int.ofNat (List.length d)) = true → K (Res.rv (AV.i .i64 2) ⟨T.n (some (AObj.segs 74 771 [⟨1, 1, 1, oneF (CV.i .i64 (Int.ofNat n))⟩, ⟨2, 3, 256, cellF cq cd cs⟩, ⟨770, 1, 1, oneF (CV.b dd)⟩] [(0, AV.p 1 0)])) (T.n (some (SS.o ss)) T.e T.e) T.e, 2, []⟩) Orc.z) ∧ (decide (51 < Int.ofNat (List.length d)) = false → True ∧ (0 ≤ i ∧ i < 256) ∧ Int.toNat i < 256 ∧ True ∧ True ∧ (decide (1099511627776 ≤ Int.ofNat (cq (Int.toNat i))) = true → K (Res.rv (AV.i .i64 15) ⟨T.n (some (AObj.segs 74 771 [⟨1, 1, 1, oneF (CV.i .i64 (Int.ofNat n))⟩, ⟨2, 3, 256, cellF cq cd cs⟩, ⟨770, 1, 1, oneF (CV.b dd)⟩] [(0, AV.p 1 0)])) (T.n (some (SS.o ss)) T.e T.e) (T.n (some (AObj.cells 71 3 [AV.i .i64 0, AV.s [], AV.i .i64 0] (T.n (some (AV.i .i64 (Int.ofNat (cq (Int.toNat i))))) (T.n (some (AV.s (cd (Int.toNat i)))) T.e T.e) (T.n (some (AV.i .i64 (Int.ofNat (cs (Int.toNat i))))) T.e T.e)))) T.e T.e), 3, [2, 2]⟩)
 Orc.z) ∧ (decide (1099511627776 ≤ Int.ofNat (cq (Int.toNat i))) = false → True ∧ True ∧ ((-9223372036854775808) ≤ Int.ofNat (cq (Int.toNat i)) + 1 ∧ Int.ofNat (cq (Int.toNat i)) + (1 : Int) ≤ (9223372036854775807 : Int)) ∧ True ∧ True ∧ True ∧ ((-9223372036854775808) ≤ i * 2 ∧ i * (2 : Int) ≤ (9223372036854775807 : Int)) ∧ ((-9223372036854775808) ≤ i * 2 + Int.ofNat (cs (Int.toNat i)) ∧ i * 2 + Int.ofNat (cs (Int.toNat i)) ≤ 9223372036854775807) ∧ Con Tryd.prog 36 [AV.p 0 0, AV.i .i64 (i * 2 + Int.ofNat (cs (Int.toNat i))), AV.agg [AV.i .i64 (Int.ofNat (cq (Int.toNat i)) + 1), AV.s d]] [some (SS.o ss)] (AV.i .i64 (cmE ss (i * 2 + Int.ofNat (cs (Int.toNat i))) (Int.ofNat (cq (Int.toNat i)) + 1) d)) [Upd.set (SS.o (cmS ss (i * 2 + Int.ofNat (cs (Int.toNat i))) (Int.ofNat (cq (Int.toNat i)) + 1) d))] ∧ ((!decide (cmE ss (i * 2 + Int.ofNat (cs (Int.toNat i))) (Int.ofNat (cq (Int.toNat i)) +
 1) d = 0)) = true → True ∧ True ∧ K (Res.rv (AV.i .i64 13) ⟨T.n (some (AObj.segs 74 771 [⟨1, 1, 1, oneF (CV.i .i64 (Int.ofNat n))⟩, ⟨2, 3, 256, cellF cq cd cs⟩, ⟨770, 1, 1, fun i j => List.getD [CV.b true] (770 - 770 + i * 1 + j) CV.p0⟩] [(0, AV.p 1 0)])) (T.n (some (SS.o (cmS ss (i * 2 + Int.ofNat (cs (Int.toNat i))) (Int.ofNat (cq (Int.toNat i)) + 1) d))) (T.n (some (AObj.cells 45 2 [AV.i .i64 0, AV.s []] (T.n (some (AV.i .i64 (Int.ofNat (cq (Int.toNat i)) + 1))) (T.n (some (AV.s d)) T.e T.e) T.e))) T.e T.e) T.e) (T.n (some (AObj.cells 71 3 [AV.i .i64 0, AV.s [], AV.i .i64 0] (T.n (some (AV.i .i64 (Int.ofNat (cq (Int.toNat i))))) (T.n (some (AV.s (cd (Int.toNat i)))) T.e T.e) (T.n (some (AV.i .i64 (Int.ofNat (cs (Int.toNat i))))) T.e T.e)))) T.e T.e), 4, [0, 1, 3, 3, 2, 2]⟩) Orc.z) ∧ ((!decide (cmE ss (i * 2 + Int.ofNat (cs (Int.toNat i))) (Int.ofNat (cq
 (Int.toNat i)) + 1) d = 0)) = false → True ∧ ((-9223372036854775808 : Int) ≤ (1 : Int) - Int.ofNat (cs (Int.toNat i)) ∧ 1 - Int.ofNat (cs (Int.toNat i)) ≤ 9223372036854775807) ∧ True ∧ (0 ≤ i ∧ i < 256) ∧ Int.toNat i < 256 ∧ K (Res.rv (AV.i .i64 0) ⟨T.n (some (AObj.segs 74 771 [⟨1, 1, 1, oneF (CV.i .i64 (Int.ofNat n))⟩, ⟨2, 3, 256, setRow (fun i j => match j with | 0 => CV.i .i64 (Int.ofNat (cq i)) | 1 => CV.s (cd i) | x => CV.i .i64 (Int.ofNat (cs i))) (Int.toNat i) 0 [CV.i .i64 (Int.ofNat (cq (Int.toNat i)) + 1), CV.s d, CV.i .i64 (1 - Int.ofNat (cs (Int.toNat i)))]⟩, ⟨770, 1, 1, oneF (CV.b dd)⟩] [(0, AV.p 1 0)])) (T.n (some (SS.o (cmS ss (i * 2 + Int.ofNat (cs (Int.toNat i))) (Int.ofNat (cq (Int.toNat i)) + 1) d))) (T.n (some (AObj.cells 45 2 [AV.i .i64 0, AV.s []] (T.n (some (AV.i .i64 (Int.ofNat (cq (Int.toNat i)) + 1))) (T.n (some (AV.s d)) T.e T.e) T.e))) T.e T.e) T.e) (T.n (some (AObj.cells 71 3 [AV.i .i64 0, AV.s [], AV.i .i64 0] (T.n (some (AV.i .i64 (Int.ofNat (cq (Int.toNat i))))) (T.n (some (AV.s (cd (Int.toNat i)))) T.e T.e) (T.n (some (AV.i .i64 (Int.ofNat (cs (Int.toNat i))))) T.e T.e)))) T.e T.e), 4, [0, 1, 3, 3, 2, 2]⟩)
 Orc.z)))) ∧ ((!!decide (0 ≤ i ∧ i < Int.ofNat n)) = false → (!!decide (0 ≤ i ∧ i < Int.ofNat n)) = false ∧ (!!decide (0 ≤ i ∧ i < Int.ofNat n)) = false ∧ (!decide (0 ≤ i ∧ i < Int.ofNat n)) = true ∧ K (Res.rv (AV.i .i64 2) ⟨T.n (some (AObj.segs 74 771 [⟨1, 1, 1, oneF (CV.i .i64 (Int.ofNat n))⟩, ⟨2, 3, 256, cellF cq cd cs⟩, ⟨770, 1, 1, oneF (CV.b dd)⟩] [(0, AV.p 1 0)])) (T.n (some (SS.o ss)) T.e T.e) T.e, 2, []⟩) Orc.z))) := by kernel_rfl
theorem setRow3 {f : Nat → Nat → CV} {k : Nat} {a b e : CV} (i j : Nat) (hj : j < 3) : CW (setRow f k 0 [a, b, e] i j) (bif Nat.beq i k then [a, b, e].getD j .p0 else f i j) := by
  have : j = 0 ∨ j = 1 ∨ j = 2 := by omega
  rcases this with rfl | rfl | rfl <;> exact (zipCV_CW _ _ _).trans (.of (by cases Nat.beq i k <;> exact Eq.refl _))
theorem put_con (c : CS) (s : SS) (i : Int) (x : List Nat) (m : Nat) (hc : c.n ≤ 256) (hs : 2 * c.n ≤ s.n) (hp : ∀ k, c.sp k ≤ 1) (ok : OkM s m) (hm : m < 1073741823) (hx : ∀ b ∈ x, b < 256) :
    Con Tryd.prog 16 [.p 0 0, .i .i64 i, .s x] [some c.o, some s.o] (.i .i64 (c.putE s i x)) [.set (c.putC s i x).o, .set (c.putS s i x).o] := by
  have no : ∀ e : Int, e ≠ 0 → c.no i x = e → Con Tryd.prog 16 [.p 0 0, .i .i64 i, .s x] [some c.o, some s.o] (.i .i64 e) [.keep, .keep] →
      Con Tryd.prog 16 [.p 0 0, .i .i64 i, .s x] [some c.o, some s.o] (.i .i64 (c.putE s i x)) [.set (c.putC s i x).o, .set (c.putS s i x).o] := by
    intro e he hE h
    have d : decide (c.no i x = 0) = false := decide_eq_false (by rw [hE]; exact he)
    have e1 : c.putE s i x = e := by unfold CS.putE; rw [d]; exact hE
    have e2 : c.putC s i x = c := by unfold CS.putC; rw [d]
    have e3 : c.putS s i x = s := by unfold CS.putS; rw [d]
    rw [e1, e2, e3]
    exact h.oeq (OEqL.refl _) (OEqL.refl _)
  cases hdd : c.dead with
  | true =>
    refine no 13 (by decide) (by unfold CS.no; rw [hdd]) (con_of_run [] [] ((put_vc c.n c.q c.d c.sp c.dead s i x _).mpr ⟨trivial, trivial, trivial, fun _ => ?_, fun h => (by rw [hdd] at h; cases h)⟩))
    exact ⟨_, _, rfl, ret_k (by kernel_rfl)⟩
  | false =>
    cases hd : decide (0 ≤ i ∧ i < Int.ofNat c.n) with
    | false =>
      refine no 2 (by decide) (by unfold CS.no; rw [hdd, hd]) (con_of_run [] [] ((put_vc c.n c.q c.d c.sp c.dead s i x _).mpr ⟨trivial, trivial, trivial, fun h => (by rw [hdd] at h; cases h), fun _ => ⟨has_con c s i, trivial, fun h => (by rw [hd] at h; cases h), fun h => ⟨h, h, by rw [hd]; rfl, ?_⟩⟩⟩))
      exact ⟨_, _, rfl, ret_k (by kernel_rfl)⟩
    | true =>
      have hi := of_decide_eq_true hd
      have hi2 : i < 256 := by have := hi.2; simp at this; omega
      have hi3 : i.toNat < c.n := by have := hi.2; simp at this; omega
      cases h51 : decide ((51 : Int) < Int.ofNat x.length) with
      | true =>
        refine no 2 (by decide) (by unfold CS.no; rw [hdd, hd, h51]) (con_of_run [] [] ((put_vc c.n c.q c.d c.sp c.dead s i x _).mpr ⟨trivial, trivial, trivial, fun h => (by rw [hdd] at h; cases h), fun _ => ⟨has_con c s i, trivial, fun h => ⟨h, h, by rw [hd]; rfl, fun _ => ?_, fun h => (by rw [h51] at h; cases h)⟩, fun h => (by rw [hd] at h; cases h)⟩⟩))
        exact ⟨_, _, rfl, ret_k (by kernel_rfl)⟩
      | false =>
        have hl : x.length ≤ 51 := by have := of_decide_eq_false h51; simp at this; omega
        cases hw : decide ((1099511627776 : Int) ≤ Int.ofNat (c.q i.toNat)) with
        | true =>
          refine no 15 (by decide) (by unfold CS.no; rw [hdd, hd, h51, hw]) (con_of_run [] [] ((put_vc c.n c.q c.d c.sp c.dead s i x _).mpr ⟨trivial, trivial, trivial, fun h => (by rw [hdd] at h; cases h), fun _ => ⟨has_con c s i, trivial, fun h => ⟨h, h, by rw [hd]; rfl, fun h => (by rw [h51] at h; cases h), fun _ => ⟨trivial, ⟨hi.1, hi2⟩, by omega, trivial, trivial, fun _ => ?_, fun h => (by rw [hw] at h; cases h)⟩⟩, fun h => (by rw [hd] at h; cases h)⟩⟩))
          exact ⟨_, _, rfl, ret_k (by kernel_rfl)⟩
        | false =>
          have hq : c.q i.toNat < 1099511627776 := by have := of_decide_eq_false hw; simp at this; omega
          have hno : c.no i x = 0 := by unfold CS.no; rw [hdd, hd, h51, hw]
          have dno : decide (c.no i x = 0) = true := decide_eq_true hno
          have hsp := hp i.toNat
          have e3 : c.putS s i x = cmS s (i * 2 + Int.ofNat (c.sp i.toNat)) (Int.ofNat (c.q i.toNat) + 1) x := by unfold CS.putS; rw [dno]; exact Eq.refl _
          have ei : i * 2 + Int.ofNat (c.sp i.toNat) = Int.ofNat (i.toNat * 2 + c.sp i.toNat) := by simp; omega
          have eq : Int.ofNat (c.q i.toNat) + 1 = Int.ofNat (c.q i.toNat + 1) := by simp
          have k := commit_con s (i.toNat * 2 + c.sp i.toNat) (c.q i.toNat + 1) m x ok hm (by omega) hx hl
          rw [← ei, ← eq] at k
          have bq : (-9223372036854775808 : Int) ≤ Int.ofNat (c.q i.toNat) + 1 ∧ Int.ofNat (c.q i.toNat) + 1 ≤ 9223372036854775807 := by simp <;> omega
          have bi : (-9223372036854775808 : Int) ≤ i * 2 + Int.ofNat (c.sp i.toNat) ∧ i * 2 + Int.ofNat (c.sp i.toNat) ≤ 9223372036854775807 := by rw [ei]; simp <;> omega
          cases hE : decide (cmE s (i * 2 + Int.ofNat (c.sp i.toNat)) (Int.ofNat (c.q i.toNat) + 1) x = 0) with
          | true =>
            have e1 : c.putE s i x = 0 := by unfold CS.putE; rw [dno]; show (match decide (cmE s (i * 2 + Int.ofNat (c.sp i.toNat)) (Int.ofNat (c.q i.toNat) + 1) x = 0) with | true => (0 : Int) | false => 13) = 0; rw [hE]
            have e2 : c.putC s i x = c.upd i.toNat (c.q i.toNat + 1) x (1 - c.sp i.toNat) := by unfold CS.putC; rw [dno]; show (match decide (cmE s (i * 2 + Int.ofNat (c.sp i.toNat)) (Int.ofNat (c.q i.toNat) + 1) x = 0) with | true => c.upd i.toNat (c.q i.toNat + 1) x (1 - c.sp i.toNat) | false => { c with dead := true }) = _; rw [hE]
            rw [e1, e2, e3]
            have es : (1 : Int) - Int.ofNat (c.sp i.toNat) = Int.ofNat (1 - c.sp i.toNat) := by simp; omega
            refine Con.post (us := [.set (.segs 74 771 [⟨1, 1, 1, oneF (.i .i64 (Int.ofNat c.n))⟩, ⟨2, 3, 256, setRow (cellF c.q c.d c.sp) i.toNat 0 [.i .i64 (Int.ofNat (c.q i.toNat) + 1), .s x, .i .i64 ((1 : Int) - Int.ofNat (c.sp i.toNat))]⟩, ⟨770, 1, 1, oneF (.b c.dead)⟩] [(0, .p 1 0)]), .set (cmS s (i * 2 + Int.ofNat (c.sp i.toNat)) (Int.ofNat (c.q i.toNat) + 1) x).o])
              (con_of_run [] [] ((put_vc c.n c.q c.d c.sp c.dead s i x _).mpr ⟨trivial, trivial, trivial, fun h => (by rw [hdd] at h; cases h), fun _ => ⟨has_con c s i, trivial, fun h => ⟨h, h, by rw [hd]; rfl, fun h => (by rw [h51] at h; cases h), fun _ => ⟨trivial, ⟨hi.1, hi2⟩, by omega, trivial, trivial, fun h => (by rw [hw] at h; cases h),
                fun _ => ⟨trivial, trivial, bq, trivial, trivial, trivial, by omega, bi, k, fun h => (by rw [hE] at h; cases h), fun _ => ⟨trivial, by rw [es]; simp <;> omega, trivial, ⟨hi.1, hi2⟩, by omega, ?_⟩⟩⟩⟩, fun h => (by rw [hd] at h; cases h)⟩⟩))
              (.refl _) ⟨.segsW ⟨.refl _, ⟨rfl, rfl, rfl, fun a b ha hb => ?_⟩, .refl _, trivial⟩, .refl _, trivial⟩
            · exact ⟨_, _, rfl, ret_k (by kernel_rfl)⟩
            · refine (setRow3 a b hb).trans (.of ?_)
              rw [es, eq]
              show (bif Nat.beq a i.toNat then _ else cellF c.q c.d c.sp a b) = cellF (fun j => bif Nat.beq j i.toNat then c.q i.toNat + 1 else c.q j) (fun j => bif Nat.beq j i.toNat then x else c.d j) (fun j => bif Nat.beq j i.toNat then 1 - c.sp i.toNat else c.sp j) a b
              have hb : b < 3 := hb
              have : b = 0 ∨ b = 1 ∨ b = 2 := by omega
              rcases this with rfl | rfl | rfl <;> simp only [cellF] <;> cases Nat.beq a i.toNat <;> exact Eq.refl _
          | false =>
            have e1 : c.putE s i x = 13 := by unfold CS.putE; rw [dno]; show (match decide (cmE s (i * 2 + Int.ofNat (c.sp i.toNat)) (Int.ofNat (c.q i.toNat) + 1) x = 0) with | true => (0 : Int) | false => 13) = 13; rw [hE]
            have e2 : c.putC s i x = { c with dead := true } := by unfold CS.putC; rw [dno]; show (match decide (cmE s (i * 2 + Int.ofNat (c.sp i.toNat)) (Int.ofNat (c.q i.toNat) + 1) x = 0) with | true => c.upd i.toNat (c.q i.toNat + 1) x (1 - c.sp i.toNat) | false => { c with dead := true }) = _; rw [hE]
            rw [e1, e2, e3]
            refine Con.post (us := [.set (.segs 74 771 [⟨1, 1, 1, oneF (.i .i64 (Int.ofNat c.n))⟩, ⟨2, 3, 256, cellF c.q c.d c.sp⟩, ⟨770, 1, 1, fun a b => [CV.b true].getD (770 - 770 + a * 1 + b) .p0⟩] [(0, .p 1 0)]), .set (cmS s (i * 2 + Int.ofNat (c.sp i.toNat)) (Int.ofNat (c.q i.toNat) + 1) x).o])
              (con_of_run [] [] ((put_vc c.n c.q c.d c.sp c.dead s i x _).mpr ⟨trivial, trivial, trivial, fun h => (by rw [hdd] at h; cases h), fun _ => ⟨has_con c s i, trivial, fun h => ⟨h, h, by rw [hd]; rfl, fun h => (by rw [h51] at h; cases h), fun _ => ⟨trivial, ⟨hi.1, hi2⟩, by omega, trivial, trivial, fun h => (by rw [hw] at h; cases h),
              fun _ => ⟨trivial, trivial, bq, trivial, trivial, trivial, by omega, bi, k, fun _ => ⟨trivial, trivial, ?_⟩, fun h => (by rw [hE] at h; cases h)⟩⟩⟩, fun h => (by rw [hd] at h; cases h)⟩⟩))
              (.refl _) ⟨.segsW ⟨.refl _, .refl _, ⟨rfl, rfl, rfl, fun a b ha hb => ?_⟩, trivial⟩, .refl _, trivial⟩
            rotate_left
            · have ha : a = 0 := by have : a < 1 := ha; omega
              have hb : b = 0 := by have : b < 1 := hb; omega
              subst ha; subst hb; exact .refl _
            exact ⟨_, _, rfl, ret_k (by kernel_rfl)⟩
noncomputable def nwQ (q1 q2 : Nat) : Nat := match Nat.blt q1 q2 with
  | true => q2
  | false => q1
noncomputable def nwD (q1 q2 : Nat) (d1 d2 : List Nat) : List Nat := match Nat.blt q1 q2 with
  | true => d2
  | false => d1
noncomputable def nwS (q1 q2 : Nat) : Nat := match Nat.blt q1 q2 with
  | true => 0
  | false => match Nat.beq q1 0 with
    | true => 0
    | false => 1
theorem newer_vc (q1 q2 : Nat) (d1 d2 : List Nat) (K : Res → Orc → Prop) : runK Tryd.prog 1000000 (.call 28 [.agg [.i .i64 (Int.ofNat q1), .s d1], .agg [.i .i64 (Int.ofNat q2), .s d2]] (mkH [])) (Orc.s (Orc.s (Orc.t (Orc.t (Orc.t (Orc.s Orc.z Orc.z)))) (Orc.f (Orc.f (Orc.f (Orc.c Orc.z))))) (Orc.s (Orc.t (Orc.t (Orc.t (Orc.s Orc.z Orc.z)))) (Orc.f (Orc.f (Orc.f (Orc.c Orc.z)))))) K = (True ∧ True ∧ (decide (Int.ofNat q1 < Int.ofNat q2) = true → True ∧ ((decide (Int.ofNat q2 = Int.ofNat q1) && (natsEq d2 d1 && true)) = true → (decide (Int.ofNat q2 = Int.ofNat q1) && (natsEq d2 d1 && true)) = true ∧ (decide (Int.ofNat q2 = Int.ofNat q1) && (natsEq d2 d1 && true)) = true ∧ True ∧ (decide (Int.ofNat q2 = Int.ofNat q1) && (natsEq d2 d1 && true)) = true ∧ ((!(decide (Int.ofNat q2 = 0) && (natsEq d2 [] && true))) = true → K (Res.rv (AV.agg [AV.i .i64 (Int.ofNat q2), AV.s d2, AV.i .i64 1]) ⟨T.n
  (some (AObj.cells 45 2 [] (T.n (some (AV.i .i64 (Int.ofNat q1))) (T.n (some (AV.s d1)) T.e T.e) T.e))) (T.n (some (AObj.cells 45 2 [] (T.n (some (AV.i .i64 (Int.ofNat q2))) (T.n (some (AV.s d2)) T.e T.e) T.e))) (T.n (some (AObj.cells 45 2 [AV.i .i64 0, AV.s []] (T.n (some (AV.i .i64 (Int.ofNat q2))) (T.n (some (AV.s d2)) T.e T.e) T.e))) T.e T.e) T.e) (T.n (some (AObj.cells 71 3 [AV.i .i64 0, AV.s [], AV.i .i64 0] (T.n (some (AV.i .i64 (Int.ofNat q2))) (T.n (some (AV.s d2)) T.e T.e) (T.n (some (AV.i .i64 1)) T.e T.e)))) T.e T.e), 4, [2, 3, 3, 3, 2, 1, 0]⟩) Orc.z) ∧ ((!(decide (Int.ofNat q2 = 0) && (natsEq d2 [] && true))) = false → K (Res.rv (AV.agg [AV.i .i64 (Int.ofNat q2), AV.s d2, AV.i .i64 0]) ⟨T.n (some (AObj.cells 45 2 [] (T.n (some (AV.i .i64 (Int.ofNat q1))) (T.n (some (AV.s d1)) T.e T.e) T.e))) (T.n (some (AObj.cells 45 2 [] (T.n (some (AV.i .i64 (Int.ofNat q2))) (T.n (some
  (AV.s d2)) T.e T.e) T.e))) (T.n (some (AObj.cells 45 2 [AV.i .i64 0, AV.s []] (T.n (some (AV.i .i64 (Int.ofNat q2))) (T.n (some (AV.s d2)) T.e T.e) T.e))) T.e T.e) T.e) (T.n (some (AObj.cells 71 3 [AV.i .i64 0, AV.s [], AV.i .i64 0] (T.n (some (AV.i .i64 (Int.ofNat q2))) (T.n (some (AV.s d2)) T.e T.e) (T.n (some (AV.i .i64 0)) T.e T.e)))) T.e T.e), 4, [2, 3, 3, 3, 2, 1, 0]⟩) Orc.z)) ∧ ((decide (Int.ofNat q2 = Int.ofNat q1) && (natsEq d2 d1 && true)) = false → (decide (Int.ofNat q2 = Int.ofNat q1) && (natsEq d2 d1 && true)) = false ∧ (decide (Int.ofNat q2 = Int.ofNat q1) && (natsEq d2 d1 && true)) = false ∧ (decide (Int.ofNat q2 = Int.ofNat q1) && (natsEq d2 d1 && true)) = false ∧ K (Res.rv (AV.agg [AV.i .i64 (Int.ofNat q2), AV.s d2, AV.i .i64 0]) ⟨T.n (some (AObj.cells 45 2 [] (T.n (some (AV.i .i64 (Int.ofNat q1))) (T.n (some (AV.s d1)) T.e T.e) T.e))) (T.n (some (AObj.cells 45 2 []
  (T.n (some (AV.i .i64 (Int.ofNat q2))) (T.n (some (AV.s d2)) T.e T.e) T.e))) (T.n (some (AObj.cells 45 2 [AV.i .i64 0, AV.s []] (T.n (some (AV.i .i64 (Int.ofNat q2))) (T.n (some (AV.s d2)) T.e T.e) T.e))) T.e T.e) T.e) (T.n (some (AObj.cells 71 3 [AV.i .i64 0, AV.s [], AV.i .i64 0] (T.n (some (AV.i .i64 (Int.ofNat q2))) (T.n (some (AV.s d2)) T.e T.e) (T.n (some (AV.i .i64 0)) T.e T.e)))) T.e T.e), 4, [2, 3, 3, 3, 2, 1, 0]⟩) Orc.z)) ∧ (decide (Int.ofNat q1 < Int.ofNat q2) = false → True ∧ ((decide (Int.ofNat q1 = Int.ofNat q1) && (natsEq d1 d1 && true)) = true → (decide (Int.ofNat q1 = Int.ofNat q1) && (natsEq d1 d1 && true)) = true ∧ (decide (Int.ofNat q1 = Int.ofNat q1) && (natsEq d1 d1 && true)) = true ∧ True ∧ (decide (Int.ofNat q1 = Int.ofNat q1) && (natsEq d1 d1 && true)) = true ∧ ((!(decide (Int.ofNat q1 = 0) && (natsEq d1 [] && true))) = true → K (Res.rv (AV.agg [AV.i .i64
  (Int.ofNat q1), AV.s d1, AV.i .i64 1]) ⟨T.n (some (AObj.cells 45 2 [] (T.n (some (AV.i .i64 (Int.ofNat q1))) (T.n (some (AV.s d1)) T.e T.e) T.e))) (T.n (some (AObj.cells 45 2 [] (T.n (some (AV.i .i64 (Int.ofNat q2))) (T.n (some (AV.s d2)) T.e T.e) T.e))) (T.n (some (AObj.cells 45 2 [AV.i .i64 0, AV.s []] (T.n (some (AV.i .i64 (Int.ofNat q1))) (T.n (some (AV.s d1)) T.e T.e) T.e))) T.e T.e) T.e) (T.n (some (AObj.cells 71 3 [AV.i .i64 0, AV.s [], AV.i .i64 0] (T.n (some (AV.i .i64 (Int.ofNat q1))) (T.n (some (AV.s d1)) T.e T.e) (T.n (some (AV.i .i64 1)) T.e T.e)))) T.e T.e), 4, [2, 3, 3, 2, 1, 0]⟩) Orc.z) ∧ ((!(decide (Int.ofNat q1 = 0) && (natsEq d1 [] && true))) = false → K (Res.rv (AV.agg [AV.i .i64 (Int.ofNat q1), AV.s d1, AV.i .i64 0]) ⟨T.n (some (AObj.cells 45 2 [] (T.n (some (AV.i .i64 (Int.ofNat q1))) (T.n (some (AV.s d1)) T.e T.e) T.e))) (T.n (some (AObj.cells 45 2 [] (T.n (some
  (AV.i .i64 (Int.ofNat q2))) (T.n (some (AV.s d2)) T.e T.e) T.e))) (T.n (some (AObj.cells 45 2 [AV.i .i64 0, AV.s []] (T.n (some (AV.i .i64 (Int.ofNat q1))) (T.n (some (AV.s d1)) T.e T.e) T.e))) T.e T.e) T.e) (T.n (some (AObj.cells 71 3 [AV.i .i64 0, AV.s [], AV.i .i64 0] (T.n (some (AV.i .i64 (Int.ofNat q1))) (T.n (some (AV.s d1)) T.e T.e) (T.n (some (AV.i .i64 0)) T.e T.e)))) T.e T.e), 4, [2, 3, 3, 2, 1, 0]⟩) Orc.z)) ∧ ((decide (Int.ofNat q1 = Int.ofNat q1) && (natsEq d1 d1 && true)) = false → (decide (Int.ofNat q1 = Int.ofNat q1) && (natsEq d1 d1 && true)) = false ∧ (decide (Int.ofNat q1 = Int.ofNat q1) && (natsEq d1 d1 && true)) = false ∧ (decide (Int.ofNat q1 = Int.ofNat q1) && (natsEq d1 d1 && true)) = false ∧ K (Res.rv (AV.agg [AV.i .i64 (Int.ofNat q1), AV.s d1, AV.i .i64 0]) ⟨T.n (some (AObj.cells 45 2 [] (T.n (some (AV.i .i64 (Int.ofNat q1))) (T.n (some (AV.s d1)) T.e T.e)
  T.e))) (T.n (some (AObj.cells 45 2 [] (T.n (some (AV.i .i64 (Int.ofNat q2))) (T.n (some (AV.s d2)) T.e T.e) T.e))) (T.n (some (AObj.cells 45 2 [AV.i .i64 0, AV.s []] (T.n (some (AV.i .i64 (Int.ofNat q1))) (T.n (some (AV.s d1)) T.e T.e) T.e))) T.e T.e) T.e) (T.n (some (AObj.cells 71 3 [AV.i .i64 0, AV.s [], AV.i .i64 0] (T.n (some (AV.i .i64 (Int.ofNat q1))) (T.n (some (AV.s d1)) T.e T.e) (T.n (some (AV.i .i64 0)) T.e T.e)))) T.e T.e), 4, [2, 3, 3, 2, 1, 0]⟩) Orc.z))) := by kernel_rfl
theorem natsEq_same (a : List Nat) : natsEq a a = true := (natsEq_iff a a).2 rfl
theorem newer_con (q1 q2 : Nat) (d1 d2 : List Nat) (h : q1 = 0 → d1 = []) : Con Tryd.prog 28 [.agg [.i .i64 (Int.ofNat q1), .s d1], .agg [.i .i64 (Int.ofNat q2), .s d2]] [] (.agg [.i .i64 (Int.ofNat (nwQ q1 q2)), .s (nwD q1 q2 d1 d2), .i .i64 (Int.ofNat (nwS q1 q2))]) [] := by
  by_cases hlt : q1 < q2
  · have b : Nat.blt q1 q2 = true := by rw [Nat.blt_eq]; exact hlt
    have e1 : nwQ q1 q2 = q2 := by unfold nwQ; rw [b]
    have e2 : nwD q1 q2 d1 d2 = d2 := by unfold nwD; rw [b]
    have e3 : nwS q1 q2 = 0 := by unfold nwS; rw [b]
    have d1' : decide (Int.ofNat q1 < Int.ofNat q2) = true := by simp; omega
    have d2' : (decide (Int.ofNat q2 = Int.ofNat q1) && (natsEq d2 d1 && true)) = false := by
      have : decide (Int.ofNat q2 = Int.ofNat q1) = false := by simp; omega
      rw [this, Bool.false_and]
    rw [e1, e2, e3]
    refine con_of_run [] [] ((newer_vc q1 q2 d1 d2 _).mpr ?_)
    simp only [d1', d2', true_implies, false_implies, reduceCtorEq, and_true, true_and, Bool.true_eq_false, Bool.false_eq_true]
    repeat' first | exact trivial | refine And.intro ?_ ?_ | exact ⟨_, _, rfl, ret_k (by kernel_rfl)⟩
  · have b : Nat.blt q1 q2 = false := by rw [Bool.eq_false_iff, ne_eq, Nat.blt_eq]; exact hlt
    have e1 : nwQ q1 q2 = q1 := by unfold nwQ; rw [b]
    have e2 : nwD q1 q2 d1 d2 = d1 := by unfold nwD; rw [b]
    have d1' : decide (Int.ofNat q1 < Int.ofNat q2) = false := by simp <;> omega
    rw [e1, e2]
    by_cases hz : q1 = 0
    · have e3 : nwS q1 q2 = 0 := by unfold nwS; rw [b, hz]
      have hd := h hz
      subst hz; subst hd
      have dz : decide (Int.ofNat 0 = (0 : Int)) = true := rfl
      rw [e3]
      refine con_of_run [] [] ((newer_vc 0 q2 [] d2 _).mpr ?_)
      simp only [d1', dz, decide_true, natsEq_same, Bool.and_self, Bool.false_and, Bool.not_false, Bool.not_true, true_implies, false_implies, reduceCtorEq, and_true, true_and, Bool.true_eq_false, Bool.false_eq_true]
      repeat' first | exact trivial | refine And.intro ?_ ?_ | exact ⟨_, _, rfl, ret_k (by kernel_rfl)⟩
    · have b2 : Nat.beq q1 0 = false := by rw [Bool.eq_false_iff, ne_eq, Nat.beq_eq]; exact hz
      have e3 : nwS q1 q2 = 1 := by unfold nwS; rw [b, b2]
      have dz : decide (Int.ofNat q1 = (0 : Int)) = false := decide_eq_false (by simp <;> omega)
      rw [e3]
      refine con_of_run [] [] ((newer_vc q1 q2 d1 d2 _).mpr ?_)
      simp only [d1', dz, decide_true, natsEq_same, Bool.and_self, Bool.false_and, Bool.not_false, Bool.not_true, true_implies, false_implies, reduceCtorEq, and_true, true_and, Bool.true_eq_false, Bool.false_eq_true]
      repeat' first | exact trivial | refine And.intro ?_ ?_ | exact ⟨_, _, rfl, ret_k (by kernel_rfl)⟩
theorem seeQ_zero (s : SS) (a : Int) (h : seeQ s a = 0) : seeD s a = [] := by
  unfold seeQ at h
  unfold seeD
  cases hd : decide (s.rdE a = 0) with
  | false => rfl
  | true =>
    rw [hd] at h
    simp only at h ⊢
    unfold lkQ at h
    unfold lkD
    cases ho : okB (rdC s a) with
    | false => rw [cond_false]
    | true =>
      exfalso
      rw [ho, cond_true] at h
      unfold okB at ho
      simp only [Bool.and_eq_true, Nat.ble_eq] at ho
      have := ho.2.2.1
      omega
noncomputable def opQ (s : SS) (i : Nat) : Nat := nwQ (seeQ s (Int.ofNat i * 2 + 0)) (seeQ s (Int.ofNat i * 2 + 1))
noncomputable def opD (s : SS) (i : Nat) : List Nat := nwD (seeQ s (Int.ofNat i * 2 + 0)) (seeQ s (Int.ofNat i * 2 + 1)) (seeD s (Int.ofNat i * 2 + 0)) (seeD s (Int.ofNat i * 2 + 1))
noncomputable def opS (s : SS) (i : Nat) : Nat := nwS (seeQ s (Int.ofNat i * 2 + 0)) (seeQ s (Int.ofNat i * 2 + 1))
noncomputable def opened (s : SS) (n : Nat) : CS :=
  { n := n, q := fun i => bif Nat.blt i n then opQ s i else 0, d := fun i => bif Nat.blt i n then opD s i else [], sp := fun i => bif Nat.blt i n then opS s i else 0, dead := false }
noncomputable def CS.oa (c : CS) : AObj := .segs 74 771 [⟨1, 1, 1, oneF (.i .i64 (Int.ofNat c.n))⟩, ⟨2, 3, 256, cellF c.q c.d c.sp⟩, ⟨770, 1, 1, oneF (.b c.dead)⟩] [(0, .p 0 0)]
theorem openL_vc (s : SS) (n k : Nat) (ff : Nat → Nat → CV) (fd : Nat → Nat → CV) (K : Res → Orc → Prop) : runK Tryd.prog 1000000 (.code (loopAt Tryd.prog 8 0) 45 (mkT [(0, .p 0 0), (6, .p 1 0), (27, .i .i64 (Int.ofNat n)), (28, .i .i64 (Int.ofNat k))]) (mkH [some s.o, some (.segs 74 771 [⟨1, 1, 1, oneF (.i .i64 (Int.ofNat n))⟩, ⟨2, 3, 256, ff⟩, ⟨770, 1, 1, fd⟩] [(0, .p 0 0)])])) (Orc.s (Orc.cal [0] (AV.agg [AV.i .i64 (Int.ofNat (seeQ s (Int.ofNat k * (2 : Int) + (0 : Int)))), AV.s (seeD s (Int.ofNat k * (2 : Int) + (0 : Int)))]) [Upd.keep] (Orc.cal [0] (AV.agg [AV.i .i64 (Int.ofNat (seeQ s (Int.ofNat k * (2 : Int) + (1 : Int)))), AV.s (seeD s (Int.ofNat k * (2 : Int) + (1 : Int)))]) [Upd.keep] (Orc.cal [] (AV.agg [AV.i .i64 (Int.ofNat (nwQ (seeQ s (Int.ofNat k * (2 : Int) + (0 : Int))) (seeQ s (Int.ofNat k * (2 : Int) + (1 : Int))))), AV.s (nwD (seeQ s (Int.ofNat k * (2 : Int) + (0 :
  Int))) (seeQ s (Int.ofNat k * (2 : Int) + (1 : Int))) (seeD s (Int.ofNat k * (2 : Int) + (0 : Int))) (seeD s (Int.ofNat k * (2 : Int) + (1 : Int)))), AV.i .i64 (Int.ofNat (nwS (seeQ s (Int.ofNat k * (2 : Int) + (0 : Int))) (seeQ s (Int.ofNat k * (2 : Int) + (1 : Int)))))]) [] (Orc.s Orc.z Orc.z)))) Orc.z) K = ((decide (Int.ofNat k < Int.ofNat n) = true → Con Tryd.prog 29 [AV.p 0 0, AV.i .i64 (Int.ofNat k), AV.i .i64 0] [some (SS.o s)] (AV.agg [AV.i .i64 (Int.ofNat (seeQ s (Int.ofNat k * (2 : Int) + (0 : Int)))), AV.s (seeD s (Int.ofNat k * (2 : Int) + (0 : Int)))]) [Upd.keep] ∧ Con Tryd.prog 29 [AV.p 0 0, AV.i .i64 (Int.ofNat k), AV.i .i64 1] [some (SS.o s)] (AV.agg [AV.i .i64 (Int.ofNat (seeQ s (Int.ofNat k * (2 : Int) + (1 : Int)))), AV.s (seeD s (Int.ofNat k * (2 : Int) + (1 : Int)))]) [Upd.keep] ∧ Con Tryd.prog 28 [AV.agg [AV.i .i64 (Int.ofNat (seeQ s (Int.ofNat k * (2 : Int) + (0 :
  Int)))), AV.s (seeD s (Int.ofNat k * (2 : Int) + (0 : Int)))], AV.agg [AV.i .i64 (Int.ofNat (seeQ s (Int.ofNat k * (2 : Int) + (1 : Int)))), AV.s (seeD s (Int.ofNat k * (2 : Int) + (1 : Int)))]] [] (AV.agg [AV.i .i64 (Int.ofNat (nwQ (seeQ s (Int.ofNat k * (2 : Int) + (0 : Int))) (seeQ s (Int.ofNat k * (2 : Int) + (1 : Int))))), AV.s (nwD (seeQ s (Int.ofNat k * (2 : Int) + (0 : Int))) (seeQ s (Int.ofNat k * (2 : Int) + (1 : Int))) (seeD s (Int.ofNat k * (2 : Int) + (0 : Int))) (seeD s (Int.ofNat k * (2 : Int) + (1 : Int)))), AV.i .i64 (Int.ofNat (nwS (seeQ s (Int.ofNat k * (2 : Int) + (0 : Int))) (seeQ s (Int.ofNat k * (2 : Int) + (1 : Int)))))]) [] ∧ True ∧ (0 ≤ Int.ofNat k ∧ Int.ofNat k < 256) ∧ k < 256 ∧ ((-9223372036854775808) ≤ Int.ofNat k + 1 ∧ Int.ofNat k + (1 : Int) ≤ (9223372036854775807 : Int)) ∧ K (Res.st XO.nrm (T.n (some (AV.p 0 0)) (T.n none (T.n none (T.n (some (AV.i .i64
  (Int.ofNat k))) (T.n none (T.n (some (AV.p 1 0)) T.e T.e) T.e) (T.n none (T.n (some (AV.agg [AV.i .i64 (Int.ofNat (nwQ (seeQ s (Int.ofNat k * (2 : Int) + (0 : Int))) (seeQ s (Int.ofNat k * (2 : Int) + (1 : Int))))), AV.s (nwD (seeQ s (Int.ofNat k * (2 : Int) + (0 : Int))) (seeQ s (Int.ofNat k * (2 : Int) + (1 : Int))) (seeD s (Int.ofNat k * (2 : Int) + (0 : Int))) (seeD s (Int.ofNat k * (2 : Int) + (1 : Int)))), AV.i .i64 (Int.ofNat (nwS (seeQ s (Int.ofNat k * (2 : Int) + (0 : Int))) (seeQ s (Int.ofNat k * (2 : Int) + (1 : Int)))))])) T.e T.e) T.e)) (T.n none (T.n none (T.n (some (AV.agg [AV.i .i64 (Int.ofNat (seeQ s (Int.ofNat k * (2 : Int) + (0 : Int)))), AV.s (seeD s (Int.ofNat k * (2 : Int) + (0 : Int)))])) T.e T.e) T.e) (T.n (some (AV.i .i64 (Int.ofNat n))) (T.n (some (AV.i .i64 (Int.ofNat k + 1))) T.e T.e) T.e))) (T.n none (T.n none (T.n none (T.n (some (AV.p 0 0)) T.e T.e) T.e)
  (T.n none (T.n (some (AV.p 1 2)) T.e T.e) T.e)) (T.n none (T.n none (T.n (some (AV.i .i64 (Int.ofNat k))) T.e T.e) T.e) (T.n (some (AV.b (decide (Int.ofNat k < Int.ofNat n)))) T.e T.e)))) (T.n none (T.n none (T.n none (T.n none (T.n (some (AV.i .i64 (Int.ofNat k))) T.e T.e) T.e) (T.n none (T.n (some (AV.p 1 0)) T.e T.e) T.e)) (T.n none (T.n none (T.n (some (AV.p 0 0)) T.e T.e) T.e) (T.n (some (AV.i .i64 (Int.ofNat k + 1))) T.e T.e))) (T.n (some (AV.p 1 0)) (T.n none (T.n none (T.n (some (AV.i .i64 (Int.ofNat k))) T.e T.e) T.e) (T.n none (T.n (some (AV.ps 1 2 3 256 k)) T.e T.e) T.e)) (T.n none (T.n none (T.n (some (AV.agg [AV.i .i64 (Int.ofNat (seeQ s (Int.ofNat k * (2 : Int) + (1 : Int)))), AV.s (seeD s (Int.ofNat k * (2 : Int) + (1 : Int)))])) T.e T.e) T.e) (T.n (some (AV.i .i64 (Int.ofNat k))) T.e T.e))))) ⟨T.n (some (SS.o s)) (T.n (some (AObj.segs 74 771 [⟨1, 1, 1, oneF (CV.i .i64
  (Int.ofNat n))⟩, ⟨2, 3, 256, setRow ff k 0 [CV.i .i64 (Int.ofNat (nwQ (seeQ s (Int.ofNat k * (2 : Int) + (0 : Int))) (seeQ s (Int.ofNat k * (2 : Int) + (1 : Int))))), CV.s (nwD (seeQ s (Int.ofNat k * (2 : Int) + (0 : Int))) (seeQ s (Int.ofNat k * (2 : Int) + (1 : Int))) (seeD s (Int.ofNat k * (2 : Int) + (0 : Int))) (seeD s (Int.ofNat k * (2 : Int) + (1 : Int)))), CV.i .i64 (Int.ofNat (nwS (seeQ s (Int.ofNat k * (2 : Int) + (0 : Int))) (seeQ s (Int.ofNat k * (2 : Int) + (1 : Int)))))]⟩, ⟨770, 1, 1, fd⟩] [(0, AV.p 0 0)])) T.e T.e) T.e, 2, [1]⟩) Orc.z) ∧ (decide (Int.ofNat k < Int.ofNat n) = false → K (Res.st (XO.exit 0) (T.n (some (AV.p 0 0)) (T.n none (T.n none T.e (T.n none T.e (T.n (some (AV.i .i64 (Int.ofNat n))) T.e T.e))) (T.n none T.e (T.n none T.e (T.n (some (AV.b (decide (Int.ofNat k < Int.ofNat n)))) T.e T.e)))) (T.n none (T.n none T.e (T.n none T.e (T.n (some (AV.i .i64
  (Int.ofNat k))) T.e T.e))) (T.n (some (AV.p 1 0)) T.e T.e))) ⟨T.n (some (SS.o s)) (T.n (some (AObj.segs 74 771 [⟨1, 1, 1, oneF (CV.i .i64 (Int.ofNat n))⟩, ⟨2, 3, 256, ff⟩, ⟨770, 1, 1, fd⟩] [(0, AV.p 0 0)])) T.e T.e) T.e, 2, []⟩) Orc.z)) := by kernel_rfl
theorem cellF_of {q : Nat → Nat} {d : Nat → List Nat} {sp : Nat → Nat} {i j : Nat} (hj : j < 3) : cellF q d sp i j = [CV.i .i64 (Int.ofNat (q i)), .s (d i), .i .i64 (Int.ofNat (sp i))].getD j .p0 := by
  have : j = 0 ∨ j = 1 ∨ j = 2 := by omega
  rcases this with rfl | rfl | rfl <;> exact Eq.refl _
noncomputable def zeroF : Nat → Nat → CV := cellF (fun _ => 0) (fun _ => []) (fun _ => 0)
theorem openL_seg (s : SS) (n : Nat) (hn : n ≤ 256) (hs : s.n ≤ 512) (hb : Byt s) :
    LDoes Tryd.prog (loopAt Tryd.prog 8 0) 45 1 (mkT [(0, .p 0 0), (6, .p 1 0), (27, .i .i64 (Int.ofNat n)), (28, .i .i64 0)]) [some s.o, some (.segs 74 771 [⟨1, 1, 1, oneF (.i .i64 (Int.ofNat n))⟩, ⟨2, 3, 256, zeroF⟩, ⟨770, 1, 1, oneF (.b false)⟩] [(0, .p 0 0)])] (.exit 0) (mkT [(6, .p 1 0)]) [some s.o, some (opened s n).oa] := by
  refine loop_indV (D := Nat × (Nat → Nat → CV)) (l' := [(6, .p 1 0)]) (fun d => ([(0, .p 0 0), (6, .p 1 0), (27, .i .i64 (Int.ofNat n)), (28, .i .i64 (Int.ofNat d.1))], [some s.o, some (.segs 74 771 [⟨1, 1, 1, oneF (.i .i64 (Int.ofNat n))⟩, ⟨2, 3, 256, d.2⟩, ⟨770, 1, 1, oneF (.b false)⟩] [(0, .p 0 0)])])) (fun d => n - d.1)
    (fun d => d.1 ≤ n ∧ (∀ i j, i < d.1 → j < 3 → CW (d.2 i j) (cellF (opened s n).q (opened s n).d (opened s n).sp i j)) ∧ ∀ i j, d.1 ≤ i → j < 3 → CW (d.2 i j) (zeroF i j)) ?_ (0, zeroF) ⟨Nat.zero_le _, fun i j hi => by omega, fun i j _ _ => .refl _⟩
  rintro ⟨k, f⟩ ⟨hk, h1, h2⟩
  simp only at hk h1 h2
  refine ⟨by simp, _, _, (openL_vc s n k f _ _).mpr ⟨fun hlt => ?_, fun hge => ?_⟩⟩
  · have hlt : k < n := by have := of_decide_eq_true hlt; simp at this; omega
    have w1 := look_con s (Int.ofNat k) 0 hs hb ⟨by simp, by simp; omega⟩ (by omega)
    have w2 := look_con s (Int.ofNat k) 1 hs hb ⟨by simp, by simp; omega⟩ (by omega)
    have w3 := newer_con (seeQ s (Int.ofNat k * 2 + 0)) (seeQ s (Int.ofNat k * 2 + 1)) (seeD s (Int.ofNat k * 2 + 0)) (seeD s (Int.ofNat k * 2 + 1)) (seeQ_zero s _)
    refine ⟨w1, w2, w3, trivial, ⟨by simp, by simp; omega⟩, by omega, ⟨by simp; omega, by simp; omega⟩, .inl ⟨(k + 1, setRow f k 0 [.i .i64 (Int.ofNat (opQ s k)), .s (opD s k), .i .i64 (Int.ofNat (opS s k))]), [0, 1], [], _, _,
      [(0, .p 0 0), (6, .p 1 0), (27, .i .i64 (Int.ofNat n)), (28, .i .i64 (Int.ofNat (k + 1)))], [some s.o, some (.segs 74 771 [⟨1, 1, 1, oneF (.i .i64 (Int.ofNat n))⟩, ⟨2, 3, 256, setRow f k 0 [.i .i64 (Int.ofNat (opQ s k)), .s (opD s k), .i .i64 (Int.ofNat (opS s k))]⟩, ⟨770, 1, 1, oneF (.b false)⟩] [(0, .p 0 0)])],
      ⟨hlt, ?_, ?_⟩, by simp only; omega, rfl, st_k [0, 1] (by kernel_rfl), .refl _, OVL.refl _⟩⟩
    · intro i j hi hj
      simp only at hi ⊢
      refine (setRow3 i j hj).trans ?_
      cases hbq : Nat.beq i k with
      | true =>
        have e := Nat.eq_of_beq_eq_true hbq
        subst e
        rw [cond_true, cellF_of hj]
        have b : Nat.blt i n = true := by rw [Nat.blt_eq]; exact hlt
        have q1 : (opened s n).q i = opQ s i := by show (bif Nat.blt i n then opQ s i else 0) = _; rw [b, cond_true]
        have q2 : (opened s n).d i = opD s i := by show (bif Nat.blt i n then opD s i else []) = _; rw [b, cond_true]
        have q3 : (opened s n).sp i = opS s i := by show (bif Nat.blt i n then opS s i else 0) = _; rw [b, cond_true]
        rw [q1, q2, q3]
        exact .refl _
      | false =>
        have e : i ≠ k := by rintro rfl; simp at hbq
        rw [cond_false]
        exact h1 i j (by omega) hj
    · intro i j hi hj
      simp only at hi ⊢
      refine (setRow3 i j hj).trans ?_
      have hbq : Nat.beq i k = false := by rw [Bool.eq_false_iff, ne_eq, Nat.beq_eq]; omega
      rw [hbq, cond_false]
      exact h2 i j (by omega) hj
  · have : k = n := by have := of_decide_eq_false hge; simp at this; omega
    subst this
    refine .inr ⟨[0, 1], [], _, _, [(6, .p 1 0)], [some s.o, some (.segs 74 771 [⟨1, 1, 1, oneF (.i .i64 (Int.ofNat k))⟩, ⟨2, 3, 256, f⟩, ⟨770, 1, 1, oneF (.b false)⟩] [(0, .p 0 0)])], rfl, by simp, st_k [0, 1] (by kernel_rfl), .refl _, .refl _, .segsW ⟨.refl _, ⟨rfl, rfl, rfl, fun i j hi hj => ?_⟩, .refl _, trivial⟩, trivial⟩
    by_cases c : i < k
    · exact h1 i j c hj
    · refine (h2 i j (by omega) hj).trans (.of ?_)
      have hj3 : j < 3 := hj
      show zeroF i j = cellF (opened s k).q (opened s k).d (opened s k).sp i j
      unfold zeroF
      rw [cellF_of hj3, cellF_of hj3]
      have b : Nat.blt i k = false := by rw [Bool.eq_false_iff, ne_eq, Nat.blt_eq]; omega
      have q1 : (opened s k).q i = 0 := by show (bif Nat.blt i k then opQ s i else 0) = _; rw [b, cond_false]
      have q2 : (opened s k).d i = [] := by show (bif Nat.blt i k then opD s i else []) = _; rw [b, cond_false]
      have q3 : (opened s k).sp i = 0 := by show (bif Nat.blt i k then opS s i else 0) = _; rw [b, cond_false]
      rw [q1, q2, q3]
noncomputable def zc (m : Nat) : List AV := Nat.rec (motive := fun _ => List AV) [.b false] (fun _ ih => .i .i64 0 :: .s [] :: .i .i64 0 :: ih) m
noncomputable def clL (n : Int) : List AV := .p 0 0 :: .i .i64 n :: zc 256
theorem zc_s (m : Nat) : zc (m + 1) = .i .i64 0 :: .s [] :: .i .i64 0 :: zc m := rfl
theorem zc_len : ∀ m, (zc m).length = 3 * m + 1
  | 0 => rfl
  | m + 1 => by rw [zc_s]; simp only [List.length_cons, zc_len m]; omega
theorem zc_at : ∀ (m i j : Nat), i < m → j < 3 → (zc m)[i * 3 + j]? = some ([AV.i .i64 0, .s [], .i .i64 0].getD j .p0)
  | m + 1, 0, j, _, hj => by
    rw [zc_s]
    have : j = 0 ∨ j = 1 ∨ j = 2 := by omega
    rcases this with rfl | rfl | rfl <;> rfl
  | m + 1, i + 1, j, hi, hj => by
    rw [zc_s, show (i + 1) * 3 + j = (i * 3 + j) + 3 by omega]
    simp only [List.getElem?_cons_succ]
    exact zc_at m i j (by omega) hj
theorem zc_last : ∀ m, (zc m)[3 * m]? = some (.b false)
  | 0 => rfl
  | m + 1 => by
    rw [zc_s, show 3 * (m + 1) = 3 * m + 3 by omega]
    simp only [List.getElem?_cons_succ]
    exact zc_last m
theorem clL_len (n : Int) : (clL n).length = 771 := by
  show (zc 256).length + 1 + 1 = 771
  rw [zc_len]
theorem cl_ox (n : Nat) : OX (some (cellsO 74 (clL (Int.ofNat n)))) (some (.segs 74 771 [⟨1, 1, 1, oneF (.i .i64 (Int.ofNat n))⟩, ⟨2, 3, 256, zeroF⟩, ⟨770, 1, 1, oneF (.b false)⟩] [(0, .p 0 0)])) := by
  have hl := clL_len (Int.ofNat n)
  have at_ : ∀ p v, p < 771 → (clL (Int.ofNat n))[p]? = some v → cellAt 771 [] (setAll .e 0 (clL (Int.ofNat n))) p = some v := by
    intro p v hp h
    rw [← hl, cellsD_at (by omega)]; exact h
  unfold cellsO
  rw [hl]
  refine .cellsSegs (fun g hg => ?_) (fun y hy => ?_)
  · simp only [List.mem_cons, List.mem_nil_iff, or_false] at hg
    rcases hg with rfl | rfl | rfl
    · refine ⟨by simp only; omega, fun i j hi hj => ?_⟩
      have hi : i < 1 := hi
      have hj : j < 1 := hj
      obtain rfl : i = 0 := by omega
      obtain rfl : j = 0 := by omega
      exact ⟨.i .i64 (Int.ofNat n), at_ 1 _ (by omega) rfl, fun ρ x hx => by cases hx; exact .i _ _⟩
    · refine ⟨by simp only; omega, fun i j hi hj => ?_⟩
      have hi : i < 256 := hi
      have hj : j < 3 := hj
      refine ⟨[AV.i .i64 0, .s [], .i .i64 0].getD j .p0, ?_, ?_⟩
      · show cellAt 771 [] (setAll .e 0 (clL (Int.ofNat n))) (2 + i * 3 + j) = _
        refine at_ _ _ (by omega) ?_
        rw [show 2 + i * 3 + j = (i * 3 + j) + 1 + 1 by omega]
        show (zc 256)[i * 3 + j]? = _
        exact zc_at 256 i j hi hj
      · have : j = 0 ∨ j = 1 ∨ j = 2 := by omega
        rcases this with rfl | rfl | rfl
        · intro ρ x hx; cases hx; exact .i _ _
        · intro ρ x hx; cases hx with | s _ _ e => exact .s _ _ e
        · intro ρ x hx; cases hx; exact .i _ _
    · refine ⟨by simp only; omega, fun i j hi hj => ?_⟩
      have hi : i < 1 := hi
      have hj : j < 1 := hj
      obtain rfl : i = 0 := by omega
      obtain rfl : j = 0 := by omega
      refine ⟨.b false, ?_, fun ρ x hx => by cases hx; exact .b _⟩
      show cellAt 771 [] (setAll .e 0 (clL (Int.ofNat n))) (770 + 0 * 1 + 0) = _
      refine at_ _ _ (by omega) ?_
      show (zc 256)[768]? = _
      exact zc_last 256
  · simp only [List.mem_cons, List.mem_nil_iff, or_false] at hy
    subst hy
    exact at_ 0 _ (by omega) rfl
theorem openL_lp (s : SS) (n : Nat) (hn : n ≤ 256) (hs : s.n ≤ 512) (hb : Byt s) :
    LDoes Tryd.prog (loopAt Tryd.prog 8 0) 45 1 (mkT [(0, .p 0 0), (6, .p 1 0), (27, .i .i64 (Int.ofNat n)), (28, .i .i64 0)]) [some s.o, some (cellsO 74 (clL (Int.ofNat n)))] (.exit 0) (mkT [(6, .p 1 0)]) [some s.o, some (opened s n).oa] := by
  exact (openL_seg s n hn hs hb).ovl ⟨.refl _, .x (cl_ox n), trivial⟩
theorem open_vc (s : SS) (n : Int) (K : Res → Orc → Prop) : runK Tryd.prog 1000000 (.call 8 [.p 0 0, .i .i64 n] (mkH [some s.o])) (Orc.c (Orc.s (Orc.t (Orc.f (Orc.s Orc.z (Orc.cal [0] (AV.i .i64 (Int.ofNat (SS.n s))) [Upd.keep] (Orc.s Orc.z (Orc.cal [0] (AV.b (SS.off s)) [Upd.keep] (Orc.s Orc.z (Orc.c (Orc.lop [0, 1] [0, 6, 27, 28] 1 (XO.exit 0) [(6, AV.p 1 0)] [some (SS.o s), some (CS.oa (opened s (Int.toNat n)))] Orc.z))))))))) (Orc.f (Orc.t (Orc.c Orc.z))))) K = (True ∧ ((!decide (n < 1)) = true → (!decide (n < 1)) = true ∧ decide (n < 1) = false ∧ (decide (256 < n) = true → K (Res.rv (AV.tup [AV.p0, AV.i .i64 2]) ⟨T.n (some (SS.o s)) T.e T.e, 1, []⟩) Orc.z) ∧ (decide (256 < n) = false → Con Tryd.prog 26 [AV.p 0 0] [some (SS.o s)] (AV.i .i64 (Int.ofNat (SS.n s))) [Upd.keep] ∧ ((-9223372036854775808) ≤ n * 2 ∧ n * (2 : Int) ≤ (9223372036854775807 : Int)) ∧ (decide (Int.ofNat (SS.n s)
  < n * 2) = true → K (Res.rv (AV.tup [AV.p0, AV.i .i64 12]) ⟨T.n (some (SS.o s)) T.e T.e, 1, []⟩) Orc.z) ∧ (decide (Int.ofNat (SS.n s) < n * 2) = false → Con Tryd.prog 27 [AV.p 0 0] [some (SS.o s)] (AV.b (SS.off s)) [Upd.keep] ∧ (SS.off s = true → K (Res.rv (AV.tup [AV.p0, AV.i .i64 13]) ⟨T.n (some (SS.o s)) T.e T.e, 1, []⟩) Orc.z) ∧ (SS.off s = false → LDoes Tryd.prog (loopAt Tryd.prog 8 0) 45 1 (mkT [(0, AV.p 0 0), (6, AV.p 1 0), (27, AV.i .i64 n), (28, AV.i .i64 0)]) [some (SS.o s), some (cellsO 74 (clL n))] (XO.exit 0) (mkT [(6, AV.p 1 0)]) [some (SS.o s), some (CS.oa (opened s (Int.toNat n)))] ∧ K (Res.rv (AV.tup [AV.p 2 0, AV.i .i64 0]) ⟨T.n (some (SS.o s)) (T.n none T.e T.e) (T.n (some (CS.oa (opened s (Int.toNat n)))) T.e T.e), 3, [2, 1, 0, 1]⟩) Orc.z)))) ∧ ((!decide (n < 1)) = false → (!decide (n < 1)) = false ∧ decide (n < 1) = true ∧ K (Res.rv (AV.tup [AV.p0, AV.i .i64 2])
  ⟨T.n (some (SS.o s)) T.e T.e, 1, []⟩) Orc.z)) := by kernel_rfl
theorem open_con (s : SS) (n : Nat) (h1 : 1 ≤ n) (h2 : n ≤ 256) (h3 : 2 * n ≤ s.n) (hs : s.n ≤ 512) (ho : s.off = false) (hb : Byt s) :
    Con Tryd.prog 8 [.p 0 0, .i .i64 (Int.ofNat n)] [some s.o] (.tup [.p 1 0, .i .i64 0]) [.keep, .set (opened s n).oa] := by
  have d1 : decide (Int.ofNat n < 1) = false := by simp; omega
  have d2 : decide ((256 : Int) < Int.ofNat n) = false := by simp; omega
  have d3 : decide (Int.ofNat s.n < Int.ofNat n * 2) = false := by simp; omega
  refine con_of_run [] [2] ((open_vc s (Int.ofNat n) _).mpr ⟨trivial, fun h => ⟨h, d1, fun h => (by rw [d2] at h; cases h), fun _ => ⟨len2_con s, by simp <;> omega, fun h => (by rw [d3] at h; cases h), fun _ => ⟨off2_con s, fun h => (by rw [ho] at h; cases h), fun _ => ⟨Eq.mp (by kernel_rfl) (openL_lp s n h2 hs hb), ?_⟩⟩⟩⟩, fun h => (by rw [d1] at h; cases h)⟩)
  exact ⟨_, _, rfl, ret_k (by kernel_rfl)⟩
noncomputable def openE (s : SS) (n : Int) : Int := match decide (n < 1) with
  | true => 2
  | false => match decide ((256 : Int) < n) with
    | true => 2
    | false => match decide (Int.ofNat s.n < n * 2) with
      | true => 12
      | false => match s.off with
        | true => 13
        | false => 0
theorem openBad_con (s : SS) (n : Int) (h : openE s n ≠ 0) : Con Tryd.prog 8 [.p 0 0, .i .i64 n] [some s.o] (.tup [.p0, .i .i64 (openE s n)]) [.keep] := by
  have fin : ∀ e : Int, openE s n = e → Con Tryd.prog 8 [.p 0 0, .i .i64 n] [some s.o] (.tup [.p0, .i .i64 e]) [.keep] → Con Tryd.prog 8 [.p 0 0, .i .i64 n] [some s.o] (.tup [.p0, .i .i64 (openE s n)]) [.keep] := fun e he k => by rw [he]; exact k
  cases d1 : decide (n < 1) with
  | true =>
    refine fin 2 (by unfold openE; rw [d1]) (con_of_run [] [] ((open_vc s n _).mpr ⟨trivial, fun h => (by rw [d1] at h; cases h), fun h => ⟨h, d1, ?_⟩⟩))
    exact ⟨_, _, rfl, ret_k (by kernel_rfl)⟩
  | false =>
    cases d2 : decide ((256 : Int) < n) with
    | true =>
      refine fin 2 (by unfold openE; rw [d1, d2]) (con_of_run [] [] ((open_vc s n _).mpr ⟨trivial, fun h => ⟨h, d1, fun _ => ?_, fun h => (by rw [d2] at h; cases h)⟩, fun h => (by rw [d1] at h; cases h)⟩))
      exact ⟨_, _, rfl, ret_k (by kernel_rfl)⟩
    | false =>
      have q1 := of_decide_eq_false d1
      have q2 := of_decide_eq_false d2
      cases d3 : decide (Int.ofNat s.n < n * 2) with
      | true =>
        refine fin 12 (by unfold openE; rw [d1, d2, d3]) (con_of_run [] [] ((open_vc s n _).mpr ⟨trivial, fun h => ⟨h, d1, fun h => (by rw [d2] at h; cases h), fun _ => ⟨len2_con s, by omega, fun _ => ?_, fun h => (by rw [d3] at h; cases h)⟩⟩, fun h => (by rw [d1] at h; cases h)⟩))
        exact ⟨_, _, rfl, ret_k (by kernel_rfl)⟩
      | false =>
        cases d4 : s.off with
        | true =>
          refine fin 13 (by unfold openE; rw [d1, d2, d3, d4]) (con_of_run [] [] ((open_vc s n _).mpr ⟨trivial, fun h => ⟨h, d1, fun h => (by rw [d2] at h; cases h), fun _ => ⟨len2_con s, by omega, fun h => (by rw [d3] at h; cases h), fun _ => ⟨off2_con s, fun _ => ?_, fun h => (by rw [d4] at h; cases h)⟩⟩⟩, fun h => (by rw [d1] at h; cases h)⟩))
          exact ⟨_, _, rfl, ret_k (by kernel_rfl)⟩
        | false =>
          exfalso
          apply h
          unfold openE; rw [d1, d2, d3, d4]
structure Inv (c : CS) (s : SS) (m : Nat) : Prop where
  hc : c.n ≤ 256
  hs : 2 * c.n ≤ s.n
  sp : ∀ k, c.sp k ≤ 1
  ok : OkM s m
  byt : Byt s
theorem Inv.mono {c : CS} {s : SS} {m k : Nat} (h : Inv c s m) (hm : m ≤ k) : Inv c s k := ⟨h.hc, h.hs, h.sp, h.ok.mono hm, h.byt⟩
theorem Byt.new (n : Nat) : Byt (SS.new n) := ⟨fun _ _ => ⟨0, by decide, rfl⟩, fun w hw => by cases hw⟩
theorem OkM.new {n : Nat} (h : n ≤ 512) : OkM (SS.new n) 0 := ⟨h, Nat.le_refl 0, Nat.le_refl 0, (by decide : (0 : Nat) < 9223372036854775808), fun w hw => by cases hw⟩
theorem wrS_n (s : SS) (a : Int) (L : Nat) (bs : Nat → Int) : (s.wrS a L bs).n = s.n := by
  unfold SS.wrS
  split
  · rfl
  · split
    · rcases pay_or (s.wrote a.toNat bs) with e | e | e <;> rw [e] <;> rfl
    · rfl
theorem bar_n (s : SS) : s.bar.n = s.n := by
  unfold SS.bar
  split <;> rfl
theorem cmS_n (s : SS) (a q : Int) (d : List Nat) : (cmS s a q d).n = s.n := by
  unfold cmS
  split
  · rw [bar_n]; exact wrS_n _ _ _ _
  · exact wrS_n _ _ _ _
theorem cmS_ok {s : SS} {m a : Nat} (h : OkM s m) (ha : a < s.n) (q : Int) (d : List Nat) : OkM (cmS s (Int.ofNat a) q d) (m + 1) := by
  unfold cmS
  split
  · exact OkM.bar (h.wrS ha _)
  · exact h.wrS ha _
theorem cmS_byt {s : SS} {a : Nat} (h : Byt s) (ha : a < s.n) (q : Int) (d : List Nat) (hd : ∀ x ∈ d, x < 256) : Byt (cmS s (Int.ofNat a) q d) := by
  have hb : ∀ j, ∃ n : Nat, n < 256 ∧ (fun k => Int.ofNat (sectB q.toNat d k)) j = Int.ofNat n := fun j => ⟨sectB q.toNat d j, sectB_lt hd j, rfl⟩
  unfold cmS
  split
  · exact Byt.bar (h.wrS ha hb)
  · exact h.wrS ha hb
theorem no_in {c : CS} {i : Int} {x : List Nat} (h : c.no i x = 0) : c.dead = false ∧ (0 ≤ i ∧ i < Int.ofNat c.n) ∧ x.length ≤ 51 ∧ c.q i.toNat < 1099511627776 := by
  unfold CS.no at h
  split at h
  · cases h
  · rename_i hd
    split at h
    · cases h
    · rename_i hi
      split at h
      · cases h
      · rename_i hl
        split at h
        · cases h
        · rename_i hq
          have h1 := of_decide_eq_true hi
          have h2 := of_decide_eq_false hl
          have h3 := of_decide_eq_false hq
          simp at h2 h3
          exact ⟨hd, h1, by omega, by omega⟩
theorem Inv.at_ {c : CS} {s : SS} {m : Nat} (h : Inv c s m) {i : Int} (hi : 0 ≤ i ∧ i < Int.ofNat c.n) : c.at_ i = Int.ofNat (i.toNat * 2 + c.sp i.toNat) ∧ i.toNat * 2 + c.sp i.toNat < s.n := by
  have := h.hs; have := h.sp i.toNat
  have h2 := hi.2; simp at h2
  refine ⟨?_, by omega⟩
  unfold CS.at_
  simp; omega
theorem Inv.put {c : CS} {s : SS} {m : Nat} (h : Inv c s m) (i : Int) (x : List Nat) (hx : ∀ b ∈ x, b < 256) : Inv (c.putC s i x) (c.putS s i x) (m + 1) := by
  cases hd : decide (c.no i x = 0) with
  | false =>
    have e1 : c.putC s i x = c := by unfold CS.putC; rw [hd]
    have e2 : c.putS s i x = s := by unfold CS.putS; rw [hd]
    rw [e1, e2]; exact h.mono (Nat.le_succ m)
  | true =>
    obtain ⟨_, hi, hl, _⟩ := no_in (of_decide_eq_true hd)
    obtain ⟨ea, ha⟩ := h.at_ hi
    have e2 : c.putS s i x = cmS s (Int.ofNat (i.toNat * 2 + c.sp i.toNat)) (c.nx i) x := by unfold CS.putS; rw [hd, ← ea]
    have ok := cmS_ok h.ok ha (c.nx i) x
    have bt := cmS_byt h.byt ha (c.nx i) x hx
    have en := cmS_n s (Int.ofNat (i.toNat * 2 + c.sp i.toNat)) (c.nx i) x
    rw [← e2] at ok bt en
    have hs := h.hs
    cases hE : decide (cmE s (c.at_ i) (c.nx i) x = 0) with
    | true =>
      have e1 : c.putC s i x = c.upd i.toNat (c.q i.toNat + 1) x (1 - c.sp i.toNat) := by unfold CS.putC; rw [hd]; simp only; rw [hE]
      rw [e1]
      refine ⟨h.hc, by rw [en]; exact hs, fun k => ?_, ok, bt⟩
      show (bif Nat.beq k i.toNat then 1 - c.sp i.toNat else c.sp k) ≤ 1
      cases Nat.beq k i.toNat with
      | true => rw [cond_true]; omega
      | false => rw [cond_false]; exact h.sp k
    | false =>
      have e1 : c.putC s i x = { c with dead := true } := by unfold CS.putC; rw [hd]; simp only; rw [hE]
      rw [e1]
      exact ⟨h.hc, by rw [en]; exact hs, h.sp, ok, bt⟩
theorem Inv.put_con {c : CS} {s : SS} {m : Nat} (h : Inv c s m) (hm : m < 1073741823) (i : Int) (x : List Nat) (hx : ∀ b ∈ x, b < 256) :
    Con Tryd.prog 16 [.p 0 0, .i .i64 i, .s x] [some c.o, some s.o] (.i .i64 (c.putE s i x)) [.set (c.putC s i x).o, .set (c.putS s i x).o] :=
  Go.Proofs.Cl.put_con c s i x m h.hc h.hs h.sp h.ok hm hx
theorem nwS_le (a b : Nat) : nwS a b ≤ 1 := by
  unfold nwS
  split
  · omega
  · split <;> omega
theorem Inv.opened {s : SS} {n m : Nat} (h1 : n ≤ 256) (h2 : 2 * n ≤ s.n) (ok : OkM s m) (hb : Byt s) : Inv (opened s n) s m :=
  ⟨h1, h2, fun k => by
    show (bif Nat.blt k n then opS s k else 0) ≤ 1
    cases Nat.blt k n
    · rw [cond_false]; omega
    · rw [cond_true]; exact nwS_le _ _, ok, hb⟩
theorem OkM.arm {s : SS} {m : Nat} (h : OkM s m) {k : Int} (hk : k ≤ 9223372036854775807) : OkM (s.arm k) m := ⟨h.n, h.P, h.wr, by show k.toNat < _; omega, h.at_⟩
theorem Byt.arm {s : SS} (h : Byt s) (k : Int) : Byt (s.arm k) := ⟨h.dur, h.P⟩
theorem lay_byt {s : SS} (h : Byt s) (q : Nat) (b : Bool) : Byt (s.lay q (fun _ => 0) b) := ⟨fun i j => by
  show ∃ n : Nat, n < 256 ∧ (bif Nat.beq i q then (fun _ => (0 : Int)) else s.dur i) j = Int.ofNat n
  cases Nat.beq i q
  · exact h.dur i j
  · exact ⟨0, by decide, rfl⟩, h.P⟩
theorem revived_or (s : SS) (kk : Int) (tt : Bool) : s.revived kk tt = s ∨ (s.revived kk tt).n = s.n ∧ (s.revived kk tt).wr = s.wr ∧ (s.revived kk tt).left = s.left ∧ (s.revived kk tt).P = [] ∧ (s.revived kk tt).off = false ∧ (Byt s → Byt (s.revived kk tt)) := by
  unfold SS.revived
  split
  · exact .inl rfl
  · refine .inr ?_
    split
    · exact ⟨rfl, rfl, rfl, rfl, rfl, fun h => ⟨(lay_byt (h.flush _) _ true).dur, fun w hw => by cases hw⟩⟩
    · exact ⟨rfl, rfl, rfl, rfl, rfl, fun h => ⟨(h.flush _).dur, fun w hw => by cases hw⟩⟩
theorem OkM.revived {s : SS} {m : Nat} (h : OkM s m) (kk : Int) (tt : Bool) : OkM (s.revived kk tt) m := by
  rcases revived_or s kk tt with e | ⟨e1, e2, e3, e4, _, _⟩
  · rw [e]; exact h
  · exact ⟨by rw [e1]; exact h.n, by rw [e4]; exact Nat.zero_le _, by rw [e2]; exact h.wr, by rw [e3]; exact h.left, fun w hw => by rw [e4] at hw; cases hw⟩
theorem Byt.revived {s : SS} (h : Byt s) (kk : Int) (tt : Bool) : Byt (s.revived kk tt) := by
  rcases revived_or s kk tt with e | ⟨_, _, _, _, _, e⟩
  · rw [e]; exact h
  · exact e h
noncomputable def aw0 : SS := SS.new 4
noncomputable def ak0 : CS := opened aw0 2
noncomputable def ak1 : CS := ak0.putC aw0 0 [97]
noncomputable def aw1 : SS := ak0.putS aw0 0 [97]
noncomputable def ak2 : CS := ak1.putC aw1 0 [98]
noncomputable def aw2 : SS := ak1.putS aw1 0 [98]
noncomputable def aw3 : SS := aw2.arm 0
noncomputable def ak4 : CS := ak2.putC aw3 0 [99]
noncomputable def aw4 : SS := ak2.putS aw3 0 [99]
noncomputable def aw5 : SS := aw4.revived 0 true
noncomputable def ak5 : CS := opened aw5 2
noncomputable def ak6 : CS := ak5.putC aw5 2 []
noncomputable def aw6 : SS := ak5.putS aw5 2 []
theorem awake_vc (K : Res → Orc → Prop) : runK Tryd.prog 1000000 (.call 5 [] (mkH [])) (Orc.cal [] (AV.tup [AV.p 0 0, AV.i .i64 0]) [Upd.set (SS.o aw0)] (Orc.cal [0] (AV.tup [AV.p 1 0, AV.i .i64 0]) [Upd.keep, Upd.set (CS.oa ak0)] (oc 5 (Orc.cal [1, 0] (AV.agg [AV.i .i64 0, AV.s []]) [Upd.keep, Upd.keep] (oc 5 (Orc.cal [1, 0] (AV.i .i64 0) [Upd.set (CS.o ak1), Upd.set (SS.o aw1)] (oc 4 (Orc.cal [1, 0] (AV.i .i64 0) [Upd.set (CS.o ak2), Upd.set (SS.o aw2)] (oc 4 (Orc.cal [1, 0] (AV.agg [AV.i .i64 2, AV.s [98]]) [Upd.keep, Upd.keep] (oc 5 (Orc.cal [0] (AV.i .i64 2) [Upd.keep] (oc 4 (Orc.cal [1, 0] (AV.i .i64 2) [Upd.keep, Upd.keep] (oc 3 (Orc.cal [0] (AV.tup []) [Upd.set (SS.o aw3)] (Orc.cal [1, 0] (AV.i .i64 13) [Upd.set (CS.o ak4), Upd.set (SS.o aw4)] (oc 2 (Orc.cal [0] (AV.i .i64 0) [Upd.set (SS.o aw5)] (oc 3 (Orc.cal [0] (AV.tup [AV.p 1 0, AV.i .i64 0]) [Upd.keep, Upd.set (CS.oa ak5)]
  (oc 2 (Orc.cal [2, 0] (AV.agg [AV.i .i64 2, AV.s [98]]) [Upd.keep, Upd.keep] (oc 5 (Orc.cal [2, 0] (AV.i .i64 2) [Upd.set (CS.o ak6), Upd.set (SS.o aw6)] (oc 2 Orc.z)))))))))))))))))))))))))) K = (Con Tryd.prog 6 [AV.i .i64 4] [] (AV.tup [AV.p 0 0, AV.i .i64 0]) [Upd.set (SS.o aw0)] ∧ Con Tryd.prog 8 [AV.p 0 0, AV.i .i64 2] [some (SS.o aw0)] (AV.tup [AV.p 1 0, AV.i .i64 0]) [Upd.keep, Upd.set (CS.oa ak0)] ∧ True ∧ Con Tryd.prog 18 [AV.p 0 0, AV.i .i64 0] [some (CS.o ak0), some (SS.o aw0)] (AV.agg [AV.i .i64 0, AV.s []]) [Upd.keep, Upd.keep] ∧ True ∧ Con Tryd.prog 16 [AV.p 0 0, AV.i .i64 0, AV.s [97]] [some (CS.o ak0), some (SS.o aw0)] (AV.i .i64 0) [Upd.set (CS.o ak1), Upd.set (SS.o aw1)] ∧ Con Tryd.prog 16 [AV.p 0 0, AV.i .i64 0, AV.s [98]] [some (CS.o ak1), some (SS.o aw1)] (AV.i .i64 0) [Upd.set (CS.o ak2), Upd.set (SS.o aw2)] ∧ Con Tryd.prog 18 [AV.p 0 0, AV.i .i64 0] [some (CS.o
  ak2), some (SS.o aw2)] (AV.agg [AV.i .i64 2, AV.s [98]]) [Upd.keep, Upd.keep] ∧ True ∧ Con Tryd.prog 20 [AV.p 0 0] [some (SS.o aw2)] (AV.i .i64 2) [Upd.keep] ∧ Con Tryd.prog 21 [AV.p 0 0] [some (CS.o ak2), some (SS.o aw2)] (AV.i .i64 2) [Upd.keep, Upd.keep] ∧ Con Tryd.prog 10 [AV.p 0 0, AV.i .i64 0] [some (SS.o aw2)] (AV.tup []) [Upd.set (SS.o aw3)] ∧ Con Tryd.prog 16 [AV.p 0 0, AV.i .i64 0, AV.s [99]] [some (CS.o ak2), some (SS.o aw3)] (AV.i .i64 13) [Upd.set (CS.o ak4), Upd.set (SS.o aw4)] ∧ Con Tryd.prog 14 [AV.p 0 0, AV.i .i64 0, AV.b true] [some (SS.o aw4)] (AV.i .i64 0) [Upd.set (SS.o aw5)] ∧ Con Tryd.prog 8 [AV.p 0 0, AV.i .i64 2] [some (SS.o aw5)] (AV.tup [AV.p 1 0, AV.i .i64 0]) [Upd.keep, Upd.set (CS.oa ak5)] ∧ Con Tryd.prog 18 [AV.p 0 0, AV.i .i64 0] [some (CS.o ak5), some (SS.o aw5)] (AV.agg [AV.i .i64 2, AV.s [98]]) [Upd.keep, Upd.keep] ∧ True ∧ Con Tryd.prog 16 [AV.p 0 0,
  AV.i .i64 2, AV.s []] [some (CS.o ak5), some (SS.o aw5)] (AV.i .i64 2) [Upd.set (CS.o ak6), Upd.set (SS.o aw6)] ∧ K (Res.rv (AV.b true) ⟨T.n (some (SS.o aw6)) (T.n (some (CS.oa ak4)) T.e T.e) (T.n (some (CS.oa ak6)) T.e T.e), 3, [0, 2, 2, 0, 0, 1, 0, 0, 1, 0, 1, 1, 0]⟩) Orc.z) := by kernel_rfl
theorem ch1 (a : Nat) (h : a < 256) : ∀ b ∈ [a], b < 256 := fun b hb => by
  simp only [List.mem_singleton] at hb
  omega
theorem ai0 : Inv ak0 aw0 0 := .opened (by decide) (by decide) (OkM.new (by decide)) (Byt.new 4)
theorem ai1 : Inv ak1 aw1 1 := ai0.put 0 [97] (ch1 97 (by decide))
theorem ai2 : Inv ak2 aw2 2 := ai1.put 0 [98] (ch1 98 (by decide))
theorem ai3 : Inv ak2 aw3 2 := ⟨ai2.hc, ai2.hs, ai2.sp, ai2.ok.arm (by decide), ai2.byt.arm 0⟩
theorem ai4 : Inv ak4 aw4 3 := ai3.put 0 [99] (ch1 99 (by decide))
theorem aw5_n : aw5.n = 4 := by kernel_rfl
theorem aw5_off : aw5.off = false := by kernel_rfl
theorem ai5 : Inv ak5 aw5 3 := .opened (by decide) (by rw [aw5_n]; decide) (ai4.ok.revived 0 true) (ai4.byt.revived 0 true)
theorem a1_con : Con Tryd.prog 6 [.i .i64 4] [] (.tup [.p 0 0, .i .i64 0]) [.set aw0.o] := new_con 4 (by decide) (by decide)
theorem a2_con : Con Tryd.prog 8 [.p 0 0, .i .i64 2] [some aw0.o] (.tup [.p 1 0, .i .i64 0]) [.keep, .set ak0.oa] := open_con aw0 2 (by decide) (by decide) (by decide) (by decide) rfl (Byt.new 4)
theorem cg {c : CS} {s : SS} {i : Int} {q : Nat} {d : List Nat} (hn : c.n ≤ 256) (hq : c.getQ i = q) (hd : c.getD i = d) : Con Tryd.prog 18 [.p 0 0, .i .i64 i] [some c.o, some s.o] (.agg [.i .i64 (Int.ofNat q), .s d]) [.keep, .keep] := by
  subst hq; subst hd
  exact get_con c s i hn
theorem cp {c : CS} {s : SS} {m : Nat} (h : Inv c s m) (hm : m < 1073741823) (i : Int) (x : List Nat) (hx : ∀ b ∈ x, b < 256) {e : Int} (he : c.putE s i x = e) : Con Tryd.prog 16 [.p 0 0, .i .i64 i, .s x] [some c.o, some s.o] (.i .i64 e) [.set (c.putC s i x).o, .set (c.putS s i x).o] := by
  subst he
  exact h.put_con hm i x hx
theorem a3_con : Con Tryd.prog 18 [.p 0 0, .i .i64 0] [some ak0.o, some aw0.o] (.agg [.i .i64 0, .s []]) [.keep, .keep] := cg (q := 0) (d := []) ai0.hc (by kernel_rfl) (by kernel_rfl)
theorem a4_con : Con Tryd.prog 16 [.p 0 0, .i .i64 0, .s [97]] [some ak0.o, some aw0.o] (.i .i64 0) [.set ak1.o, .set aw1.o] := cp ai0 (by decide) 0 [97] (ch1 97 (by decide)) (by kernel_rfl)
theorem a5_con : Con Tryd.prog 16 [.p 0 0, .i .i64 0, .s [98]] [some ak1.o, some aw1.o] (.i .i64 0) [.set ak2.o, .set aw2.o] := cp ai1 (by decide) 0 [98] (ch1 98 (by decide)) (by kernel_rfl)
theorem a6_con : Con Tryd.prog 18 [.p 0 0, .i .i64 0] [some ak2.o, some aw2.o] (.agg [.i .i64 2, .s [98]]) [.keep, .keep] := cg (q := 2) (d := [98]) ai2.hc (by kernel_rfl) (by kernel_rfl)
theorem a7_con : Con Tryd.prog 20 [.p 0 0] [some aw2.o] (.i .i64 2) [.keep] := by
  have h := writes2_con aw2
  have e : aw2.wr = 2 := by kernel_rfl
  rw [e] at h; exact h
theorem a8_con : Con Tryd.prog 21 [.p 0 0] [some ak2.o, some aw2.o] (.i .i64 2) [.keep, .keep] := by
  have h := Go.Proofs.Cl.len_con ak2 aw2
  have e : ak2.n = 2 := by kernel_rfl
  rw [e] at h; exact h
theorem a9_con : Con Tryd.prog 10 [.p 0 0, .i .i64 0] [some aw2.o] (.tup []) [.set aw3.o] := arm2_con aw2 0
theorem a10_con : Con Tryd.prog 16 [.p 0 0, .i .i64 0, .s [99]] [some ak2.o, some aw3.o] (.i .i64 13) [.set ak4.o, .set aw4.o] := cp ai3 (by decide) 0 [99] (ch1 99 (by decide)) (by kernel_rfl)
theorem a11_con : Con Tryd.prog 14 [.p 0 0, .i .i64 0, .b true] [some aw4.o] (.i .i64 0) [.set aw5.o] := by
  have h := revive_con aw4 0 true (by have := ai4.ok.P; omega) (fun w hw => by have := ai4.ok.at_ w hw; have := ai4.ok.n; omega)
  have e : aw4.revE = 0 := by kernel_rfl
  rw [e] at h; exact h
theorem a12_con : Con Tryd.prog 8 [.p 0 0, .i .i64 2] [some aw5.o] (.tup [.p 1 0, .i .i64 0]) [.keep, .set ak5.oa] := open_con aw5 2 (by decide) (by decide) (by rw [aw5_n]; decide) (by rw [aw5_n]; decide) aw5_off ai5.byt
theorem a13_con : Con Tryd.prog 18 [.p 0 0, .i .i64 0] [some ak5.o, some aw5.o] (.agg [.i .i64 2, .s [98]]) [.keep, .keep] := cg (q := 2) (d := [98]) ai5.hc (by kernel_rfl) (by kernel_rfl)
theorem a14_con : Con Tryd.prog 16 [.p 0 0, .i .i64 2, .s []] [some ak5.o, some aw5.o] (.i .i64 2) [.set ak6.o, .set aw6.o] := cp ai5 (by decide) 2 [] (fun b hb => by cases hb) (by kernel_rfl)
theorem awake_con : Con Tryd.prog 5 [] [] (.b true) [] := by
  refine con_plain rfl ((awake_vc _).mpr ?_)
  repeat' first | exact a1_con | exact a2_con | exact a3_con | exact a4_con | exact a5_con | exact a6_con | exact a7_con | exact a8_con | exact a9_con | exact a10_con | exact a11_con | exact a12_con | exact a13_con | exact a14_con | exact trivial | (decide; done) | refine And.intro ?_ ?_ | exact ⟨_, _, rfl, rfl⟩
end Go.Proofs.Cl
