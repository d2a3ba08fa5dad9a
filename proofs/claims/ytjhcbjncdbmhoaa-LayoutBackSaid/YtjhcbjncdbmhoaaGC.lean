/- Runs over unknown values, told by the kernel: part GC. -/
import Derived.Test.YtjhcbjncdbmhoaaGB
set_option linter.unusedSimpArgs false
set_option linter.unusedVariables false
set_option maxRecDepth 20000
namespace Go.Proofs.Ly
open Go Go.Sim Go.Proofs Go.Proofs.Cl Go.Proofs.Ytjhcbjncdbmhoaa
def gat (f : Nat → Bool) : Nat → Nat
  | 0 => 0
  | i + 1 => gat f i + (bif f i then 2 ^ i else 0)
theorem gat_lt (f : Nat → Bool) : ∀ n, gat f n < 2 ^ n
  | 0 => Nat.zero_lt_one
  | n + 1 => by
    have := gat_lt f n
    show gat f n + (bif f n then 2 ^ n else 0) < 2 ^ (n + 1)
    rw [Nat.pow_succ]
    cases f n
    · show gat f n + 0 < _; omega
    · show gat f n + 2 ^ n < _; omega
theorem pow_le {i n : Nat} (h : i ≤ n) : 2 ^ i ≤ 2 ^ n := Nat.pow_le_pow_right (by decide) h
theorem i_pow (i : Nat) : (2 : Int) ^ i = Int.ofNat (2 ^ i) := by
  show (2 : Int) ^ i = ((2 ^ i : Nat) : Int)
  rw [Int.natCast_pow]; rfl
theorem ga_or {f : Nat → Bool} {i : Nat} (hi : i < 60) (h : f i = true) : wrapA IntKind.i64 ↑(BitVec.toNat (BitVec.ofInt 64 (Int.ofNat (gat f i)) ||| BitVec.ofInt 64 (wrapA IntKind.i64 ((1 : Int) * (2 : Int) ^ min i 64)))) = Int.ofNat (gat f (i + 1)) := by
  have hp : 2 ^ i ≤ 2 ^ 60 := pow_le (by omega)
  have h60 : 2 ^ 60 = 1152921504606846976 := by decide
  have hg := gat_lt f i
  have e1 : wrapA IntKind.i64 ((1 : Int) * (2 : Int) ^ min i 64) = Int.ofNat (2 ^ i) := by
    rw [Int.one_mul, show min i 64 = i by omega, i_pow]; exact wrap64 (by omega)
  rw [e1, BitVec.toNat_or, ofInt_nat, ofInt_nat, Nat.mod_eq_of_lt (by omega), Nat.mod_eq_of_lt (by omega)]
  have e2 : gat f i ||| 2 ^ i = gat f i + 2 ^ i := by
    have := Nat.two_pow_add_eq_or_of_lt hg 1
    rw [Nat.mul_one] at this
    rw [Nat.or_comm, ← this, Nat.add_comm]
  rw [e2]
  have e3 : gat f (i + 1) = gat f i + 2 ^ i := by show gat f i + (bif f i then 2 ^ i else 0) = _; rw [h]; rfl
  rw [e3]
  exact wrap64 (by omega)
theorem gat_s {f : Nat → Bool} {i : Nat} (h : f i = false) : gat f (i + 1) = gat f i := by show gat f i + (bif f i then 2 ^ i else 0) = _; rw [h]; rfl
theorem gat_t {f : Nat → Bool} {i : Nat} (h : f i = true) : gat f (i + 1) = gat f i + 2 ^ i := by show gat f i + (bif f i then 2 ^ i else 0) = _; rw [h]; rfl
def f2I (a b : Int) : List Nat := fI [a, b]
theorem ga_rw (f : Nat → Bool) {n : Nat} (hn : n < 60) : rwI (Int.ofNat (gat f n)) := by
  have h := gat_lt f n
  have hp : 2 ^ n ≤ 2 ^ 60 := pow_le (by omega)
  have h60 : 2 ^ 60 = 1152921504606846976 := by decide
  exact ⟨by simp, by simp; omega⟩
theorem gaT_lq (n i s : Nat) (f : Nat → Bool) (h0 : decide (Int.ofNat i < Int.ofNat n) = true) (h1 : f i = true) : LD Try.prog (loopAt Try.prog 50 0) 20 0 [(3, .i .i64
  (Int.ofNat s)), (6, .sv 1 n (fun i _ => .b (f i))), (7, .i .i64 (Int.ofNat n)), (8, .i .i64 (Int.ofNat i))] [] (Orc.t (Orc.t Orc.z)) .nrm [] [(3, .i .i64 (wrapA .i64
  ↑(BitVec.toNat (BitVec.ofInt 64 (Int.ofNat s) ||| BitVec.ofInt 64 (wrapA .i64 ((1 : Int) * (2 : Int) ^ min i 64)))))), (6, .sv 1 n (fun i _ => .b (f i))), (7, .i .i64
  (Int.ofNat n)), (8, .i .i64 (Int.ofNat i + 1))] [] 0 (fun Lf => decide (Int.ofNat i < Int.ofNat n) = true ∧ (0 ≤ Int.ofNat i ∧ Int.ofNat i < ↑n) ∧ True ∧ f i = true ∧ 0 ≤
  Int.ofNat i ∧ True ∧ rg (Int.ofNat i + 1) ∧ Lf) := by unfold LD LQ; kernel_rfl
theorem gaF_lq (n i s : Nat) (f : Nat → Bool) (h0 : decide (Int.ofNat i < Int.ofNat n) = true) (h1 : f i = false) : LD Try.prog (loopAt Try.prog 50 0) 20 0 [(3, .i .i64
  (Int.ofNat s)), (6, .sv 1 n (fun i _ => .b (f i))), (7, .i .i64 (Int.ofNat n)), (8, .i .i64 (Int.ofNat i))] [] (Orc.t (Orc.f Orc.z)) .nrm [] [(3, .i .i64 (Int.ofNat s)), (6,
  .sv 1 n (fun i _ => .b (f i))), (7, .i .i64 (Int.ofNat n)), (8, .i .i64 (Int.ofNat i + 1))] [] 0 (fun Lf => decide (Int.ofNat i < Int.ofNat n) = true ∧ (0 ≤ Int.ofNat i ∧
  Int.ofNat i < ↑n) ∧ True ∧ f i = false ∧ rg (Int.ofNat i + 1) ∧ Lf) := by unfold LD LQ; kernel_rfl
theorem gaE_lq (n i s : Nat) (f : Nat → Bool) (h0 : decide (Int.ofNat i < Int.ofNat n) = false) : LD Try.prog (loopAt Try.prog 50 0) 20 0 [(3, .i .i64 (Int.ofNat s)), (6, .sv 1
  n (fun i _ => .b (f i))), (7, .i .i64 (Int.ofNat n)), (8, .i .i64 (Int.ofNat i))] [] (Orc.f Orc.z) (.exit 0) [] [(3, .i .i64 (Int.ofNat s))] [] 0 (fun Lf => decide (Int.ofNat
  i < Int.ofNat n) = false ∧ Lf) := by unfold LD LQ; kernel_rfl
theorem ga00_vq (s0 : Nat) (n : Nat) (f : Nat → Bool) : VD Try.prog 50 [.sv 1 n (fun i _ => .b (f i))] [] (Orc.lop [] [3, 6, 7, 8] 0 (XO.exit 0) [(3, .i .i64 (Int.ofNat s0))]
  [] Orc.z) (.i .i64 (Int.ofNat s0)) [] [] 0 (fun Lf => LDoes Try.prog (loopAt Try.prog 50 0) 20 0 (mkT [(3, .i .i64 0), (6, .sv 1 n fun i x => CV.b (f i)), (7, .i .i64
  (Int.ofNat n)), (8, .i .i64 0)]) [] (XO.exit 0) (mkT [(3, .i .i64 (Int.ofNat s0))]) [] ∧ Lf) := by unfold VD VQ; kernel_rfl
theorem ga0_con (n : Nat) (f : Nat → Bool)  (s0 : Nat) (hl : LDoes Try.prog (loopAt Try.prog 50 0) 20 0 (mkT [(3, .i .i64 0), (6, .sv 1 n (fun i _ => .b (f i))), (7, .i .i64 (Int.ofNat n)), (8, .i .i64 0)]) [] (.exit 0) (mkT [(3, .i .i64 (Int.ofNat s0))]) []) : Con Try.prog 50 [.sv 1 n (fun i _ => .b (f i))] [] (.i .i64 (Int.ofNat s0)) [] := by
  exact con_d (ga00_vq (s0 := s0) (n := n) (f := f)) (by repeat' first | exact trivial | assumption | exact rfl | exact nT (by assumption) | exact nF (by assumption) | exact hl | apply And.intro)
theorem ga_lp (n : Nat) (f : Nat → Bool) (hn : n < 60) : LDoes Try.prog (loopAt Try.prog 50 0) 20 0 (mkT [(3, .i .i64 0), (6, .sv 1 n (fun i _ => .b (f i))), (7, .i .i64 (Int.ofNat n)), (8, .i .i64 0)]) [] (.exit 0) (mkT [(3, .i .i64 (Int.ofNat (gat f n)))]) [] := by
  refine loop_q (fun i : Nat => ([(3, .i .i64 (Int.ofNat (gat f i))), (6, .sv 1 n (fun i _ => .b (f i))), (7, .i .i64 (Int.ofNat n)), (8, .i .i64 (Int.ofNat i))], [])) (fun i => n - i) (fun i => i ≤ n) (fun _ => Nat.le_refl _) ?_ 0 (Nat.zero_le _)
  intro i hi
  rcases Nat.lt_or_ge i n with hlt | q
  · have h1 : decide (Int.ofNat i < Int.ofNat n) = true := decide_eq_true (by simp; omega)
    have bi : (0 : Int) ≤ Int.ofNat i ∧ Int.ofNat i < (↑n : Int) := ⟨by simp, by simp; omega⟩
    have b0 : (0 : Int) ≤ Int.ofNat i := bi.1
    have ri : rg (Int.ofNat i + 1) := ⟨by simp <;> omega, by simp <;> omega⟩
    cases h : f i with
    | true => exact rd_nrm (gaT_lq n i (gat f i) f h1 h) (by repeat' first | exact trivial | assumption | exact rfl | exact nT (by assumption) | exact nF (by assumption) | apply And.intro) (i + 1) hlt (by show n - (i + 1) < n - i; omega) rfl (by rw [ga_or (by omega) h]; exact .refl _) (.refl _)
    | false => exact rd_nrm (gaF_lq n i (gat f i) f h1 h) (by repeat' first | exact trivial | assumption | exact rfl | exact nT (by assumption) | exact nF (by assumption) | apply And.intro) (i + 1) hlt (by show n - (i + 1) < n - i; omega) rfl (by rw [gat_s h]; exact .refl _) (.refl _)
  · obtain rfl : i = n := Nat.le_antisymm hi q
    have h1 : decide (Int.ofNat i < Int.ofNat i) = false := decide_eq_false (by simp)
    exact rd_out (gaE_lq i i (gat f i) f h1) ⟨h1, rfl⟩ rfl rfl (.refl _) (.refl _)
theorem ga_con (n : Nat) (f : Nat → Bool) (hn : n < 60) : Con Try.prog 50 [.sv 1 n (fun i _ => .b (f i))] [] (.i .i64 (Int.ofNat (gat f n))) [] := ga0_con n f _ (ga_lp n f hn)
theorem ga8_con (g : Nat → Bool) : Con Try.prog 50 [.l 0 0 8 8 1 true] [some (cellsO 37 [.b (g 0), .b (g 1), .b (g 2), .b (g 3), .b (g 4), .b (g 5), .b (g 6), .b (g 7), .b (g 8), .b (g 9), .b (g 10), .b (g 11), .b (g 12), .b (g 13), .b (g 14), .b (g 15), .b (g 16), .b (g 17), .b (g 18), .b (g 19), .b (g 20), .b (g 21), .b (g 22), .b (g 23), .b (g 24), .b (g 25), .b (g 26), .b (g 27), .b (g 28), .b (g 29), .b (g 30), .b (g 31)])] (.i .i64 (Int.ofNat (gat (fun i => g (0 + i)) 8))) [.keep] :=
  ((ga_con 8 (fun i => g (0 + i)) (by decide)).pre (pargs' := [.sv 1 8 (listF 1 [.b (g 0), .b (g 1), .b (g 2), .b (g 3), .b (g 4), .b (g 5), .b (g 6), .b (g 7), .b (g 8), .b (g 9), .b (g 10), .b (g 11), .b (g 12), .b (g 13), .b (g 14), .b (g 15), .b (g 16), .b (g 17), .b (g 18), .b (g 19), .b (g 20), .b (g 21), .b (g 22), .b (g 23), .b (g 24), .b (g 25), .b (g 26), .b (g 27), .b (g 28), .b (g 29), .b (g 30), .b (g 31)] 8)]) ⟨by
    refine .sv fun i j hi hj => ?_
    obtain rfl : j = 0 := by omega
    have hi : i < 8 := hi
    rcases i with _ | _ | _ | _ | _ | _ | _ | _ | i <;> first | rfl | omega, trivial⟩).borrow (pargs0 := [.l 0 0 8 8 1 true]) (objs := [some (cellsO 37 [.b (g 0), .b (g 1), .b (g 2), .b (g 3), .b (g 4), .b (g 5), .b (g 6), .b (g 7), .b (g 8), .b (g 9), .b (g 10), .b (g 11), .b (g 12), .b (g 13), .b (g 14), .b (g 15), .b (g 16), .b (g 17), .b (g 18), .b (g 19), .b (g 20), .b (g 21), .b (g 22), .b (g 23), .b (g 24), .b (g 25), .b (g 26), .b (g 27), .b (g 28), .b (g 29), .b (g 30), .b (g 31)])]) [0] (frzP 0 (.cells 32 [.b (g 0), .b (g 1), .b (g 2), .b (g 3), .b (g 4), .b (g 5), .b (g 6), .b (g 7), .b (g 8), .b (g 9), .b (g 10), .b (g 11), .b (g 12), .b (g 13), .b (g 14), .b (g 15), .b (g 16), .b (g 17), .b (g 18), .b (g 19), .b (g 20), .b (g 21), .b (g 22), .b (g 23), .b (g 24), .b (g 25), .b (g 26), .b (g 27), .b (g 28), .b (g 29), .b (g 30), .b (g 31)]) (.tup [.l 0 0 8 8 1 true]) ∧ True) (by kernel_rfl) (by kernel_rfl) (by kernel_rfl) ⟨by simp [frzP, frzsP], trivial⟩ (by kernel_rfl) (by kernel_rfl) VR_i
theorem ga24_con (g : Nat → Bool) : Con Try.prog 50 [.l 0 8 24 24 1 true] [some (cellsO 37 [.b (g 0), .b (g 1), .b (g 2), .b (g 3), .b (g 4), .b (g 5), .b (g 6), .b (g 7), .b (g 8), .b (g 9), .b (g 10), .b (g 11), .b (g 12), .b (g 13), .b (g 14), .b (g 15), .b (g 16), .b (g 17), .b (g 18), .b (g 19), .b (g 20), .b (g 21), .b (g 22), .b (g 23), .b (g 24), .b (g 25), .b (g 26), .b (g 27), .b (g 28), .b (g 29), .b (g 30), .b (g 31)])] (.i .i64 (Int.ofNat (gat (fun i => g (8 + i)) 24))) [.keep] :=
  ((ga_con 24 (fun i => g (8 + i)) (by decide)).pre (pargs' := [.sv 1 24 (listF 1 [.b (g 8), .b (g 9), .b (g 10), .b (g 11), .b (g 12), .b (g 13), .b (g 14), .b (g 15), .b (g 16), .b (g 17), .b (g 18), .b (g 19), .b (g 20), .b (g 21), .b (g 22), .b (g 23), .b (g 24), .b (g 25), .b (g 26), .b (g 27), .b (g 28), .b (g 29), .b (g 30), .b (g 31)] 24)]) ⟨by
    refine .sv fun i j hi hj => ?_
    obtain rfl : j = 0 := by omega
    have hi : i < 24 := hi
    rcases i with _ | _ | _ | _ | _ | _ | _ | _ | _ | _ | _ | _ | _ | _ | _ | _ | _ | _ | _ | _ | _ | _ | _ | _ | i <;> first | rfl | omega, trivial⟩).borrow (pargs0 := [.l 0 8 24 24 1 true]) (objs := [some (cellsO 37 [.b (g 0), .b (g 1), .b (g 2), .b (g 3), .b (g 4), .b (g 5), .b (g 6), .b (g 7), .b (g 8), .b (g 9), .b (g 10), .b (g 11), .b (g 12), .b (g 13), .b (g 14), .b (g 15), .b (g 16), .b (g 17), .b (g 18), .b (g 19), .b (g 20), .b (g 21), .b (g 22), .b (g 23), .b (g 24), .b (g 25), .b (g 26), .b (g 27), .b (g 28), .b (g 29), .b (g 30), .b (g 31)])]) [0] (frzP 0 (.cells 32 [.b (g 0), .b (g 1), .b (g 2), .b (g 3), .b (g 4), .b (g 5), .b (g 6), .b (g 7), .b (g 8), .b (g 9), .b (g 10), .b (g 11), .b (g 12), .b (g 13), .b (g 14), .b (g 15), .b (g 16), .b (g 17), .b (g 18), .b (g 19), .b (g 20), .b (g 21), .b (g 22), .b (g 23), .b (g 24), .b (g 25), .b (g 26), .b (g 27), .b (g 28), .b (g 29), .b (g 30), .b (g 31)]) (.tup [.l 0 8 24 24 1 true]) ∧ True) (by kernel_rfl) (by kernel_rfl) (by kernel_rfl) ⟨by simp [frzP, frzsP], trivial⟩ (by kernel_rfl) (by kernel_rfl) VR_i
theorem es0_vq (sa : Nat) (sb : Nat) (f2 : Int → Int → List Nat) (g : Nat → Bool) : VD Try.prog 19 [.agg [.b (g 0), .b (g 1), .b (g 2), .b (g 3), .b (g 4), .b (g 5), .b (g 6),
  .b (g 7), .b (g 8), .b (g 9), .b (g 10), .b (g 11), .b (g 12), .b (g 13), .b (g 14), .b (g 15), .b (g 16), .b (g 17), .b (g 18), .b (g 19), .b (g 20), .b (g 21), .b (g 22),
  .b (g 23), .b (g 24), .b (g 25), .b (g 26), .b (g 27), .b (g 28), .b (g 29), .b (g 30), .b (g 31)]] [] (Orc.cal [0] (.i .i64 (Int.ofNat sa)) [.keep] (Orc.cal [0] (.i .i64
  (Int.ofNat sb)) [.keep] (Orc.cal [1] (.s (f2 (Int.ofNat sa) (Int.ofNat sb))) [.keep] Orc.z))) (.s (f2 (Int.ofNat sa) (Int.ofNat sb))) [] [] 2 (fun Lf => True ∧ Con Try.prog
  50 [.l 0 0 8 8 1 true] [some (cellsO 37 [.b (g 0), .b (g 1), .b (g 2), .b (g 3), .b (g 4), .b (g 5), .b (g 6), .b (g 7), .b (g 8), .b (g 9), .b (g 10), .b (g 11), .b (g 12),
  .b (g 13), .b (g 14), .b (g 15), .b (g 16), .b (g 17), .b (g 18), .b (g 19), .b (g 20), .b (g 21), .b (g 22), .b (g 23), .b (g 24), .b (g 25), .b (g 26), .b (g 27), .b (g
  28), .b (g 29), .b (g 30), .b (g 31)])] (.i .i64 (Int.ofNat sa)) [.keep] ∧ True ∧ Con Try.prog 50 [.l 0 8 24 24 1 true] [some (cellsO 37 [.b (g 0), .b (g 1), .b (g 2), .b (g
  3), .b (g 4), .b (g 5), .b (g 6), .b (g 7), .b (g 8), .b (g 9), .b (g 10), .b (g 11), .b (g 12), .b (g 13), .b (g 14), .b (g 15), .b (g 16), .b (g 17), .b (g 18), .b (g 19),
  .b (g 20), .b (g 21), .b (g 22), .b (g 23), .b (g 24), .b (g 25), .b (g 26), .b (g 27), .b (g 28), .b (g 29), .b (g 30), .b (g 31)])] (.i .i64 (Int.ofNat sb)) [.keep] ∧ Con
  Try.prog 37 [.l 0 0 2 2 1 true] [some (cellsO 3 [.i .i64 (Int.ofNat sa), .i .i64 (Int.ofNat sb)])] (.s (f2 (Int.ofNat sa) (Int.ofNat sb))) [.keep] ∧ Lf)
  := by unfold VD VQ; kernel_rfl
theorem es_con (g : Nat → Bool)   : Con Try.prog 19 [.agg [.b (g 0), .b (g 1), .b (g 2), .b (g 3), .b (g 4), .b (g 5), .b (g 6), .b (g 7), .b (g 8), .b (g 9), .b (g 10), .b (g 11), .b (g 12), .b (g 13), .b (g 14), .b (g 15), .b (g 16), .b (g 17), .b (g 18), .b (g 19), .b (g 20), .b (g 21), .b (g 22), .b (g 23), .b (g 24), .b (g 25), .b (g 26), .b (g 27), .b (g 28), .b (g 29), .b (g 30), .b (g 31)]] [] (.s (f2I (Int.ofNat (gat (fun i => g (0 + i)) 8)) (Int.ofNat (gat (fun i => g (8 + i)) 24)))) [] := by
  generalize hsa : gat (fun i => g (0 + i)) 8 = sa
  generalize hsb : gat (fun i => g (8 + i)) 24 = sb
  have k1 := ga8_con g
  have k2 := ga24_con g
  rw [hsa] at k1; rw [hsb] at k2
  have k3 := f2_con (Int.ofNat sa) (Int.ofNat sb) (hsa ▸ ga_rw _ (by decide)) (hsb ▸ ga_rw _ (by decide))
  exact con_d (es0_vq (sa := sa) (sb := sb) (f2 := f2I) (g := g)) (by repeat' first | exact trivial | assumption | exact rfl | exact nT (by assumption) | exact nF (by assumption) | exact ga8_con _ | exact ga24_con _ | exact f2_con _ _ (ga_rw _ (by decide)) (ga_rw _ (by decide)) | apply And.intro)
noncomputable def sgT (g : Nat → Bool) : List Nat := f2I (Int.ofNat (gat (fun i => g (0 + i)) 8)) (Int.ofNat (gat (fun i => g (8 + i)) 24))
theorem seg_con (g : Nat → Bool) : Con Try.prog 19 [.agg [.b (g 0), .b (g 1), .b (g 2), .b (g 3), .b (g 4), .b (g 5), .b (g 6), .b (g 7), .b (g 8), .b (g 9), .b (g 10), .b (g 11), .b (g 12), .b (g 13), .b (g 14), .b (g 15), .b (g 16), .b (g 17), .b (g 18), .b (g 19), .b (g 20), .b (g 21), .b (g 22), .b (g 23), .b (g 24), .b (g 25), .b (g 26), .b (g 27), .b (g 28), .b (g 29), .b (g 30), .b (g 31)]] [] (.s (sgT g)) [] := es_con g
end Go.Proofs.Ly
