/- Runs over unknown values, told by the kernel: part GD. -/
import Derived.Test.YtjhcbjncdbmhoaaGC
set_option linter.unusedSimpArgs false
set_option linter.unusedVariables false
set_option maxRecDepth 20000
namespace Go.Proofs.Ly
open Go Go.Sim Go.Proofs Go.Proofs.Cl Go.Proofs.Ytjhcbjncdbmhoaa
theorem nnT {b : Bool} (h : b = true) : (!!b) = true := by rw [h]; rfl
theorem nnF {b : Bool} (h : b = false) : (!!b) = false := by rw [h]; rfl
noncomputable def eF (A : Nat → List Nat) (N : Nat → Int) (i j : Nat) : CV := Nat.rec (.s (A i)) (fun _ _ => .i .i64 (N i)) j
theorem ls_tri : ∀ x y : List Nat, natsLess y x = !(natsLess x y || natsEq x y)
  | [], [] => rfl
  | [], _ :: _ => rfl
  | _ :: _, [] => rfl
  | a :: x, b :: y => by
    have h := ls_tri x y
    show (match Nat.blt b a with | true => true | false => match Nat.beq b a with | true => natsLess y x | false => false) = !((match Nat.blt a b with | true => true | false => match Nat.beq a b with | true => natsLess x y | false => false) || (match Nat.beq a b with | true => natsEq x y | false => false))
    rcases Nat.lt_trichotomy a b with q | rfl | q
    · rw [show Nat.blt a b = true by rw [Nat.blt_eq]; exact q, show Nat.blt b a = false by rw [Bool.eq_false_iff, ne_eq, Nat.blt_eq]; omega, show Nat.beq b a = false by rw [Bool.eq_false_iff, ne_eq, Nat.beq_eq]; omega]; rfl
    · rw [show Nat.blt a a = false by rw [Bool.eq_false_iff, ne_eq, Nat.blt_eq]; omega, show Nat.beq a a = true by rw [Nat.beq_eq]]; exact h
    · rw [show Nat.blt b a = true by rw [Nat.blt_eq]; exact q, show Nat.blt a b = false by rw [Bool.eq_false_iff, ne_eq, Nat.blt_eq]; omega, show Nat.beq a b = false by rw [Bool.eq_false_iff, ne_eq, Nat.beq_eq]; omega]; rfl
def lstA (A : Nat → List Nat) : Nat → List Nat
  | 0 => []
  | i + 1 => A i
noncomputable def leB (x y : List Nat) : Bool := natsLess x y || natsEq x y
noncomputable def pE (A : Nat → List Nat) (N : Nat → Int) (i : Nat) : Bool := nmB (A i) && (iiB (N i) && !leB (A i) (lstA A i))
noncomputable def enB (n : Nat) (A : Nat → List Nat) (N : Nat → Int) : Bool := decide (Int.ofNat n ≤ 8) && alB (pE A N) n
def LenA (n : Nat) (A : Nat → List Nat) : Prop := ∀ i, i < n → (A i).length ≤ 281474976710656
theorem nm_ne {t : List Nat} (h : nmB t = true) : t ≠ [] := by
  rintro rfl
  unfold nmB wi at h
  simp at h
theorem nm_le {t : List Nat} (h : nmB t = true) : t.length ≤ 6 := by
  unfold nmB wi at h
  simp only [Bool.and_eq_true, decide_eq_true_eq] at h
  have := h.1.2
  simp at this; omega
theorem le_nil {t : List Nat} (h : nmB t = true) : leB t [] = false := by
  cases t with
  | nil => exact absurd rfl (nm_ne h)
  | cons a t => rfl
theorem natI (i : Nat) : Int.toNat (Int.ofNat (i + 1) - 1) = i := by simp
theorem n8 {n : Nat} (h : decide ((8 : Int) < Int.ofNat n) = false) : n ≤ 8 := by
  have := of_decide_eq_false h
  simp at this; omega
noncomputable def sqB (A : Nat → List Nat) (N : Nat → Int) (B : Nat → List Nat) (M : Nat → Int) (i : Nat) : Bool := natsEq (A i) (B i) && (decide (N i = M i) && true)
noncomputable def smB (n : Nat) (A : Nat → List Nat) (N : Nat → Int) (m : Nat) (B : Nat → List Nat) (M : Nat → Int) : Bool := decide (Int.ofNat n = Int.ofNat m) && alB (sqB A N B M) n
theorem eR_lq (nm : List Nat → Bool) (ii : Int → Bool) (n i : Nat) (A : Nat → List Nat) (N : Nat → Int) (la : List Nat) (h0 : decide (Int.ofNat i < Int.ofNat n) = true) (h1 :
  nm (A i) = true) (h2 : ii (N i) = true) (h3 : (natsLess (A i) la || natsEq (A i) la) = false) : LD Try.prog (loopAt Try.prog 44 0) 34 0 [(3, .s la), (9, .sv 2 n (eF A N)),
  (10, .i .i64 (Int.ofNat n)), (11, .i .i64 (Int.ofNat i))] [] (Orc.t (Orc.cal [] (.b (nm (A i))) [] (Orc.t (Orc.t (Orc.t (Orc.cal [] (.b (ii (N i))) [] (Orc.t (Orc.f (Orc.t
  (Orc.t (Orc.t (Orc.t (Orc.f (Orc.f Orc.z)))))))))))))) .nrm [] [(3, .s (A i)), (9, .sv 2 n (eF A N)), (10, .i .i64 (Int.ofNat n)), (11, .i .i64 (Int.ofNat i + 1))] [] 1 (fun
  Lf => decide (Int.ofNat i < Int.ofNat n) = true ∧ (0 ≤ Int.ofNat i ∧ Int.ofNat i < ↑n) ∧ True ∧ True ∧ Con Try.prog 21 [.s (A i)] [] (.b (nm (A i))) [] ∧ True ∧ (!!nm (A i))
  = true ∧ True ∧ (!!nm (A i)) = true ∧ (!!nm (A i)) = true ∧ Con Try.prog 76 [.i .i64 (N i)] [] (.b (ii (N i))) [] ∧ (!!nm (A i)) = true ∧ True ∧ (!nm (A i)) = false ∧ (!!ii
  (N i)) = true ∧ True ∧ (!!ii (N i)) = true ∧ (!!ii (N i)) = true ∧ (!!ii (N i)) = true ∧ (!ii (N i)) = false ∧ (natsLess (A i) la || natsEq (A i) la) = false ∧ True ∧ rg
  (Int.ofNat i + 1) ∧ Lf) := by unfold LD LQ; kernel_rfl
theorem eX1_lq (nm : List Nat → Bool) (n i : Nat) (A : Nat → List Nat) (N : Nat → Int) (la : List Nat) (h0 : decide (Int.ofNat i < Int.ofNat n) = true) (h1 : nm (A i) = false)
  : LD Try.prog (loopAt Try.prog 44 0) 34 0 [(3, .s la), (9, .sv 2 n (eF A N)), (10, .i .i64 (Int.ofNat n)), (11, .i .i64 (Int.ofNat i))] [] (Orc.t (Orc.cal [] (.b (nm (A i)))
  [] (Orc.f (Orc.f (Orc.f (Orc.f (Orc.t (oc 6 Orc.z)))))))) .ret [] [(2, .b false)] [] 1 (fun Lf => decide (Int.ofNat i < Int.ofNat n) = true ∧ (0 ≤ Int.ofNat i ∧ Int.ofNat i <
  ↑n) ∧ True ∧ True ∧ Con Try.prog 21 [.s (A i)] [] (.b (nm (A i))) [] ∧ True ∧ (!!nm (A i)) = false ∧ (!!nm (A i)) = false ∧ (!!nm (A i)) = false ∧ (!!nm (A i)) = false ∧ (!nm
  (A i)) = true ∧ Lf) := by unfold LD LQ; kernel_rfl
theorem eX2_lq (nm : List Nat → Bool) (ii : Int → Bool) (n i : Nat) (A : Nat → List Nat) (N : Nat → Int) (la : List Nat) (h0 : decide (Int.ofNat i < Int.ofNat n) = true) (h1 :
  nm (A i) = true) (h2 : ii (N i) = false) : LD Try.prog (loopAt Try.prog 44 0) 34 0 [(3, .s la), (9, .sv 2 n (eF A N)), (10, .i .i64 (Int.ofNat n)), (11, .i .i64 (Int.ofNat
  i))] [] (Orc.t (Orc.cal [] (.b (nm (A i))) [] (Orc.t (Orc.t (Orc.t (Orc.cal [] (.b (ii (N i))) [] (Orc.t (Orc.f (Orc.f (Orc.f (Orc.f (Orc.f (Orc.t (Orc.c Orc.z))))))))))))))
  .ret [] [(2, .b false)] [] 1 (fun Lf => decide (Int.ofNat i < Int.ofNat n) = true ∧ (0 ≤ Int.ofNat i ∧ Int.ofNat i < ↑n) ∧ True ∧ True ∧ Con Try.prog 21 [.s (A i)] [] (.b (nm
  (A i))) [] ∧ True ∧ (!!nm (A i)) = true ∧ True ∧ (!!nm (A i)) = true ∧ (!!nm (A i)) = true ∧ Con Try.prog 76 [.i .i64 (N i)] [] (.b (ii (N i))) [] ∧ (!!nm (A i)) = true ∧
  True ∧ (!nm (A i)) = false ∧ (!!ii (N i)) = false ∧ (!!ii (N i)) = false ∧ (!!ii (N i)) = false ∧ (!!ii (N i)) = false ∧ (!ii (N i)) = true ∧ Lf)
  := by unfold LD LQ; kernel_rfl
theorem eX3_lq (nm : List Nat → Bool) (ii : Int → Bool) (n i : Nat) (A : Nat → List Nat) (N : Nat → Int) (la : List Nat) (h0 : decide (Int.ofNat i < Int.ofNat n) = true) (h1 :
  nm (A i) = true) (h2 : ii (N i) = true) (h3 : (natsLess (A i) la || natsEq (A i) la) = true) : LD Try.prog (loopAt Try.prog 44 0) 34 0 [(3, .s la), (9, .sv 2 n (eF A N)),
  (10, .i .i64 (Int.ofNat n)), (11, .i .i64 (Int.ofNat i))] [] (Orc.t (Orc.cal [] (.b (nm (A i))) [] (Orc.t (Orc.t (Orc.t (Orc.cal [] (.b (ii (N i))) [] (Orc.t (Orc.f (Orc.t
  (Orc.t (Orc.t (Orc.t (Orc.f (Orc.t Orc.z)))))))))))))) .ret [] [(2, .b false)] [] 1 (fun Lf => decide (Int.ofNat i < Int.ofNat n) = true ∧ (0 ≤ Int.ofNat i ∧ Int.ofNat i <
  ↑n) ∧ True ∧ True ∧ Con Try.prog 21 [.s (A i)] [] (.b (nm (A i))) [] ∧ True ∧ (!!nm (A i)) = true ∧ True ∧ (!!nm (A i)) = true ∧ (!!nm (A i)) = true ∧ Con Try.prog 76 [.i
  .i64 (N i)] [] (.b (ii (N i))) [] ∧ (!!nm (A i)) = true ∧ True ∧ (!nm (A i)) = false ∧ (!!ii (N i)) = true ∧ True ∧ (!!ii (N i)) = true ∧ (!!ii (N i)) = true ∧ (!!ii (N i)) =
  true ∧ (!ii (N i)) = false ∧ (natsLess (A i) la || natsEq (A i) la) = true ∧ Lf) := by unfold LD LQ; kernel_rfl
theorem eE_lq (n i : Nat) (A : Nat → List Nat) (N : Nat → Int) (la : List Nat) (h0 : decide (Int.ofNat i < Int.ofNat n) = false) : LD Try.prog (loopAt Try.prog 44 0) 34 0 [(3,
  .s la), (9, .sv 2 n (eF A N)), (10, .i .i64 (Int.ofNat n)), (11, .i .i64 (Int.ofNat i))] [] (Orc.f Orc.z) (.exit 0) [] [] [] 0 (fun Lf => decide (Int.ofNat i < Int.ofNat n) =
  false ∧ Lf) := by unfold LD LQ; kernel_rfl
theorem fR0_lq (nm : List Nat → Bool) (n i : Nat) (A : Nat → List Nat) (N : Nat → Int) (h0 : decide (Int.ofNat i < Int.ofNat n) = true) (h1 : nm (A i) = true) (h2 : decide (N i
  < 0) = false) (h3 : decide (16 ≤ N i) = false) (h4 : decide (0 < Int.ofNat i) = false) : LD Try.prog (loopAt Try.prog 48 0) 54 0 [(0, .sv 2 n (eF A N)), (3, .i .i64
  (Int.ofNat i))] [] (Orc.t (Orc.cal [] (.b (nm (A i))) [] (Orc.t (Orc.t (Orc.t (Orc.t (Orc.t (Orc.t (Orc.f (Orc.t (Orc.t (Orc.t (Orc.t (Orc.t (Orc.t (Orc.f (Orc.t (Orc.t
  (Orc.t (Orc.f (Orc.f (Orc.f (Orc.f (Orc.f (Orc.f (Orc.f (Orc.f (Orc.f (Orc.f (Orc.f (Orc.f (Orc.t (Orc.f (Orc.f (Orc.c Orc.z))))))))))))))))))))))))))))))))))) .nrm [] [(0,
  .sv 2 n (eF A N)), (3, .i .i64 (Int.ofNat i + 1))] [] 0 (fun Lf => decide (Int.ofNat i < Int.ofNat n) = true ∧ (0 ≤ Int.ofNat i ∧ Int.ofNat i < ↑n) ∧ True ∧ True ∧ Con
  Try.prog 22 [.s (A i)] [] (.b (nm (A i))) [] ∧ True ∧ (!!nm (A i)) = true ∧ (!!nm (A i)) = true ∧ (!!nm (A i)) = true ∧ (0 ≤ Int.ofNat i ∧ Int.ofNat i < ↑n) ∧ (!!nm (A i)) =
  true ∧ True ∧ (!!nm (A i)) = true ∧ True ∧ (!!nm (A i)) = true ∧ (!nm (A i)) = false ∧ (!decide (N i < 0)) = true ∧ (!decide (N i < 0)) = true ∧ (!decide (N i < 0)) = true ∧
  (0 ≤ Int.ofNat i ∧ Int.ofNat i < ↑n) ∧ (!decide (N i < 0)) = true ∧ True ∧ (!decide (N i < 0)) = true ∧ True ∧ (!decide (N i < 0)) = true ∧ decide (N i < 0) = false ∧
  (!decide (16 ≤ N i)) = true ∧ (!decide (16 ≤ N i)) = true ∧ (!decide (16 ≤ N i)) = true ∧ decide (0 < Int.ofNat i) = false ∧ decide (0 < Int.ofNat i) = false ∧ decide (0 <
  Int.ofNat i) = false ∧ decide (0 < Int.ofNat i) = false ∧ decide (0 < Int.ofNat i) = false ∧ decide (0 < Int.ofNat i) = false ∧ decide (0 < Int.ofNat i) = false ∧ decide (0 <
  Int.ofNat i) = false ∧ decide (0 < Int.ofNat i) = false ∧ decide (0 < Int.ofNat i) = false ∧ decide (0 < Int.ofNat i) = false ∧ decide (0 < Int.ofNat i) = false ∧ (!decide
  (16 ≤ N i)) = true ∧ decide (0 < Int.ofNat i) = false ∧ decide (16 ≤ N i) = false ∧ rg (Int.ofNat i + 1) ∧ Lf) := by unfold LD LQ; kernel_rfl
theorem fR1_lq (nm : List Nat → Bool) (n i : Nat) (A : Nat → List Nat) (N : Nat → Int) (h0 : decide (Int.ofNat i < Int.ofNat n) = true) (h1 : nm (A i) = true) (h2 : decide (N i
  < 0) = false) (h3 : decide (16 ≤ N i) = false) (h4 : decide (0 < Int.ofNat i) = true) (h5 : natsLess (A (Int.toNat (Int.ofNat i - 1))) (A i) = true) : LD Try.prog (loopAt
  Try.prog 48 0) 54 0 [(0, .sv 2 n (eF A N)), (3, .i .i64 (Int.ofNat i))] [] (Orc.t (Orc.cal [] (.b (nm (A i))) [] (Orc.t (Orc.t (Orc.t (Orc.t (Orc.t (Orc.t (Orc.f (Orc.t
  (Orc.t (Orc.t (Orc.t (Orc.t (Orc.t (Orc.f (Orc.t (Orc.t (Orc.t (Orc.t (Orc.t (Orc.t (Orc.t (Orc.t (Orc.t (Orc.t (Orc.t (Orc.t (Orc.t (Orc.t (Orc.t (Orc.t (Orc.t (Orc.f (Orc.f
  Orc.z))))))))))))))))))))))))))))))))))) .nrm [] [(0, .sv 2 n (eF A N)), (3, .i .i64 (Int.ofNat i + 1))] [] 0 (fun Lf => decide (Int.ofNat i < Int.ofNat n) = true ∧ (0 ≤
  Int.ofNat i ∧ Int.ofNat i < ↑n) ∧ True ∧ True ∧ Con Try.prog 22 [.s (A i)] [] (.b (nm (A i))) [] ∧ True ∧ (!!nm (A i)) = true ∧ (!!nm (A i)) = true ∧ (!!nm (A i)) = true ∧ (0
  ≤ Int.ofNat i ∧ Int.ofNat i < ↑n) ∧ (!!nm (A i)) = true ∧ True ∧ (!!nm (A i)) = true ∧ True ∧ (!!nm (A i)) = true ∧ (!nm (A i)) = false ∧ (!decide (N i < 0)) = true ∧
  (!decide (N i < 0)) = true ∧ (!decide (N i < 0)) = true ∧ (0 ≤ Int.ofNat i ∧ Int.ofNat i < ↑n) ∧ (!decide (N i < 0)) = true ∧ True ∧ (!decide (N i < 0)) = true ∧ True ∧
  (!decide (N i < 0)) = true ∧ decide (N i < 0) = false ∧ (!decide (16 ≤ N i)) = true ∧ (!decide (16 ≤ N i)) = true ∧ (!decide (16 ≤ N i)) = true ∧ decide (0 < Int.ofNat i) =
  true ∧ decide (0 < Int.ofNat i) = true ∧ decide (0 < Int.ofNat i) = true ∧ rg (Int.ofNat i - 1) ∧ decide (0 < Int.ofNat i) = true ∧ (0 ≤ Int.ofNat i - 1 ∧ Int.ofNat i - (1 :
  Int) < ↑n) ∧ decide (0 < Int.ofNat i) = true ∧ True ∧ decide (0 < Int.ofNat i) = true ∧ True ∧ decide (0 < Int.ofNat i) = true ∧ decide (0 < Int.ofNat i) = true ∧ decide (0 <
  Int.ofNat i) = true ∧ (0 ≤ Int.ofNat i ∧ Int.ofNat i < ↑n) ∧ decide (0 < Int.ofNat i) = true ∧ True ∧ decide (0 < Int.ofNat i) = true ∧ True ∧ decide (0 < Int.ofNat i) = true
  ∧ (!decide (16 ≤ N i)) = true ∧ decide (0 < Int.ofNat i) = true ∧ decide (16 ≤ N i) = false ∧ (!natsLess (A (Int.toNat (Int.ofNat i - 1))) (A i)) = false ∧ rg (Int.ofNat i +
  1) ∧ Lf) := by unfold LD LQ; kernel_rfl
theorem fX1_lq (nm : List Nat → Bool) (n i : Nat) (A : Nat → List Nat) (N : Nat → Int) (h0 : decide (Int.ofNat i < Int.ofNat n) = true) (h1 : nm (A i) = false) : LD Try.prog
  (loopAt Try.prog 48 0) 54 0 [(0, .sv 2 n (eF A N)), (3, .i .i64 (Int.ofNat i))] [] (Orc.t (Orc.cal [] (.b (nm (A i))) [] (Orc.f (Orc.f (Orc.f (Orc.f (Orc.f (Orc.f (Orc.t (oc
  13 Orc.z)))))))))) .ret [] [(2, .b false)] [] 0 (fun Lf => decide (Int.ofNat i < Int.ofNat n) = true ∧ (0 ≤ Int.ofNat i ∧ Int.ofNat i < ↑n) ∧ True ∧ True ∧ Con Try.prog 22
  [.s (A i)] [] (.b (nm (A i))) [] ∧ True ∧ (!!nm (A i)) = false ∧ (!!nm (A i)) = false ∧ (!!nm (A i)) = false ∧ (!!nm (A i)) = false ∧ (!!nm (A i)) = false ∧ (!!nm (A i)) =
  false ∧ (!nm (A i)) = true ∧ Lf) := by unfold LD LQ; kernel_rfl
theorem fX2_lq (nm : List Nat → Bool) (n i : Nat) (A : Nat → List Nat) (N : Nat → Int) (h0 : decide (Int.ofNat i < Int.ofNat n) = true) (h1 : nm (A i) = true) (h2 : decide (N i
  < 0) = true) : LD Try.prog (loopAt Try.prog 48 0) 54 0 [(0, .sv 2 n (eF A N)), (3, .i .i64 (Int.ofNat i))] [] (Orc.t (Orc.cal [] (.b (nm (A i))) [] (Orc.t (Orc.t (Orc.t
  (Orc.t (Orc.t (Orc.t (Orc.f (Orc.f (Orc.f (Orc.f (Orc.f (Orc.f (Orc.f (Orc.t (oc 6 Orc.z))))))))))))))))) .ret [] [(2, .b false)] [] 0 (fun Lf => decide (Int.ofNat i <
  Int.ofNat n) = true ∧ (0 ≤ Int.ofNat i ∧ Int.ofNat i < ↑n) ∧ True ∧ True ∧ Con Try.prog 22 [.s (A i)] [] (.b (nm (A i))) [] ∧ True ∧ (!!nm (A i)) = true ∧ (!!nm (A i)) = true
  ∧ (!!nm (A i)) = true ∧ (0 ≤ Int.ofNat i ∧ Int.ofNat i < ↑n) ∧ (!!nm (A i)) = true ∧ True ∧ (!!nm (A i)) = true ∧ True ∧ (!!nm (A i)) = true ∧ (!nm (A i)) = false ∧ (!decide
  (N i < 0)) = false ∧ (!decide (N i < 0)) = false ∧ (!decide (N i < 0)) = false ∧ (!decide (N i < 0)) = false ∧ (!decide (N i < 0)) = false ∧ (!decide (N i < 0)) = false ∧
  decide (N i < 0) = true ∧ Lf) := by unfold LD LQ; kernel_rfl
theorem fX3_lq (nm : List Nat → Bool) (n i : Nat) (A : Nat → List Nat) (N : Nat → Int) (h0 : decide (Int.ofNat i < Int.ofNat n) = true) (h1 : nm (A i) = true) (h2 : decide (N i
  < 0) = false) (h3 : decide (16 ≤ N i) = true) : LD Try.prog (loopAt Try.prog 48 0) 54 0 [(0, .sv 2 n (eF A N)), (3, .i .i64 (Int.ofNat i))] [] (Orc.t (Orc.cal [] (.b (nm (A
  i))) [] (Orc.t (Orc.t (Orc.t (Orc.t (Orc.t (Orc.t (Orc.f (Orc.t (Orc.t (Orc.t (Orc.t (Orc.t (Orc.t (Orc.f (Orc.f (Orc.f (Orc.f (Orc.f (Orc.t (Orc.c
  Orc.z)))))))))))))))))))))) .ret [] [(2, .b false)] [] 0 (fun Lf => decide (Int.ofNat i < Int.ofNat n) = true ∧ (0 ≤ Int.ofNat i ∧ Int.ofNat i < ↑n) ∧ True ∧ True ∧ Con
  Try.prog 22 [.s (A i)] [] (.b (nm (A i))) [] ∧ True ∧ (!!nm (A i)) = true ∧ (!!nm (A i)) = true ∧ (!!nm (A i)) = true ∧ (0 ≤ Int.ofNat i ∧ Int.ofNat i < ↑n) ∧ (!!nm (A i)) =
  true ∧ True ∧ (!!nm (A i)) = true ∧ True ∧ (!!nm (A i)) = true ∧ (!nm (A i)) = false ∧ (!decide (N i < 0)) = true ∧ (!decide (N i < 0)) = true ∧ (!decide (N i < 0)) = true ∧
  (0 ≤ Int.ofNat i ∧ Int.ofNat i < ↑n) ∧ (!decide (N i < 0)) = true ∧ True ∧ (!decide (N i < 0)) = true ∧ True ∧ (!decide (N i < 0)) = true ∧ decide (N i < 0) = false ∧
  (!decide (16 ≤ N i)) = false ∧ (!decide (16 ≤ N i)) = false ∧ (!decide (16 ≤ N i)) = false ∧ (!decide (16 ≤ N i)) = false ∧ decide (16 ≤ N i) = true ∧ Lf)
  := by unfold LD LQ; kernel_rfl
theorem fX4_lq (nm : List Nat → Bool) (n i : Nat) (A : Nat → List Nat) (N : Nat → Int) (h0 : decide (Int.ofNat i < Int.ofNat n) = true) (h1 : nm (A i) = true) (h2 : decide (N i
  < 0) = false) (h3 : decide (16 ≤ N i) = false) (h4 : decide (0 < Int.ofNat i) = true) (h5 : natsLess (A (Int.toNat (Int.ofNat i - 1))) (A i) = false) : LD Try.prog (loopAt
  Try.prog 48 0) 54 0 [(0, .sv 2 n (eF A N)), (3, .i .i64 (Int.ofNat i))] [] (Orc.t (Orc.cal [] (.b (nm (A i))) [] (Orc.t (Orc.t (Orc.t (Orc.t (Orc.t (Orc.t (Orc.f (Orc.t
  (Orc.t (Orc.t (Orc.t (Orc.t (Orc.t (Orc.f (Orc.t (Orc.t (Orc.t (Orc.t (Orc.t (Orc.t (Orc.t (Orc.t (Orc.t (Orc.t (Orc.t (Orc.t (Orc.t (Orc.t (Orc.t (Orc.t (Orc.t (Orc.f (Orc.t
  Orc.z))))))))))))))))))))))))))))))))))) .ret [] [(2, .b false)] [] 0 (fun Lf => decide (Int.ofNat i < Int.ofNat n) = true ∧ (0 ≤ Int.ofNat i ∧ Int.ofNat i < ↑n) ∧ True ∧
  True ∧ Con Try.prog 22 [.s (A i)] [] (.b (nm (A i))) [] ∧ True ∧ (!!nm (A i)) = true ∧ (!!nm (A i)) = true ∧ (!!nm (A i)) = true ∧ (0 ≤ Int.ofNat i ∧ Int.ofNat i < ↑n) ∧
  (!!nm (A i)) = true ∧ True ∧ (!!nm (A i)) = true ∧ True ∧ (!!nm (A i)) = true ∧ (!nm (A i)) = false ∧ (!decide (N i < 0)) = true ∧ (!decide (N i < 0)) = true ∧ (!decide (N i
  < 0)) = true ∧ (0 ≤ Int.ofNat i ∧ Int.ofNat i < ↑n) ∧ (!decide (N i < 0)) = true ∧ True ∧ (!decide (N i < 0)) = true ∧ True ∧ (!decide (N i < 0)) = true ∧ decide (N i < 0) =
  false ∧ (!decide (16 ≤ N i)) = true ∧ (!decide (16 ≤ N i)) = true ∧ (!decide (16 ≤ N i)) = true ∧ decide (0 < Int.ofNat i) = true ∧ decide (0 < Int.ofNat i) = true ∧ decide
  (0 < Int.ofNat i) = true ∧ rg (Int.ofNat i - 1) ∧ decide (0 < Int.ofNat i) = true ∧ (0 ≤ Int.ofNat i - 1 ∧ Int.ofNat i - (1 : Int) < ↑n) ∧ decide (0 < Int.ofNat i) = true ∧
  True ∧ decide (0 < Int.ofNat i) = true ∧ True ∧ decide (0 < Int.ofNat i) = true ∧ decide (0 < Int.ofNat i) = true ∧ decide (0 < Int.ofNat i) = true ∧ (0 ≤ Int.ofNat i ∧
  Int.ofNat i < ↑n) ∧ decide (0 < Int.ofNat i) = true ∧ True ∧ decide (0 < Int.ofNat i) = true ∧ True ∧ decide (0 < Int.ofNat i) = true ∧ (!decide (16 ≤ N i)) = true ∧ decide
  (0 < Int.ofNat i) = true ∧ decide (16 ≤ N i) = false ∧ (!natsLess (A (Int.toNat (Int.ofNat i - 1))) (A i)) = true ∧ Lf) := by unfold LD LQ; kernel_rfl
theorem fE_lq (n i : Nat) (A : Nat → List Nat) (N : Nat → Int) (h0 : decide (Int.ofNat i < Int.ofNat n) = false) : LD Try.prog (loopAt Try.prog 48 0) 54 0 [(0, .sv 2 n (eF A
  N)), (3, .i .i64 (Int.ofNat i))] [] (Orc.f Orc.z) (.exit 0) [] [(0, .sv 2 n (eF A N))] [] 0 (fun Lf => decide (Int.ofNat i < Int.ofNat n) = false ∧ Lf)
  := by unfold LD LQ; kernel_rfl
theorem eR_li (n i : Nat) (A : Nat → List Nat) (N : Nat → Int) (hA : LenA n A) (hi : i < n) (hp : pE A N i = true) (ri : rg (Int.ofNat i + 1)) : LI Try.prog (loopAt Try.prog 44 0) 34 0 [(3, .s (lstA A i)), (9, .sv 2 n (eF A N)), (10, .i .i64 (Int.ofNat n)), (11, .i .i64 (Int.ofNat i))] [] .nrm [(3, .s (A i)), (9, .sv 2 n (eF A N)), (10, .i .i64 (Int.ofNat n)), (11, .i .i64 (Int.ofNat i + 1))] [] := by
  have h1 : decide (Int.ofNat i < Int.ofNat n) = true := decide_eq_true (by simp; omega)
  have bi : (0 : Int) ≤ Int.ofNat i ∧ Int.ofNat i < (↑n : Int) := ⟨by simp, by simp; omega⟩
  have c := name_con (A i) (hA i hi)
  have c2 : Con Try.prog 76 [.i .i64 (N i)] [] (.b (iiB (N i))) [] := c76_con _
  unfold pE at hp
  simp only [Bool.and_eq_true, Bool.not_eq_true'] at hp
  obtain ⟨p1, p2, p3⟩ := hp
  have p3 : (natsLess (A i) (lstA A i) || natsEq (A i) (lstA A i)) = false := p3
  exact li_of (eR_lq nmB iiB n i A N (lstA A i) h1 p1 p2 p3) (by repeat' first | exact trivial | assumption | exact rfl | exact nT (by assumption) | exact nF (by assumption) | exact nnT (by assumption) | exact nnF (by assumption) | apply And.intro | decide)
theorem eX_li (n i : Nat) (A : Nat → List Nat) (N : Nat → Int) (hA : LenA n A) (hi : i < n) (hp : pE A N i = false) : LI Try.prog (loopAt Try.prog 44 0) 34 0 [(3, .s (lstA A i)), (9, .sv 2 n (eF A N)), (10, .i .i64 (Int.ofNat n)), (11, .i .i64 (Int.ofNat i))] [] .ret [(2, .b false)] [] := by
  have h1 : decide (Int.ofNat i < Int.ofNat n) = true := decide_eq_true (by simp; omega)
  have bi : (0 : Int) ≤ Int.ofNat i ∧ Int.ofNat i < (↑n : Int) := ⟨by simp, by simp; omega⟩
  have c := name_con (A i) (hA i hi)
  have c2 : Con Try.prog 76 [.i .i64 (N i)] [] (.b (iiB (N i))) [] := c76_con _
  unfold pE at hp
  cases p1 : nmB (A i) with
  | false => exact li_of (eX1_lq nmB n i A N (lstA A i) h1 p1) (by repeat' first | exact trivial | assumption | exact rfl | exact nT (by assumption) | exact nF (by assumption) | exact nnT (by assumption) | exact nnF (by assumption) | apply And.intro | decide)
  | true =>
    rw [p1, Bool.true_and] at hp
    cases p2 : iiB (N i) with
    | false => exact li_of (eX2_lq nmB iiB n i A N (lstA A i) h1 p1 p2) (by repeat' first | exact trivial | assumption | exact rfl | exact nT (by assumption) | exact nF (by assumption) | exact nnT (by assumption) | exact nnF (by assumption) | apply And.intro | decide)
    | true =>
      rw [p2, Bool.true_and, Bool.not_eq_false'] at hp
      have p3 : (natsLess (A i) (lstA A i) || natsEq (A i) (lstA A i)) = true := hp
      exact li_of (eX3_lq nmB iiB n i A N (lstA A i) h1 p1 p2 p3) (by repeat' first | exact trivial | assumption | exact rfl | exact nT (by assumption) | exact nF (by assumption) | exact nnT (by assumption) | exact nnF (by assumption) | apply And.intro | decide)
theorem e_lp (n : Nat) (A : Nat → List Nat) (N : Nat → Int) (hA : LenA n A) (hn : n ≤ 8) (h : alB (pE A N) n = true) : LDoes Try.prog (loopAt Try.prog 44 0) 34 0 (mkT [(3, .s []), (9, .sv 2 n (eF A N)), (10, .i .i64 (Int.ofNat n)), (11, .i .i64 0)]) [] (.exit 0) (mkT []) [] := by
  refine loop_q (fun i : Nat => ([(3, .s (lstA A i)), (9, .sv 2 n (eF A N)), (10, .i .i64 (Int.ofNat n)), (11, .i .i64 (Int.ofNat i))], [])) (fun i => n - i) (fun i => i ≤ n) (fun _ => Nat.le_refl _) ?_ 0 (Nat.zero_le _)
  intro i hi
  rcases Nat.lt_or_ge i n with hlt | q
  · exact ri_nrm (eR_li n i A N hA hlt (alB_t h i hlt) ⟨by simp <;> omega, by simp <;> omega⟩) (i + 1) hlt (by show n - (i + 1) < n - i; omega) rfl (.refl _) (.refl _)
  · obtain rfl : i = n := Nat.le_antisymm hi q
    have h1 : decide (Int.ofNat i < Int.ofNat i) = false := decide_eq_false (by simp)
    exact rd_out (eE_lq i i A N (lstA A i) h1) (by repeat' first | exact trivial | assumption | exact rfl | exact nT (by assumption) | exact nF (by assumption) | exact nnT (by assumption) | exact nnF (by assumption) | apply And.intro | decide) rfl rfl (.refl _) (.refl _)
theorem eX_lp (n : Nat) (A : Nat → List Nat) (N : Nat → Int) (hA : LenA n A) (hn : n ≤ 8) (h : alB (pE A N) n = false) : LDoes Try.prog (loopAt Try.prog 44 0) 34 0 (mkT [(3, .s []), (9, .sv 2 n (eF A N)), (10, .i .i64 (Int.ofNat n)), (11, .i .i64 0)]) [] .ret (mkT [(2, .b false)]) [] := by
  obtain ⟨j, hj, hb, hg⟩ := alB_f h
  refine loop_q (fun i : Nat => ([(3, .s (lstA A i)), (9, .sv 2 n (eF A N)), (10, .i .i64 (Int.ofNat n)), (11, .i .i64 (Int.ofNat i))], [])) (fun i => n - i) (fun i => i ≤ j) (fun _ => Nat.le_refl _) ?_ 0 (Nat.zero_le _)
  intro i hi
  rcases Nat.lt_or_ge i j with q | q
  · exact ri_nrm (eR_li n i A N hA (by omega) (hg i q) ⟨by simp <;> omega, by simp <;> omega⟩) (i + 1) q (by show n - (i + 1) < n - i; omega) rfl (.refl _) (.refl _)
  · obtain rfl : i = j := by omega
    exact ri_out (eX_li n i A N hA hj hb) rfl rfl (.refl _) (.refl _)
theorem ii_cases (c : Int) : (decide (c < 0) = false ∧ decide (16 ≤ c) = false ∧ iiB c = true) ∨ (decide (c < 0) = true ∧ iiB c = false) ∨ (decide (c < 0) = false ∧ decide (16 ≤ c) = true ∧ iiB c = false) := by
  unfold iiB wi
  rcases Int.lt_or_le c 0 with q | q
  · exact .inr (.inl ⟨decide_eq_true q, by rw [decide_eq_false (show ¬ 0 ≤ c by omega)]; rfl⟩)
  · have e : decide (c < 0) = false := decide_eq_false (by omega)
    rcases Int.lt_or_le c 16 with r | r
    · exact .inl ⟨e, decide_eq_false (by omega), by rw [decide_eq_true (show (0 : Int) ≤ c by omega), decide_eq_true (show c ≤ 15 by omega)]; rfl⟩
    · exact .inr (.inr ⟨e, decide_eq_true r, by rw [decide_eq_true (show (0 : Int) ≤ c by omega), decide_eq_false (show ¬ c ≤ 15 by omega)]; rfl⟩)
theorem fR_li (n i : Nat) (A : Nat → List Nat) (N : Nat → Int) (hA : LenA n A) (hn : n ≤ 281474976710656) (hi : i < n) (hp : pE A N i = true) : LI Try.prog (loopAt Try.prog 48 0) 54 0 [(0, .sv 2 n (eF A N)), (3, .i .i64 (Int.ofNat i))] [] .nrm [(0, .sv 2 n (eF A N)), (3, .i .i64 (Int.ofNat i + 1))] [] := by
  have h1 : decide (Int.ofNat i < Int.ofNat n) = true := decide_eq_true (by simp; omega)
  have bi : (0 : Int) ≤ Int.ofNat i ∧ Int.ofNat i < (↑n : Int) := ⟨by simp, by simp; omega⟩
  have ri : rg (Int.ofNat i + 1) := ⟨by simp <;> omega, by simp <;> omega⟩
  have c := rname_con (A i) (hA i hi)
  unfold pE at hp
  simp only [Bool.and_eq_true, Bool.not_eq_true'] at hp
  obtain ⟨p1, p2, p3⟩ := hp
  rcases ii_cases (N i) with ⟨a, b, _⟩ | ⟨a, e⟩ | ⟨a, b, e⟩
  · cases i with
    | zero =>
      have d : decide ((0 : Int) < Int.ofNat 0) = false := by decide
      exact li_of (fR0_lq nmB n 0 A N h1 p1 a b d) (by repeat' first | exact trivial | assumption | exact rfl | exact nT (by assumption) | exact nF (by assumption) | exact nnT (by assumption) | exact nnF (by assumption) | apply And.intro | decide)
    | succ i =>
      have d : decide ((0 : Int) < Int.ofNat (i + 1)) = true := decide_eq_true (by simp <;> omega)
      have bj : (0 : Int) ≤ Int.ofNat (i + 1) - 1 ∧ Int.ofNat (i + 1) - 1 < (↑n : Int) := ⟨by simp <;> omega, by simp <;> omega⟩
      have rj : rg (Int.ofNat (i + 1) - 1) := ⟨by simp <;> omega, by simp <;> omega⟩
      have f : natsLess (A (Int.toNat (Int.ofNat (i + 1) - 1))) (A (i + 1)) = true := by
        rw [natI, ls_tri (A (i + 1)) (A i)]
        have p3 : (natsLess (A (i + 1)) (A i) || natsEq (A (i + 1)) (A i)) = false := p3
        rw [p3]; rfl
      exact li_of (fR1_lq nmB n (i + 1) A N h1 p1 a b d f) (by repeat' first | exact trivial | assumption | exact rfl | exact nT (by assumption) | exact nF (by assumption) | exact nnT (by assumption) | exact nnF (by assumption) | apply And.intro | decide)
  · rw [e] at p2; cases p2
  · rw [e] at p2; cases p2
theorem fX_li (n i : Nat) (A : Nat → List Nat) (N : Nat → Int) (hA : LenA n A) (hn : n ≤ 281474976710656) (hi : i < n) (hp : pE A N i = false) : LI Try.prog (loopAt Try.prog 48 0) 54 0 [(0, .sv 2 n (eF A N)), (3, .i .i64 (Int.ofNat i))] [] .ret [(2, .b false)] [] := by
  have h1 : decide (Int.ofNat i < Int.ofNat n) = true := decide_eq_true (by simp; omega)
  have bi : (0 : Int) ≤ Int.ofNat i ∧ Int.ofNat i < (↑n : Int) := ⟨by simp, by simp; omega⟩
  have c := rname_con (A i) (hA i hi)
  unfold pE at hp
  cases p1 : nmB (A i) with
  | false => exact li_of (fX1_lq nmB n i A N h1 p1) (by repeat' first | exact trivial | assumption | exact rfl | exact nT (by assumption) | exact nF (by assumption) | exact nnT (by assumption) | exact nnF (by assumption) | apply And.intro | decide)
  | true =>
    rw [p1, Bool.true_and] at hp
    rcases ii_cases (N i) with ⟨a, b, e⟩ | ⟨a, e⟩ | ⟨a, b, e⟩
    · rw [e, Bool.true_and, Bool.not_eq_false'] at hp
      cases i with
      | zero => rw [show lstA A 0 = [] from rfl, le_nil p1] at hp; cases hp
      | succ i =>
        have d : decide ((0 : Int) < Int.ofNat (i + 1)) = true := decide_eq_true (by simp <;> omega)
        have bj : (0 : Int) ≤ Int.ofNat (i + 1) - 1 ∧ Int.ofNat (i + 1) - 1 < (↑n : Int) := ⟨by simp <;> omega, by simp <;> omega⟩
        have rj : rg (Int.ofNat (i + 1) - 1) := ⟨by simp <;> omega, by simp <;> omega⟩
        have f : natsLess (A (Int.toNat (Int.ofNat (i + 1) - 1))) (A (i + 1)) = false := by
          rw [natI, ls_tri (A (i + 1)) (A i)]
          have p3 : (natsLess (A (i + 1)) (A i) || natsEq (A (i + 1)) (A i)) = true := hp
          rw [p3]; rfl
        exact li_of (fX4_lq nmB n (i + 1) A N h1 p1 a b d f) (by repeat' first | exact trivial | assumption | exact rfl | exact nT (by assumption) | exact nF (by assumption) | exact nnT (by assumption) | exact nnF (by assumption) | apply And.intro | decide)
    · exact li_of (fX2_lq nmB n i A N h1 p1 a) (by repeat' first | exact trivial | assumption | exact rfl | exact nT (by assumption) | exact nF (by assumption) | exact nnT (by assumption) | exact nnF (by assumption) | apply And.intro | decide)
    · exact li_of (fX3_lq nmB n i A N h1 p1 a b) (by repeat' first | exact trivial | assumption | exact rfl | exact nT (by assumption) | exact nF (by assumption) | exact nnT (by assumption) | exact nnF (by assumption) | apply And.intro | decide)
theorem f_lp (n : Nat) (A : Nat → List Nat) (N : Nat → Int) (hA : LenA n A) (hn : n ≤ 281474976710656) (h : alB (pE A N) n = true) : LDoes Try.prog (loopAt Try.prog 48 0) 54 0 (mkT [(0, .sv 2 n (eF A N)), (3, .i .i64 0)]) [] (.exit 0) (mkT [(0, .sv 2 n (eF A N))]) [] := by
  refine loop_q (fun i : Nat => ([(0, .sv 2 n (eF A N)), (3, .i .i64 (Int.ofNat i))], [])) (fun i => n - i) (fun i => i ≤ n) (fun _ => Nat.le_refl _) ?_ 0 (Nat.zero_le _)
  intro i hi
  rcases Nat.lt_or_ge i n with hlt | q
  · exact ri_nrm (fR_li n i A N hA hn hlt (alB_t h i hlt)) (i + 1) hlt (by show n - (i + 1) < n - i; omega) rfl (.refl _) (.refl _)
  · obtain rfl : i = n := Nat.le_antisymm hi q
    have h1 : decide (Int.ofNat i < Int.ofNat i) = false := decide_eq_false (by simp)
    exact rd_out (fE_lq i i A N h1) (by repeat' first | exact trivial | assumption | exact rfl | exact nT (by assumption) | exact nF (by assumption) | exact nnT (by assumption) | exact nnF (by assumption) | apply And.intro | decide) rfl rfl (.refl _) (.refl _)
theorem fX_lp (n : Nat) (A : Nat → List Nat) (N : Nat → Int) (hA : LenA n A) (hn : n ≤ 281474976710656) (h : alB (pE A N) n = false) : LDoes Try.prog (loopAt Try.prog 48 0) 54 0 (mkT [(0, .sv 2 n (eF A N)), (3, .i .i64 0)]) [] .ret (mkT [(2, .b false)]) [] := by
  obtain ⟨j, hj, hb, hg⟩ := alB_f h
  refine loop_q (fun i : Nat => ([(0, .sv 2 n (eF A N)), (3, .i .i64 (Int.ofNat i))], [])) (fun i => n - i) (fun i => i ≤ j) (fun _ => Nat.le_refl _) ?_ 0 (Nat.zero_le _)
  intro i hi
  rcases Nat.lt_or_ge i j with q | q
  · exact ri_nrm (fR_li n i A N hA hn (by omega) (hg i q)) (i + 1) q (by show n - (i + 1) < n - i; omega) rfl (.refl _) (.refl _)
  · obtain rfl : i = j := by omega
    exact ri_out (fX_li n i A N hA hn hj hb) rfl rfl (.refl _) (.refl _)
theorem em00_vq (n : Nat) (A : Nat → List Nat) (N : Nat → Int) (h8 : decide (8 < Int.ofNat n) = true) : VD Try.prog 44 [.sv 2 n (eF A N)] [] (Orc.t Orc.z) (.b false) [] [] 0
  (fun Lf => decide (8 < Int.ofNat n) = true ∧ Lf) := by unfold VD VQ; kernel_rfl
theorem em0_con (n : Nat) (A : Nat → List Nat) (N : Nat → Int) (h8 : decide ((8 : Int) < Int.ofNat n) = true)  : Con Try.prog 44 [.sv 2 n (eF A N)] [] (.b false) [] := by
  exact con_d (em00_vq (n := n) (A := A) (N := N) (h8 := h8)) (by repeat' first | exact trivial | assumption | exact rfl | exact nT (by assumption) | exact nF (by assumption) | apply And.intro | decide)
theorem em10_vq (n : Nat) (A : Nat → List Nat) (N : Nat → Int) (h8 : decide (8 < Int.ofNat n) = false) : VD Try.prog 44 [.sv 2 n (eF A N)] [] (Orc.f (Orc.lop [] [3, 9, 10, 11]
  0 (XO.exit 0) [] [] Orc.z)) (.b true) [] [] 0 (fun Lf => decide (8 < Int.ofNat n) = false ∧ LDoes Try.prog (loopAt Try.prog 44 0) 34 0 (mkT [(3, .s []), (9, .sv 2 n (eF A
  N)), (10, .i .i64 (Int.ofNat n)), (11, .i .i64 0)]) [] (XO.exit 0) (mkT []) [] ∧ Lf) := by unfold VD VQ; kernel_rfl
theorem em1_con (n : Nat) (A : Nat → List Nat) (N : Nat → Int) (h8 : decide ((8 : Int) < Int.ofNat n) = false) (hA : LenA n A) (ha : alB (pE A N) n = true) : Con Try.prog 44 [.sv 2 n (eF A N)] [] (.b true) [] := by
  exact con_d (em10_vq (n := n) (A := A) (N := N) (h8 := h8)) (by repeat' first | exact trivial | assumption | exact rfl | exact nT (by assumption) | exact nF (by assumption) | exact e_lp n A N hA (n8 (by assumption)) ha | apply And.intro | decide)
theorem em20_vq (n : Nat) (A : Nat → List Nat) (N : Nat → Int) (h8 : decide (8 < Int.ofNat n) = false) : VD Try.prog 44 [.sv 2 n (eF A N)] [] (Orc.f (Orc.lop [] [3, 9, 10, 11]
  0 XO.ret [(2, .b false)] [] Orc.z)) (.b false) [] [] 0 (fun Lf => decide (8 < Int.ofNat n) = false ∧ LDoes Try.prog (loopAt Try.prog 44 0) 34 0 (mkT [(3, .s []), (9, .sv 2 n
  (eF A N)), (10, .i .i64 (Int.ofNat n)), (11, .i .i64 0)]) [] XO.ret (mkT [(2, .b false)]) [] ∧ Lf) := by unfold VD VQ; kernel_rfl
theorem em2_con (n : Nat) (A : Nat → List Nat) (N : Nat → Int) (h8 : decide ((8 : Int) < Int.ofNat n) = false) (hA : LenA n A) (ha : alB (pE A N) n = false) : Con Try.prog 44 [.sv 2 n (eF A N)] [] (.b false) [] := by
  exact con_d (em20_vq (n := n) (A := A) (N := N) (h8 := h8)) (by repeat' first | exact trivial | assumption | exact rfl | exact nT (by assumption) | exact nF (by assumption) | exact eX_lp n A N hA (n8 (by assumption)) ha | apply And.intro | decide)
theorem fm10_vq (n : Nat) (A : Nat → List Nat) (N : Nat → Int) : VD Try.prog 48 [.sv 2 n (eF A N)] [] (Orc.lop [] [0, 3] 0 (XO.exit 0) [(0, .sv 2 n (eF A N))] [] Orc.z) (.b
  (decide (Int.ofNat n ≤ 8))) [] [] 0 (fun Lf => LDoes Try.prog (loopAt Try.prog 48 0) 54 0 (mkT [(0, .sv 2 n (eF A N)), (3, .i .i64 0)]) [] (XO.exit 0) (mkT [(0, .sv 2 n (eF A
  N))]) [] ∧ Lf) := by unfold VD VQ; kernel_rfl
theorem fm1_con (n : Nat) (A : Nat → List Nat) (N : Nat → Int)  (hA : LenA n A) (hn : n ≤ 281474976710656) (ha : alB (pE A N) n = true) : Con Try.prog 48 [.sv 2 n (eF A N)] [] (.b (decide (Int.ofNat n ≤ 8))) [] := by
  exact con_d (fm10_vq (n := n) (A := A) (N := N)) (by repeat' first | exact trivial | assumption | exact rfl | exact nT (by assumption) | exact nF (by assumption) | exact f_lp n A N hA hn ha | apply And.intro | decide)
theorem fm20_vq (n : Nat) (A : Nat → List Nat) (N : Nat → Int) : VD Try.prog 48 [.sv 2 n (eF A N)] [] (Orc.lop [] [0, 3] 0 XO.ret [(2, .b false)] [] Orc.z) (.b false) [] [] 0
  (fun Lf => LDoes Try.prog (loopAt Try.prog 48 0) 54 0 (mkT [(0, .sv 2 n (eF A N)), (3, .i .i64 0)]) [] XO.ret (mkT [(2, .b false)]) [] ∧ Lf) := by unfold VD VQ; kernel_rfl
theorem fm2_con (n : Nat) (A : Nat → List Nat) (N : Nat → Int)  (hA : LenA n A) (hn : n ≤ 281474976710656) (ha : alB (pE A N) n = false) : Con Try.prog 48 [.sv 2 n (eF A N)] [] (.b false) [] := by
  exact con_d (fm20_vq (n := n) (A := A) (N := N)) (by repeat' first | exact trivial | assumption | exact rfl | exact nT (by assumption) | exact nF (by assumption) | exact fX_lp n A N hA hn ha | apply And.intro | decide)
theorem em_con (n : Nat) (A : Nat → List Nat) (N : Nat → Int) (hA : LenA n A) : Con Try.prog 44 [.sv 2 n (eF A N)] [] (.b (enB n A N)) [] := by
  unfold enB
  cases h8 : decide ((8 : Int) < Int.ofNat n) with
  | true =>
    have := of_decide_eq_true h8
    rw [decide_eq_false (show ¬ Int.ofNat n ≤ 8 by omega), Bool.false_and]
    exact em0_con n A N h8
  | false =>
    have := of_decide_eq_false h8
    rw [decide_eq_true (show Int.ofNat n ≤ 8 by omega), Bool.true_and]
    cases ha : alB (pE A N) n with
    | true => exact em1_con n A N h8 hA ha
    | false => exact em2_con n A N h8 hA ha
theorem rem_con (n : Nat) (A : Nat → List Nat) (N : Nat → Int) (hA : LenA n A) (hn : n ≤ 281474976710656) : Con Try.prog 48 [.sv 2 n (eF A N)] [] (.b (enB n A N)) [] := by
  unfold enB
  cases ha : alB (pE A N) n with
  | true => rw [Bool.and_true]; exact fm1_con n A N hA hn ha
  | false => rw [Bool.and_false]; exact fm2_con n A N hA hn ha
theorem sR_lq (n i m : Nat) (A B : Nat → List Nat) (N M : Nat → Int) (h0 : decide (Int.ofNat i < Int.ofNat n) = true) (h1 : (natsEq (A i) (B i) && (decide (N i = M i) && true))
  = true) : LD Try.prog (loopAt Try.prog 25 0) 26 0 [(0, .sv 2 n (eF A N)), (1, .sv 2 m (eF B M)), (5, .i .i64 (Int.ofNat i))] [] (Orc.t (Orc.f Orc.z)) .nrm [] [(0, .sv 2 n (eF
  A N)), (1, .sv 2 m (eF B M)), (5, .i .i64 (Int.ofNat i + 1))] [] 0 (fun Lf => decide (Int.ofNat i < Int.ofNat n) = true ∧ (0 ≤ Int.ofNat i ∧ Int.ofNat i < ↑n) ∧ True ∧ (0 ≤
  Int.ofNat i ∧ Int.ofNat i < ↑m) ∧ True ∧ True ∧ (!(natsEq (A i) (B i) && (decide (N i = M i) && true))) = false ∧ rg (Int.ofNat i + 1) ∧ Lf) := by unfold LD LQ; kernel_rfl
theorem sX_lq (n i m : Nat) (A B : Nat → List Nat) (N M : Nat → Int) (h0 : decide (Int.ofNat i < Int.ofNat n) = true) (h1 : (natsEq (A i) (B i) && (decide (N i = M i) && true))
  = false) : LD Try.prog (loopAt Try.prog 25 0) 26 0 [(0, .sv 2 n (eF A N)), (1, .sv 2 m (eF B M)), (5, .i .i64 (Int.ofNat i))] [] (Orc.t (Orc.t Orc.z)) .ret [] [(4, .b false)]
  [] 0 (fun Lf => decide (Int.ofNat i < Int.ofNat n) = true ∧ (0 ≤ Int.ofNat i ∧ Int.ofNat i < ↑n) ∧ True ∧ (0 ≤ Int.ofNat i ∧ Int.ofNat i < ↑m) ∧ True ∧ True ∧ (!(natsEq (A i)
  (B i) && (decide (N i = M i) && true))) = true ∧ Lf) := by unfold LD LQ; kernel_rfl
theorem sE_lq (n i m : Nat) (A B : Nat → List Nat) (N M : Nat → Int) (h0 : decide (Int.ofNat i < Int.ofNat n) = false) : LD Try.prog (loopAt Try.prog 25 0) 26 0 [(0, .sv 2 n
  (eF A N)), (1, .sv 2 m (eF B M)), (5, .i .i64 (Int.ofNat i))] [] (Orc.f Orc.z) (.exit 0) [] [] [] 0 (fun Lf => decide (Int.ofNat i < Int.ofNat n) = false ∧ Lf)
  := by unfold LD LQ; kernel_rfl
theorem s_lp (n m : Nat) (A B : Nat → List Nat) (N M : Nat → Int) (hm : n ≤ m) (hn : n ≤ 281474976710656) (h : alB (sqB A N B M) n = true) : LDoes Try.prog (loopAt Try.prog 25 0) 26 0 (mkT [(0, .sv 2 n (eF A N)), (1, .sv 2 m (eF B M)), (5, .i .i64 0)]) [] (.exit 0) (mkT []) [] := by
  refine loop_q (fun i : Nat => ([(0, .sv 2 n (eF A N)), (1, .sv 2 m (eF B M)), (5, .i .i64 (Int.ofNat i))], [])) (fun i => n - i) (fun i => i ≤ n) (fun _ => Nat.le_refl _) ?_ 0 (Nat.zero_le _)
  intro i hi
  rcases Nat.lt_or_ge i n with hlt | q
  · have h1 : decide (Int.ofNat i < Int.ofNat n) = true := decide_eq_true (by simp; omega)
    have bi : (0 : Int) ≤ Int.ofNat i ∧ Int.ofNat i < (↑n : Int) := ⟨by simp, by simp; omega⟩
    have bj : (0 : Int) ≤ Int.ofNat i ∧ Int.ofNat i < (↑m : Int) := ⟨by simp, by simp; omega⟩
    have ri : rg (Int.ofNat i + 1) := ⟨by simp <;> omega, by simp <;> omega⟩
    have e : (natsEq (A i) (B i) && (decide (N i = M i) && true)) = true := alB_t h i hlt
    exact rd_nrm (sR_lq n i m A B N M h1 e) (by repeat' first | exact trivial | assumption | exact rfl | exact nT (by assumption) | exact nF (by assumption) | exact nnT (by assumption) | exact nnF (by assumption) | apply And.intro | decide) (i + 1) hlt (by show n - (i + 1) < n - i; omega) rfl (.refl _) (.refl _)
  · obtain rfl : i = n := Nat.le_antisymm hi q
    have h1 : decide (Int.ofNat i < Int.ofNat i) = false := decide_eq_false (by simp)
    exact rd_out (sE_lq i i m A B N M h1) (by repeat' first | exact trivial | assumption | exact rfl | exact nT (by assumption) | exact nF (by assumption) | exact nnT (by assumption) | exact nnF (by assumption) | apply And.intro | decide) rfl rfl (.refl _) (.refl _)
theorem sX_lp (n m : Nat) (A B : Nat → List Nat) (N M : Nat → Int) (hm : n ≤ m) (hn : n ≤ 281474976710656) (h : alB (sqB A N B M) n = false) : LDoes Try.prog (loopAt Try.prog 25 0) 26 0 (mkT [(0, .sv 2 n (eF A N)), (1, .sv 2 m (eF B M)), (5, .i .i64 0)]) [] .ret (mkT [(4, .b false)]) [] := by
  obtain ⟨j, hj, hb, hg⟩ := alB_f h
  refine loop_q (fun i : Nat => ([(0, .sv 2 n (eF A N)), (1, .sv 2 m (eF B M)), (5, .i .i64 (Int.ofNat i))], [])) (fun i => n - i) (fun i => i ≤ j) (fun _ => Nat.le_refl _) ?_ 0 (Nat.zero_le _)
  intro i hi
  have h1 : decide (Int.ofNat i < Int.ofNat n) = true := decide_eq_true (by simp; omega)
  have bi : (0 : Int) ≤ Int.ofNat i ∧ Int.ofNat i < (↑n : Int) := ⟨by simp, by simp; omega⟩
  have bj : (0 : Int) ≤ Int.ofNat i ∧ Int.ofNat i < (↑m : Int) := ⟨by simp, by simp; omega⟩
  have ri : rg (Int.ofNat i + 1) := ⟨by simp <;> omega, by simp <;> omega⟩
  rcases Nat.lt_or_ge i j with q | q
  · have e : (natsEq (A i) (B i) && (decide (N i = M i) && true)) = true := hg i q
    exact rd_nrm (sR_lq n i m A B N M h1 e) (by repeat' first | exact trivial | assumption | exact rfl | exact nT (by assumption) | exact nF (by assumption) | exact nnT (by assumption) | exact nnF (by assumption) | apply And.intro | decide) (i + 1) q (by show n - (i + 1) < n - i; omega) rfl (.refl _) (.refl _)
  · obtain rfl : i = j := by omega
    have e : (natsEq (A i) (B i) && (decide (N i = M i) && true)) = false := hb
    exact rd_out (sX_lq n i m A B N M h1 e) (by repeat' first | exact trivial | assumption | exact rfl | exact nT (by assumption) | exact nF (by assumption) | exact nnT (by assumption) | exact nnF (by assumption) | apply And.intro | decide) rfl rfl (.refl _) (.refl _)
theorem sa00_vq (n m : Nat) (A B : Nat → List Nat) (N M : Nat → Int) (h8 : decide (Int.ofNat n = Int.ofNat m) = false) : VD Try.prog 25 [.sv 2 n (eF A N), .sv 2 m (eF B M)] []
  (Orc.t Orc.z) (.b false) [] [] 0 (fun Lf => (!decide (Int.ofNat n = Int.ofNat m)) = true ∧ Lf) := by unfold VD VQ; kernel_rfl
theorem sa0_con (n m : Nat) (A B : Nat → List Nat) (N M : Nat → Int) (h8 : decide (Int.ofNat n = Int.ofNat m) = false)  : Con Try.prog 25 [.sv 2 n (eF A N), .sv 2 m (eF B M)] [] (.b false) [] := by
  exact con_d (sa00_vq (n := n) (m := m) (A := A) (B := B) (N := N) (M := M) (h8 := h8)) (by repeat' first | exact trivial | assumption | exact rfl | exact nT (by assumption) | exact nF (by assumption) | apply And.intro | decide)
theorem sa10_vq (n m : Nat) (A B : Nat → List Nat) (N M : Nat → Int) (h8 : decide (Int.ofNat n = Int.ofNat m) = true) : VD Try.prog 25 [.sv 2 n (eF A N), .sv 2 m (eF B M)] []
  (Orc.f (Orc.lop [] [0, 1, 5] 0 (XO.exit 0) [] [] Orc.z)) (.b true) [] [] 0 (fun Lf => (!decide (Int.ofNat n = Int.ofNat m)) = false ∧ LDoes Try.prog (loopAt Try.prog 25 0) 26
  0 (mkT [(0, .sv 2 n (eF A N)), (1, .sv 2 m (eF B M)), (5, .i .i64 0)]) [] (XO.exit 0) (mkT []) [] ∧ Lf) := by unfold VD VQ; kernel_rfl
theorem sa1_con (n m : Nat) (A B : Nat → List Nat) (N M : Nat → Int) (h8 : decide (Int.ofNat n = Int.ofNat m) = true) (hm : n ≤ m) (hn : n ≤ 281474976710656) (ha : alB (sqB A N B M) n = true) : Con Try.prog 25 [.sv 2 n (eF A N), .sv 2 m (eF B M)] [] (.b true) [] := by
  exact con_d (sa10_vq (n := n) (m := m) (A := A) (B := B) (N := N) (M := M) (h8 := h8)) (by repeat' first | exact trivial | assumption | exact rfl | exact nT (by assumption) | exact nF (by assumption) | exact s_lp n m A B N M hm hn ha | apply And.intro | decide)
theorem sa20_vq (n m : Nat) (A B : Nat → List Nat) (N M : Nat → Int) (h8 : decide (Int.ofNat n = Int.ofNat m) = true) : VD Try.prog 25 [.sv 2 n (eF A N), .sv 2 m (eF B M)] []
  (Orc.f (Orc.lop [] [0, 1, 5] 0 XO.ret [(4, .b false)] [] Orc.z)) (.b false) [] [] 0 (fun Lf => (!decide (Int.ofNat n = Int.ofNat m)) = false ∧ LDoes Try.prog (loopAt Try.prog
  25 0) 26 0 (mkT [(0, .sv 2 n (eF A N)), (1, .sv 2 m (eF B M)), (5, .i .i64 0)]) [] XO.ret (mkT [(4, .b false)]) [] ∧ Lf) := by unfold VD VQ; kernel_rfl
theorem sa2_con (n m : Nat) (A B : Nat → List Nat) (N M : Nat → Int) (h8 : decide (Int.ofNat n = Int.ofNat m) = true) (hm : n ≤ m) (hn : n ≤ 281474976710656) (ha : alB (sqB A N B M) n = false) : Con Try.prog 25 [.sv 2 n (eF A N), .sv 2 m (eF B M)] [] (.b false) [] := by
  exact con_d (sa20_vq (n := n) (m := m) (A := A) (B := B) (N := N) (M := M) (h8 := h8)) (by repeat' first | exact trivial | assumption | exact rfl | exact nT (by assumption) | exact nF (by assumption) | exact sX_lp n m A B N M hm hn ha | apply And.intro | decide)
theorem same_con (n m : Nat) (A B : Nat → List Nat) (N M : Nat → Int) (hn : n ≤ 281474976710656) : Con Try.prog 25 [.sv 2 n (eF A N), .sv 2 m (eF B M)] [] (.b (smB n A N m B M)) [] := by
  unfold smB
  cases h8 : decide (Int.ofNat n = Int.ofNat m) with
  | false => exact sa0_con n m A B N M h8
  | true =>
    have hm : n ≤ m := by have := of_decide_eq_true h8; simp at this; omega
    cases ha : alB (sqB A N B M) n with
    | true => exact sa1_con n m A B N M h8 hm hn ha
    | false => exact sa2_con n m A B N M h8 hm hn ha
theorem wt00_vq (L0 : Nat) (B0 : Nat → Nat) (KK : Nat) (HH : Nat → Nat) (t : List Nat) : VD Try.prog 45 [.p 0 0, .s t] [some w0O] (Orc.c (Orc.cal [0] (.tup []) [.set (wO L0),
  .set (shO 2 L0), .set (AObj.rows 5 1 L0 (byF B0))] (Orc.inl (Orc.lop [0, 1, 2] [0, 1, 6, 7] 2 (XO.exit 0) [] [some (wO KK), some (shO 2 KK), some (AObj.rows 5 1 KK (byF HH))]
  Orc.z)))) (.tup []) [.set (wO KK), .set (shO 2 KK), .set (.rows 5 1 KK (byF HH))] [1, 3] 4 (fun Lf => True ∧ Con Try.prog 46 [.p 0 0, .i .i64 (Int.ofNat (List.length t))]
  [some w0O] (.tup []) [.set (wO L0), .set (shO 2 L0), .set (AObj.rows 5 1 L0 (byF B0))] ∧ LDoes Try.prog (loopAt Try.prog 79 0) 16 2 (mkT [(0, .s t), (1, AV.fn (Fn.func 80)
  [.p 0 0] []), (6, .i .i64 (Int.ofNat (List.length t))), (7, .i .i64 0)]) [some (wO L0), some (shO 2 L0), some (AObj.rows 5 1 L0 (byF B0))] (XO.exit 0) (mkT []) [some (wO KK),
  some (shO 2 KK), some (AObj.rows 5 1 KK (byF HH))] ∧ Lf) := by unfold VD VQ; kernel_rfl
theorem wt0_con (t : List Nat)  (L0 : Nat) (B0 : Nat → Nat) (KK : Nat) (HH : Nat → Nat) (hw : Con Try.prog 46 [.p 0 0, .i .i64 (Int.ofNat t.length)] [some w0O] (.tup []) [.set (wO L0), .set (shO 2 L0), .set (.rows 5 1 L0 (byF B0))]) (ht : LDoes Try.prog (loopAt Try.prog 79 0) 16 2 (mkT [(0, .s t), (1, .fn (.func 80) [.p 0 0] []), (6, .i .i64 (Int.ofNat t.length)), (7, .i .i64 0)]) [some (wO L0), some (shO 2 L0), some (.rows 5 1 L0 (byF B0))] (.exit 0) (mkT []) [some (wO KK), some (shO 2 KK), some (.rows 5 1 KK (byF HH))]) : Con Try.prog 45 [.p 0 0, .s t] [some w0O] (.tup []) [.set (wO KK), .set (shO 2 KK), .set (.rows 5 1 KK (byF HH))] := by
  exact con_d (wt00_vq (L0 := L0) (B0 := B0) (KK := KK) (HH := HH) (t := t)) (by repeat' first | exact trivial | assumption | exact rfl | exact nT (by assumption) | exact nF (by assumption) | exact hw | exact ht | apply And.intro | decide)
theorem nuL0_vq (L0 : Nat) (KK : Nat) (HH : Nat → Nat) (n : Nat) (hn : decide (Int.ofNat n < 0) = false) : VD Try.prog 39 [.i .i64 (Int.ofNat n)] [] (Orc.c (Orc.lop [] [0, 3] 0
  (XO.exit 0) [(0, .i .i64 (Int.ofNat L0)), (3, .lr 0 1 0 KK false)] [some (AObj.rows 5 1 KK (byF HH))] Orc.z)) (.lr 0 1 0 (addN KK 1) false) [.set (.rows 5 1 (addN KK 1) (appZ
  KK (byF HH) (listF 1 [.i .u8 (wrapA .u8 (Int.ofNat L0))] 1)))] [2] 3 (fun Lf => LDoes Try.prog (loopAt Try.prog 39 0) 22 0 (mkT [(0, .i .i64 (Int.ofNat n)), (3, .l0)]) []
  (XO.exit 0) (mkT [(0, .i .i64 (Int.ofNat L0)), (3, .lr 0 1 0 KK false)]) [some (AObj.rows 5 1 KK (byF HH))] ∧ True ∧ (0 + KK ≤ KK ∧ True ∧ KK + 1 ≤ 140737488355328 ∧ (3 * (KK
  + 1) + 1536) * 1 ≤ 562949953421312) ∧ Lf) := by unfold VD VQ; kernel_rfl
theorem nuL_con (n : Nat) (hn : decide (Int.ofNat n < 0) = false) (L0 KK : Nat) (HH : Nat → Nat) (hz : 0 + KK ≤ KK) (hz2 : KK + 1 ≤ 140737488355328) (hz3 : (3 * (KK + 1) + 1536) * 1 ≤ 562949953421312) (hl : LDoes Try.prog (loopAt Try.prog 39 0) 22 0 (mkT [(0, .i .i64 (Int.ofNat n)), (3, .l0)]) [] (.exit 0) (mkT [(0, .i .i64 (Int.ofNat L0)), (3, .lr 0 1 0 KK false)]) [some (.rows 5 1 KK (byF HH))]) : Con Try.prog 39 [.i .i64 (Int.ofNat n)] [] (.lr 0 1 0 (addN KK 1) false) [.set (.rows 5 1 (addN KK 1) (appZ KK (byF HH) (listF 1 [.i .u8 (wrapA .u8 (Int.ofNat L0))] 1)))] := by
  exact con_d (nuL0_vq (L0 := L0) (KK := KK) (HH := HH) (n := n) (hn := hn)) (by repeat' first | exact trivial | assumption | exact rfl | exact nT (by assumption) | exact nF (by assumption) | exact hl | exact hz | exact hz2 | exact hz3 | apply And.intro | decide)
theorem xR_lq (t : List Nat) (i k : Nat) (g : Nat → Nat) (h0 : decide (Int.ofNat i < Int.ofNat t.length) = true) : LD Try.prog (loopAt Try.prog 49 0) 21 0 [(0, .s t), (3, .lr 0
  1 0 k false), (4, .i .i64 (Int.ofNat i))] [some (.rows 5 1 k (byF g))] (Orc.t Orc.z) .nrm [2] [(0, .s t), (3, .lr 0 1 0 (addN k 1) false), (4, .i .i64 (Int.ofNat i + 1))]
  [some (.rows 5 1 (addN k 1) (appZ k (byF g) (listF 1 [.i .u8 (Int.ofNat (List.getD t i 0))] 1)))] 3 (fun Lf => decide (Int.ofNat i < Int.ofNat (List.length t)) = true ∧ (0 ≤
  Int.ofNat i ∧ Int.ofNat i < ↑(List.length t)) ∧ (0 + k ≤ k ∧ True ∧ k + 1 ≤ 140737488355328 ∧ (3 * (k + 1) + 1536) * 1 ≤ 562949953421312) ∧ rg (Int.ofNat i + 1) ∧ Lf)
  := by unfold LD LQ; kernel_rfl
theorem xE_lq (t : List Nat) (i k : Nat) (g : Nat → Nat) (h0 : decide (Int.ofNat i < Int.ofNat t.length) = false) : LD Try.prog (loopAt Try.prog 49 0) 21 0 [(0, .s t), (3, .lr
  0 1 0 k false), (4, .i .i64 (Int.ofNat i))] [some (.rows 5 1 k (byF g))] (Orc.f Orc.z) (.exit 0) [0] [(3, .lr 0 1 0 k false)] [some (.rows 5 1 k (byF g))] 1 (fun Lf => decide
  (Int.ofNat i < Int.ofNat (List.length t)) = false ∧ Lf) := by unfold LD LQ; kernel_rfl
theorem rtx0_fq (L0 : Nat) (B0 : Nat → Nat) (KK : Nat) (HH : Nat → Nat) (t : List Nat) : VF Try.prog 49 [.s t] [] (Orc.cal [] (.lr 0 1 0 L0 false) [.set (AObj.rows 5 1 L0 (byF
  B0))] (Orc.lop [0] [0, 3, 4] 0 (XO.exit 0) [(3, .lr 0 1 0 KK false)] [some (AObj.rows 5 1 KK (byF HH))] Orc.z)) (.sv 1 KK (shiftF 0 (byF HH))) [] [1] [] ((1 = 1 ∧ 0 + KK ≤
  KK) ∧ True) 2 (fun Lf => Con Try.prog 39 [.i .i64 (Int.ofNat (List.length t))] [] (.lr 0 1 0 L0 false) [.set (AObj.rows 5 1 L0 (byF B0))] ∧ LDoes Try.prog (loopAt Try.prog 49
  0) 21 0 (mkT [(0, .s t), (3, .lr 0 1 0 L0 false), (4, .i .i64 0)]) [some (AObj.rows 5 1 L0 (byF B0))] (XO.exit 0) (mkT [(3, .lr 0 1 0 KK false)]) [some (AObj.rows 5 1 KK (byF
  HH))] ∧ Lf) := by unfold VF; kernel_rfl
theorem rtx_con (t : List Nat)  (L0 : Nat) (B0 : Nat → Nat) (KK : Nat) (HH : Nat → Nat) (hw : Con Try.prog 39 [.i .i64 (Int.ofNat t.length)] [] (.lr 0 1 0 L0 false) [.set (.rows 5 1 L0 (byF B0))]) (hl : LDoes Try.prog (loopAt Try.prog 49 0) 21 0 (mkT [(0, .s t), (3, .lr 0 1 0 L0 false), (4, .i .i64 0)]) [some (.rows 5 1 L0 (byF B0))] (.exit 0) (mkT [(3, .lr 0 1 0 KK false)]) [some (.rows 5 1 KK (byF HH))]) : Con Try.prog 49 [.s t] [] (.sv 1 KK (shiftF 0 (byF HH))) [] := by
  exact con_f (rtx0_fq (L0 := L0) (B0 := B0) (KK := KK) (HH := HH) (t := t)) ⟨⟨rfl, by simp⟩, trivial⟩ (by repeat' first | exact trivial | assumption | exact rfl | exact nT (by assumption) | exact nF (by assumption) | exact hw | exact hl | apply And.intro | decide)
theorem zA_lq (L0 : Nat) (B0 : Nat → Nat) (KK : Nat) (HH : Nat → Nat) (n : Nat) (A : Nat → List Nat) (N : Nat → Int) (h0 : decide (0 < Int.ofNat n) = true) : LD Try.prog
  (loopAt Try.prog 17 0) 25 1 [(4, .p 0 0), (10, .sv 2 n (eF A N)), (11, .i .i64 (Int.ofNat n)), (12, .i .i64 0)] [some w0O] (Orc.t (Orc.cal [0] (.tup []) [.set (wO L0), .set
  (shO 2 L0), .set (AObj.rows 5 1 L0 (byF B0))] (Orc.cal [0, 2, 3] (.tup []) [.set (wO KK), .set (shO 3 KK), .gone, .set (AObj.rows 5 1 KK (byF HH))] Orc.z))) .nrm [0, 2, 4]
  [(4, .p 0 0), (10, .sv 2 n (eF A N)), (11, .i .i64 (Int.ofNat n)), (12, .i .i64 1)] [some (wO KK), some (shO 2 KK), some (.rows 5 1 KK (byF HH))] 5 (fun Lf => decide (0 <
  Int.ofNat n) = true ∧ ((0 : Int) ≤ (0 : Int) ∧ (0 : Int) < ↑n) ∧ True ∧ True ∧ Con Try.prog 45 [.p 0 0, .s (A 0)] [some w0O] (.tup []) [.set (wO L0), .set (shO 2 L0), .set
  (AObj.rows 5 1 L0 (byF B0))] ∧ True ∧ Con Try.prog 46 [.p 0 0, .i .i64 (N 0)] [some (wO L0), some (shO 2 L0), some (AObj.rows 5 1 L0 (byF B0))] (.tup []) [.set (wO KK), .set
  (shO 3 KK), .gone, .set (AObj.rows 5 1 KK (byF HH))] ∧ rg (1) ∧ Lf) := by unfold LD LQ; kernel_rfl
theorem zR_lq (L1 : Nat) (B1 : Nat → Nat) (KK : Nat) (HH : Nat → Nat) (n i k : Nat) (A : Nat → List Nat) (N : Nat → Int) (g : Nat → Nat) (h0 : decide (Int.ofNat i < Int.ofNat
  n) = true) : LD Try.prog (loopAt Try.prog 17 0) 25 1 [(4, .p 0 0), (10, .sv 2 n (eF A N)), (11, .i .i64 (Int.ofNat n)), (12, .i .i64 (Int.ofNat i))] [some (wO k), some (shO 2
  k), some (.rows 5 1 k (byF g))] (Orc.t (Orc.cal [0, 1, 2] (.tup []) [.set (wO L1), .set (shO 3 L1), .gone, .set (AObj.rows 5 1 L1 (byF B1))] (Orc.cal [0, 1, 4] (.tup [])
  [.set (wO KK), .set (shO 3 KK), .gone, .set (AObj.rows 5 1 KK (byF HH))] Orc.z))) .nrm [0, 1, 5] [(4, .p 0 0), (10, .sv 2 n (eF A N)), (11, .i .i64 (Int.ofNat n)), (12, .i
  .i64 (Int.ofNat i + 1))] [some (wO KK), some (shO 2 KK), some (.rows 5 1 KK (byF HH))] 6 (fun Lf => decide (Int.ofNat i < Int.ofNat n) = true ∧ (0 ≤ Int.ofNat i ∧ Int.ofNat i
  < ↑n) ∧ True ∧ True ∧ Con Try.prog 45 [.p 0 0, .s (A i)] [some (wO k), some (shO 2 k), some (AObj.rows 5 1 k (byF g))] (.tup []) [.set (wO L1), .set (shO 3 L1), .gone, .set
  (AObj.rows 5 1 L1 (byF B1))] ∧ True ∧ Con Try.prog 46 [.p 0 0, .i .i64 (N i)] [some (wO L1), some (shO 2 L1), some (AObj.rows 5 1 L1 (byF B1))] (.tup []) [.set (wO KK), .set
  (shO 3 KK), .gone, .set (AObj.rows 5 1 KK (byF HH))] ∧ rg (Int.ofNat i + 1) ∧ Lf) := by unfold LD LQ; kernel_rfl
theorem zE_lq (n i k : Nat) (A : Nat → List Nat) (N : Nat → Int) (g : Nat → Nat) (h0 : decide (Int.ofNat i < Int.ofNat n) = false) : LD Try.prog (loopAt Try.prog 17 0) 25 1
  [(4, .p 0 0), (10, .sv 2 n (eF A N)), (11, .i .i64 (Int.ofNat n)), (12, .i .i64 (Int.ofNat i))] [some (wO k), some (shO 2 k), some (.rows 5 1 k (byF g))] (Orc.f Orc.z) (.exit
  0) [0, 1, 2] [(4, .p 0 0)] [some (wO k), some (shO 2 k), some (.rows 5 1 k (byF g))] 3 (fun Lf => decide (Int.ofNat i < Int.ofNat n) = false ∧ Lf)
  := by unfold LD LQ; kernel_rfl
theorem zN_lq (n : Nat) (A : Nat → List Nat) (N : Nat → Int) (h0 : decide (0 < Int.ofNat n) = false) : LD Try.prog (loopAt Try.prog 17 0) 25 1 [(4, .p 0 0), (10, .sv 2 n (eF A
  N)), (11, .i .i64 (Int.ofNat n)), (12, .i .i64 0)] [some w0O] (Orc.f Orc.z) (.exit 0) [0] [(4, .p 0 0)] [some w0O] 1 (fun Lf => decide (0 < Int.ofNat n) = false ∧ Lf)
  := by unfold LD LQ; kernel_rfl
theorem ee00_vq (eb : Nat → (Nat → List Nat) → (Nat → Int) → Bool) (n : Nat) (A : Nat → List Nat) (N : Nat → Int) (h0 : eb n A N = false) : VD Try.prog 17 [.sv 2 n (eF A N)] []
  (Orc.cal [] (.b (eb n A N)) [] (Orc.t Orc.z)) (.tup [.s [], .i .i64 2]) [] [] 0 (fun Lf => Con Try.prog 44 [.sv 2 n (eF A N)] [] (.b (eb n A N)) [] ∧ True ∧ (!eb n A N) =
  true ∧ Lf) := by unfold VD VQ; kernel_rfl
theorem ee0_con (n : Nat) (A : Nat → List Nat) (N : Nat → Int) (h0 : enB n A N = false) (hA : LenA n A) : Con Try.prog 17 [.sv 2 n (eF A N)] [] (.tup [.s [], .i .i64 2]) [] := by
  exact con_d (ee00_vq (eb := enB) (n := n) (A := A) (N := N) (h0 := h0)) (by repeat' first | exact trivial | assumption | exact rfl | exact nT (by assumption) | exact nF (by assumption) | exact em_con _ _ _ hA | apply And.intro | decide)
theorem ee10_vq (eb : Nat → (Nat → List Nat) → (Nat → Int) → Bool) (n : Nat) (A : Nat → List Nat) (N : Nat → Int) (h0 : eb n A N = true) : VD Try.prog 17 [.sv 2 n (eF A N)] []
  (Orc.cal [] (.b (eb n A N)) [] (Orc.f (Orc.lop [0] [4, 10, 11, 12] 1 (XO.exit 0) [(4, .p 0 0)] [some w0O] (Orc.inl (oc 7 Orc.z))))) (.tup [.s [], .i .i64 0]) [] [] 1 (fun Lf
  => Con Try.prog 44 [.sv 2 n (eF A N)] [] (.b (eb n A N)) [] ∧ True ∧ (!eb n A N) = false ∧ LDoes Try.prog (loopAt Try.prog 17 0) 25 1 (mkT [(4, .p 0 0), (10, .sv 2 n (eF A
  N)), (11, .i .i64 (Int.ofNat n)), (12, .i .i64 0)]) [some w0O] (XO.exit 0) (mkT [(4, .p 0 0)]) [some w0O] ∧ True ∧ True ∧ True ∧ Lf) := by unfold VD VQ; kernel_rfl
theorem ee1_con (n : Nat) (A : Nat → List Nat) (N : Nat → Int) (h0 : enB n A N = true) (hA : LenA n A) (hl : LDoes Try.prog (loopAt Try.prog 17 0) 25 1 (mkT [(4, .p 0 0), (10, .sv 2 n (eF A N)), (11, .i .i64 (Int.ofNat n)), (12, .i .i64 0)]) [some w0O] (.exit 0) (mkT [(4, .p 0 0)]) [some w0O]) : Con Try.prog 17 [.sv 2 n (eF A N)] [] (.tup [.s [], .i .i64 0]) [] := by
  exact con_d (ee10_vq (eb := enB) (n := n) (A := A) (N := N) (h0 := h0)) (by repeat' first | exact trivial | assumption | exact rfl | exact nT (by assumption) | exact nF (by assumption) | exact em_con _ _ _ hA | exact hl | apply And.intro | decide)
theorem ee20_vq (KK : Nat) (HH : Nat → Nat) (eb : Nat → (Nat → List Nat) → (Nat → Int) → Bool) (n : Nat) (A : Nat → List Nat) (N : Nat → Int) (h0 : eb n A N = true) : VD
  Try.prog 17 [.sv 2 n (eF A N)] [] (Orc.cal [] (.b (eb n A N)) [] (Orc.f (Orc.lop [0] [4, 10, 11, 12] 1 (XO.exit 0) [(4, .p 0 0)] [some (wO KK), some (shO 2 KK), some
  (AObj.rows 5 1 KK (byF HH))] (Orc.cal [0, 1, 2] (.sv 1 KK (byF HH)) [.keep, .keep, .gone] Orc.z)))) (.tup [.s (bytesF KK (byF HH)), .i .i64 0]) [] [] 3 (fun Lf => Con
  Try.prog 44 [.sv 2 n (eF A N)] [] (.b (eb n A N)) [] ∧ True ∧ (!eb n A N) = false ∧ LDoes Try.prog (loopAt Try.prog 17 0) 25 1 (mkT [(4, .p 0 0), (10, .sv 2 n (eF A N)), (11,
  .i .i64 (Int.ofNat n)), (12, .i .i64 0)]) [some w0O] (XO.exit 0) (mkT [(4, .p 0 0)]) [some (wO KK), some (shO 2 KK), some (AObj.rows 5 1 KK (byF HH))] ∧ Con Try.prog 47 [.p 0
  0] [some (wO KK), some (shO 2 KK), some (AObj.rows 5 1 KK (byF HH))] (.sv 1 KK (byF HH)) [.keep, .keep, .gone] ∧ U8s KK (byF HH) ∧ Lf) := by unfold VD VQ; kernel_rfl
theorem ee2_con (n : Nat) (A : Nat → List Nat) (N : Nat → Int) (h0 : enB n A N = true) (hA : LenA n A) (KK : Nat) (HH : Nat → Nat) (hk : KK ≤ 1073741824) (hu : U8s KK (byF HH)) (hl : LDoes Try.prog (loopAt Try.prog 17 0) 25 1 (mkT [(4, .p 0 0), (10, .sv 2 n (eF A N)), (11, .i .i64 (Int.ofNat n)), (12, .i .i64 0)]) [some w0O] (.exit 0) (mkT [(4, .p 0 0)]) [some (wO KK), some (shO 2 KK), some (.rows 5 1 KK (byF HH))]) : Con Try.prog 17 [.sv 2 n (eF A N)] [] (.tup [.s (bytesF KK (byF HH)), .i .i64 0]) [] := by
  exact con_d (ee20_vq (KK := KK) (HH := HH) (eb := enB) (n := n) (A := A) (N := N) (h0 := h0)) (by repeat' first | exact trivial | assumption | exact rfl | exact nT (by assumption) | exact nF (by assumption) | exact em_con _ _ _ hA | exact hl | exact wb_con _ _ hk | exact hu | apply And.intro | decide)
theorem yR_lq (L0 : Nat) (B0 : Nat → Nat) (L1 : Nat) (B1 : Nat → Nat) (n i k : Nat) (A : Nat → List Nat) (N : Nat → Int) (g : Nat → Nat) (h0 : decide (Int.ofNat i < Int.ofNat
  n) = true) : LD Try.prog (loopAt Try.prog 18 0) 33 0 [(0, .sv 2 n (eF A N)), (4, .lr 0 1 0 k false), (5, .i .i64 (Int.ofNat i))] [some (.rows 5 1 k (byF g))] (Orc.t (Orc.cal
  [] (.sv 1 L0 (byF B0)) [] (Orc.cal [] (.sv 1 L1 (byF B1)) [] Orc.z))) .nrm [2] [(0, .sv 2 n (eF A N)), (4, .lr 0 1 0 (addN (addN k L0) L1) false), (5, .i .i64 (Int.ofNat i +
  1))] [some (.rows 5 1 (addN (addN k L0) L1) (appZ (addN k L0) (appZ k (byF g) (byF B0)) (byF B1)))] 3 (fun Lf => decide (Int.ofNat i < Int.ofNat n) = true ∧ (0 ≤ Int.ofNat i
  ∧ Int.ofNat i < ↑n) ∧ True ∧ True ∧ Con Try.prog 49 [.s (A i)] [] (.sv 1 L0 (byF B0)) [] ∧ (0 + k ≤ k ∧ True ∧ k + L0 ≤ 140737488355328 ∧ (3 * (k + L0) + 1536) * 1 ≤
  562949953421312) ∧ (0 ≤ Int.ofNat i ∧ Int.ofNat i < ↑n) ∧ True ∧ True ∧ Con Try.prog 39 [.i .i64 (N i)] [] (.sv 1 L1 (byF B1)) [] ∧ (0 + addN k L0 ≤ addN k L0 ∧ True ∧ addN k
  L0 + L1 ≤ 140737488355328 ∧ (3 * (addN k L0 + L1) + 1536) * 1 ≤ 562949953421312) ∧ rg (Int.ofNat i + 1) ∧ Lf) := by unfold LD LQ; kernel_rfl
theorem yE_lq (n i k : Nat) (A : Nat → List Nat) (N : Nat → Int) (g : Nat → Nat) (h0 : decide (Int.ofNat i < Int.ofNat n) = false) : LD Try.prog (loopAt Try.prog 18 0) 33 0
  [(0, .sv 2 n (eF A N)), (4, .lr 0 1 0 k false), (5, .i .i64 (Int.ofNat i))] [some (.rows 5 1 k (byF g))] (Orc.f Orc.z) (.exit 0) [0] [(4, .lr 0 1 0 k false)] [some (.rows 5 1
  k (byF g))] 1 (fun Lf => decide (Int.ofNat i < Int.ofNat n) = false ∧ Lf) := by unfold LD LQ; kernel_rfl
theorem re00_vq (eb : Nat → (Nat → List Nat) → (Nat → Int) → Bool) (n : Nat) (A : Nat → List Nat) (N : Nat → Int) (h0 : eb n A N = false) : VD Try.prog 18 [.sv 2 n (eF A N)] []
  (Orc.cal [] (.b (eb n A N)) [] (Orc.t Orc.z)) (.tup [.s [], .i .i64 2]) [] [] 0 (fun Lf => Con Try.prog 48 [.sv 2 n (eF A N)] [] (.b (eb n A N)) [] ∧ True ∧ (!eb n A N) =
  true ∧ Lf) := by unfold VD VQ; kernel_rfl
theorem re0_con (n : Nat) (A : Nat → List Nat) (N : Nat → Int) (h0 : enB n A N = false) (hA : LenA n A) (hn : n ≤ 281474976710656) : Con Try.prog 18 [.sv 2 n (eF A N)] [] (.tup [.s [], .i .i64 2]) [] := by
  exact con_d (re00_vq (eb := enB) (n := n) (A := A) (N := N) (h0 := h0)) (by repeat' first | exact trivial | assumption | exact rfl | exact nT (by assumption) | exact nF (by assumption) | exact rem_con _ _ _ hA hn | apply And.intro | decide)
theorem re10_vq (KK : Nat) (HH : Nat → Nat) (eb : Nat → (Nat → List Nat) → (Nat → Int) → Bool) (n : Nat) (A : Nat → List Nat) (N : Nat → Int) (h0 : eb n A N = true) : VD
  Try.prog 18 [.sv 2 n (eF A N)] [] (Orc.cal [] (.b (eb n A N)) [] (Orc.f (Orc.lop [] [0, 4, 5] 0 (XO.exit 0) [(4, .lr 0 1 0 KK false)] [some (AObj.rows 5 1 KK (byF HH))]
  Orc.z))) (.tup [.s (bytesF KK (byF HH)), .i .i64 0]) [] [] 1 (fun Lf => Con Try.prog 48 [.sv 2 n (eF A N)] [] (.b (eb n A N)) [] ∧ True ∧ (!eb n A N) = false ∧ LDoes Try.prog
  (loopAt Try.prog 18 0) 33 0 (mkT [(0, .sv 2 n (eF A N)), (4, .l0), (5, .i .i64 0)]) [] (XO.exit 0) (mkT [(4, .lr 0 1 0 KK false)]) [some (AObj.rows 5 1 KK (byF HH))] ∧ (U8s
  KK (byF HH) ∧ 0 + KK ≤ KK) ∧ Lf) := by unfold VD VQ; kernel_rfl
theorem re1_con (n : Nat) (A : Nat → List Nat) (N : Nat → Int) (h0 : enB n A N = true) (hA : LenA n A) (hn : n ≤ 281474976710656) (KK : Nat) (HH : Nat → Nat) (hz : 0 + KK ≤ KK) (hu : U8s KK (byF HH)) (hl : LDoes Try.prog (loopAt Try.prog 18 0) 33 0 (mkT [(0, .sv 2 n (eF A N)), (4, .l0), (5, .i .i64 0)]) [] (.exit 0) (mkT [(4, .lr 0 1 0 KK false)]) [some (.rows 5 1 KK (byF HH))]) : Con Try.prog 18 [.sv 2 n (eF A N)] [] (.tup [.s (bytesF KK (byF HH)), .i .i64 0]) [] := by
  exact con_d (re10_vq (KK := KK) (HH := HH) (eb := enB) (n := n) (A := A) (N := N) (h0 := h0)) (by repeat' first | exact trivial | assumption | exact rfl | exact nT (by assumption) | exact nF (by assumption) | exact rem_con _ _ _ hA hn | exact hl | exact hu | exact hz | apply And.intro | decide)
def tN (t : List Nat) : List Nat := fN t.length ++ t
theorem tN_le {t : List Nat} (h : t.length ≤ 6) : (tN t).length ≤ 17 := by
  unfold tN
  rw [List.length_append]
  have := fN_le (n := t.length) (by omega)
  omega
theorem tN_byt {t : List Nat} (h : t.length ≤ 6) (hb : Byt t) : Byt (tN t) := (fN_byt (by omega)).app hb
theorem txG_eq (a t : List Nat) : txG (fun i => Int.ofNat (tB a i)) a.length t = fun i => Int.ofNat (tB (a ++ t) i) := by
  funext i
  rcases Nat.lt_or_ge i a.length with q | q
  · rw [txG_lo q, tB_lo q]
  · obtain ⟨m, rfl⟩ : ∃ m, i = a.length + m := ⟨i - a.length, by omega⟩
    rw [txG_hi, tB_hi q, Nat.add_sub_cancel_left]; rfl
theorem tx_list (a t : List Nat) (hk : a.length + t.length ≤ 1073741000) : LDoes Try.prog (loopAt Try.prog 79 0) 16 2 (mkT [(0, .s t), (1, .fn (.func 80) [.p 0 0] []), (6, .i .i64 (Int.ofNat t.length)), (7, .i .i64 0)]) [some (wO a.length), some (shO 2 a.length), some (.rows 5 1 a.length (byF (tB a)))] (.exit 0) (mkT []) [some (wO (a ++ t).length), some (shO 2 (a ++ t).length), some (.rows 5 1 (a ++ t).length (byF (tB (a ++ t))))] := by
  have h := tx_lp a.length (fun i => Int.ofNat (tB a i)) t hk
  rw [txG_eq] at h
  rw [List.length_append]
  exact h
theorem wtF_con (t : List Nat) (ht : t.length ≤ 1000000) : Con Try.prog 45 [.p 0 0, .s t] [some w0O] (.tup []) [.set (wO (tN t).length), .set (shO 2 (tN t).length), .set (.rows 5 1 (tN t).length (byF (tB (tN t))))] :=
  wt0_con t (fN t.length).length (tB (fN t.length)) (tN t).length (tB (tN t)) (wnF_con _ (by omega)) (tx_list (fN t.length) t (by have := fN_le (n := t.length) (by omega); omega))
theorem wtG_con (bs t : List Nat) (ht : t.length ≤ 1000000) (hk : bs.length ≤ 1000000) : Con Try.prog 45 [.p 0 0, .s t] [some (wO bs.length), some (shO 2 bs.length), some (.rows 5 1 bs.length (byF (tB bs)))] (.tup []) [.set (wO (bs ++ tN t).length), .set (shO 3 (bs ++ tN t).length), .gone, .set (.rows 5 1 (bs ++ tN t).length (byF (tB (bs ++ tN t))))] := by
  have h := wtext_con bs.length (fun i => Int.ofNat (tB bs i)) t ht hk
  have e : (bs ++ tN t).length = bs.length + wl t.length + t.length := by unfold tN; rw [List.length_append, List.length_append, fN_len]; omega
  rw [e]
  refine h.post (.refl _) ⟨.refl _, .refl _, .refl _, .rowsW fun i j hi hj => .of ?_, trivial⟩
  show CV.i .u8 (txG (wG (fun i => Int.ofNat (tB bs i)) bs.length t.length) (bs.length + wl t.length) t i) = CV.i .u8 (Int.ofNat (tB (bs ++ tN t) i))
  have hi : i < bs.length + wl t.length + t.length := hi
  rcases Nat.lt_or_ge i (bs.length + wl t.length) with q | q
  · rw [txG_lo q]
    rcases Nat.lt_or_ge i bs.length with r | r
    · rw [wG_left r, tB_lo r]
    · obtain ⟨m, rfl⟩ : ∃ m, i = bs.length + m := ⟨i - bs.length, by omega⟩
      rw [wG_right, tB_hi r, Nat.add_sub_cancel_left]
      unfold tN
      rw [tB_lo (by rw [fN_len]; omega)]
      unfold tB
      rw [fN_get (by omega)]
  · obtain ⟨m, rfl⟩ : ∃ m, i = bs.length + wl t.length + m := ⟨i - (bs.length + wl t.length), by omega⟩
    rw [txG_hi, tB_hi (by omega)]
    unfold tN
    rw [tB_hi (by rw [fN_len]; omega), fN_len, show bs.length + wl t.length + m - bs.length - wl t.length = m by omega]; rfl
def enP (A : Nat → List Nat) (N : Nat → Int) : Nat → List Nat
  | 0 => []
  | i + 1 => (enP A N i ++ tN (A i)) ++ fN (N i).toNat
def EnOk (n : Nat) (A : Nat → List Nat) (N : Nat → Int) : Prop := n ≤ 8 ∧ ∀ i, i < n → (A i).length ≤ 6 ∧ Byt (A i) ∧ rwI (N i)
theorem enP_le {n : Nat} {A : Nat → List Nat} {N : Nat → Int} (h : EnOk n A N) : ∀ i, i ≤ n → (enP A N i).length ≤ 28 * i
  | 0, _ => Nat.le_refl _
  | i + 1, hi => by
    have := enP_le h i (by omega)
    obtain ⟨a, _, c⟩ := h.2 i (by omega)
    have := tN_le a
    unfold rwI at c
    have := fN_le (n := (N i).toNat) (by omega)
    show ((enP A N i ++ tN (A i)) ++ fN (N i).toNat).length ≤ _
    rw [List.length_append, List.length_append]
    omega
theorem enP_byt {n : Nat} {A : Nat → List Nat} {N : Nat → Int} (h : EnOk n A N) : ∀ i, i ≤ n → Byt (enP A N i)
  | 0, _ => Byt.nil
  | i + 1, hi => by
    obtain ⟨a, b, c⟩ := h.2 i (by omega)
    unfold rwI at c
    exact ((enP_byt h i (by omega)).app (tN_byt a b)).app (fN_byt (by omega))
theorem wnI_con (bs : List Nat) (v : Int) (hv : rwI v) (hk : bs.length ≤ 1073741000) : Con Try.prog 46 [.p 0 0, .i .i64 v] [some (wO bs.length), some (shO 2 bs.length), some (.rows 5 1 bs.length (byF (tB bs)))] (.tup []) [.set (wO (bs ++ fN v.toNat).length), .set (shO 3 (bs ++ fN v.toNat).length), .gone, .set (.rows 5 1 (bs ++ fN v.toNat).length (byF (tB (bs ++ fN v.toNat))))] := by
  have := wnG_con bs v.toNat (by unfold rwI at hv; omega) hk
  rwa [nat_of hv] at this
noncomputable def zI (n : Nat) (A : Nat → List Nat) (N : Nat → Int) : Nat → List (Nat × AV) × List (Option AObj)
  | 0 => ([(4, .p 0 0), (10, .sv 2 n (eF A N)), (11, .i .i64 (Int.ofNat n)), (12, .i .i64 0)], [some w0O])
  | i + 1 => ([(4, .p 0 0), (10, .sv 2 n (eF A N)), (11, .i .i64 (Int.ofNat n)), (12, .i .i64 (Int.ofNat (i + 1)))], [some (wO (enP A N (i + 1)).length), some (shO 2 (enP A N (i + 1)).length), some (.rows 5 1 (enP A N (i + 1)).length (byF (tB (enP A N (i + 1)))))])
theorem z_lp (n : Nat) (A : Nat → List Nat) (N : Nat → Int) (h0 : 0 < n) (h : EnOk n A N) : LDoes Try.prog (loopAt Try.prog 17 0) 25 1 (mkT [(4, .p 0 0), (10, .sv 2 n (eF A N)), (11, .i .i64 (Int.ofNat n)), (12, .i .i64 0)]) [some w0O] (.exit 0) (mkT [(4, .p 0 0)]) [some (wO (enP A N n).length), some (shO 2 (enP A N n).length), some (.rows 5 1 (enP A N n).length (byF (tB (enP A N n))))] := by
  have h8 := h.1
  refine loop_q (zI n A N) (fun i => n - i) (fun i => i ≤ n) (fun i => by cases i <;> simp [zI]) ?_ 0 (Nat.zero_le _)
  intro i hi
  cases i with
  | zero =>
    have h1 : decide ((0 : Int) < Int.ofNat n) = true := decide_eq_true (by simp; omega)
    obtain ⟨a, b, c⟩ := h.2 0 h0
    have ct := wtF_con (A 0) (by omega)
    have cn := wnI_con (tN (A 0)) (N 0) c (by have := tN_le a; omega)
    have bi : (0 : Int) ≤ 0 ∧ (0 : Int) < (↑n : Int) := ⟨by simp, by simp; omega⟩
    exact rd_nrm (zA_lq (tN (A 0)).length (tB (tN (A 0))) (enP A N 1).length (tB (enP A N 1)) n A N h1) ⟨h1, bi, trivial, trivial, ct, trivial, cn, by decide, rfl⟩ 1 h0 (by show n - 1 < n - 0; omega) rfl (.refl _) (.refl _)
  | succ i =>
    have hle := enP_le h (i + 1) hi
    rcases Nat.lt_or_ge (i + 1) n with hlt | q
    · have h1 : decide (Int.ofNat (i + 1) < Int.ofNat n) = true := decide_eq_true (by simp; omega)
      obtain ⟨a, b, c⟩ := h.2 (i + 1) hlt
      have ct := wtG_con (enP A N (i + 1)) (A (i + 1)) (by omega) (by omega)
      have cn := wnI_con (enP A N (i + 1) ++ tN (A (i + 1))) (N (i + 1)) c (by have := tN_le a; rw [List.length_append]; omega)
      have bi : (0 : Int) ≤ Int.ofNat (i + 1) ∧ Int.ofNat (i + 1) < (↑n : Int) := ⟨by simp <;> omega, by simp; omega⟩
      have ri : rg (Int.ofNat (i + 1) + 1) := ⟨by simp <;> omega, by simp <;> omega⟩
      exact rd_nrm (zR_lq (enP A N (i + 1) ++ tN (A (i + 1))).length (tB (enP A N (i + 1) ++ tN (A (i + 1)))) (enP A N (i + 2)).length (tB (enP A N (i + 2))) n (i + 1) (enP A N (i + 1)).length A N (tB (enP A N (i + 1))) h1) ⟨h1, bi, trivial, trivial, ct, trivial, cn, ri, rfl⟩ (i + 2) hlt (by show n - (i + 2) < n - (i + 1); omega) rfl (.refl _) (.refl _)
    · obtain rfl : i + 1 = n := Nat.le_antisymm hi q
      have h1 : decide (Int.ofNat (i + 1) < Int.ofNat (i + 1)) = false := decide_eq_false (by simp)
      exact rd_out (zE_lq (i + 1) (i + 1) (enP A N (i + 1)).length A N (tB (enP A N (i + 1))) h1) ⟨h1, rfl⟩ rfl rfl (.refl _) (.refl _)
theorem zn_lp (A : Nat → List Nat) (N : Nat → Int) : LDoes Try.prog (loopAt Try.prog 17 0) 25 1 (mkT [(4, .p 0 0), (10, .sv 2 0 (eF A N)), (11, .i .i64 (Int.ofNat 0)), (12, .i .i64 0)]) [some w0O] (.exit 0) (mkT [(4, .p 0 0)]) [some w0O] := by
  refine loop_q (D := Nat) (fun i : Nat => ([(4, .p 0 0), (10, .sv 2 0 (eF A N)), (11, .i .i64 (Int.ofNat 0)), (12, .i .i64 0)], [some w0O])) (fun i => 0) (fun i => True) (fun _ => Nat.le_refl _) ?_ 0 trivial
  intro i _
  have h1 : decide ((0 : Int) < Int.ofNat 0) = false := by decide
  exact rd_out (zN_lq 0 A N h1) ⟨h1, rfl⟩ rfl rfl (.refl _) (.refl _)
theorem en_ok {n : Nat} {A : Nat → List Nat} {N : Nat → Int} (h : enB n A N = true) (hb : ∀ i, i < n → Byt (A i)) : EnOk n A N := by
  unfold enB at h
  rw [Bool.and_eq_true] at h
  obtain ⟨h1, h2⟩ := h
  refine ⟨by have := of_decide_eq_true h1; simp at this; omega, fun i hi => ?_⟩
  have := alB_t h2 i hi
  unfold pE at this
  simp only [Bool.and_eq_true] at this
  exact ⟨nm_le this.1, hb i hi, wi_rw this.2.1 (by decide) (by decide)⟩
noncomputable def enT (n : Nat) (A : Nat → List Nat) (N : Nat → Int) : List Nat := bif enB n A N then enP A N n else []
noncomputable def enE (n : Nat) (A : Nat → List Nat) (N : Nat → Int) : Int := bif enB n A N then 0 else 2
theorem encE_con (n : Nat) (A : Nat → List Nat) (N : Nat → Int) (hA : LenA n A) (hb : ∀ i, i < n → Byt (A i)) : Con Try.prog 17 [.sv 2 n (eF A N)] [] (.tup [.s (enT n A N), .i .i64 (enE n A N)]) [] := by
  unfold enT enE
  cases h : enB n A N with
  | false => exact ee0_con n A N h hA
  | true =>
    have ok := en_ok h hb
    have hle := enP_le ok n (Nat.le_refl _)
    have := ok.1
    cases n with
    | zero => exact ee1_con 0 A N h hA (zn_lp A N)
    | succ n =>
      have q := ee2_con (n + 1) A N h hA (enP A N (n + 1)).length (tB (enP A N (n + 1))) (by omega) (u8_of _) (z_lp (n + 1) A N (by omega) ok)
      rw [bts_eq (enP_byt ok _ (Nat.le_refl _))] at q
      exact q
theorem rnuL_con (n : Nat) (hn : n < 9223372036854775808) : Con Try.prog 39 [.i .i64 (Int.ofNat n)] [] (.lr 0 1 0 (fN n).length false) [.set (.rows 5 1 (fN n).length (byF (tB (fN n))))] := by
  obtain ⟨m10, mge, mlt⟩ := mR_ok hn
  have h := nuL_con n (decide_eq_false (by simp)) (lst n) (mR n) (tB (fN n)) (by omega) (by omega) (by omega) (nu_lp n hn)
  rw [addN_eq] at h
  rw [fN_len]
  refine h.post (.refl _) ⟨.rowsW fun i z hi hz => .of ?_, trivial⟩
  obtain rfl : z = 0 := by omega
  rw [u8_lo (show lst n < 256 by unfold lst; omega), appZ_i (f := byF (tB (fN n))) (g := listF 1 [.i .u8 (Int.ofNat (lst n))] 1) (n := mR n) (i := i) (j := 0) (k := .u8) (a := Int.ofNat (tB (fN n) i)) (b := Int.ofNat (lst n)) rfl rfl]
  show CV.i .u8 _ = CV.i .u8 (Int.ofNat (tB (fN n) i))
  split
  · rfl
  · have hi : i < mR n + 1 := hi
    obtain rfl : i = mR n := by omega
    have := fN_get (n := n) (i := mR n) (by unfold wl; omega)
    unfold tB
    rw [this]; unfold wB
    rw [show Nat.blt (mR n) (mR n) = false by rw [Bool.eq_false_iff, ne_eq, Nat.blt_eq]; omega, cond_false]
theorem x_lp (a t : List Nat) (hk : a.length + t.length ≤ 1073741000) : LDoes Try.prog (loopAt Try.prog 49 0) 21 0 (mkT [(0, .s t), (3, .lr 0 1 0 a.length false), (4, .i .i64 0)]) [some (.rows 5 1 a.length (byF (tB a)))] (.exit 0) (mkT [(3, .lr 0 1 0 (a ++ t).length false)]) [some (.rows 5 1 (a ++ t).length (byF (tB (a ++ t))))] := by
  rw [List.length_append]
  have key := loop_q (P := Try.prog) (c := loopAt Try.prog 49 0) (n := 21) (b := 0) (x := .exit 0) (l' := [(3, .lr 0 1 0 (a.length + t.length) false)]) (objs' := [some (.rows 5 1 (a.length + t.length) (byF (tB (a ++ t))))]) (D := Nat)
    (fun i : Nat => ([(0, .s t), (3, .lr 0 1 0 (a.length + i) false), (4, .i .i64 (Int.ofNat i))], [some (.rows 5 1 (a.length + i) (byF (tB (a ++ t))))])) (fun i => t.length - i) (fun i => i ≤ t.length) (fun _ => Nat.zero_le _) ?_ 0 (Nat.zero_le _)
  · exact key.ovl ⟨.rowsW fun i z hi hz => .of (by show CV.i .u8 (Int.ofNat (tB a i)) = CV.i .u8 (Int.ofNat (tB (a ++ t) i)); rw [tB_lo hi]), trivial⟩
  intro i hi
  rcases Nat.lt_or_ge i t.length with hlt | q
  · have h1 : decide (Int.ofNat i < Int.ofNat t.length) = true := decide_eq_true (by simp; omega)
    have bi : (0 : Int) ≤ Int.ofNat i ∧ Int.ofNat i < (↑t.length : Int) := ⟨by simp, by simp; omega⟩
    have ri : rg (Int.ofNat i + 1) := ⟨by simp <;> omega, by simp <;> omega⟩
    refine rd_nrm (xR_lq t i (a.length + i) (tB (a ++ t)) h1) ⟨h1, bi, ⟨by omega, trivial, by omega, by omega⟩, ri, rfl⟩ (i + 1) hlt (by show t.length - (i + 1) < t.length - i; omega) rfl ?_ ?_
    · rw [addN_eq]; exact .refl _
    · rw [addN_eq]
      refine ⟨.rowsW fun j z hj hz => .of ?_, trivial⟩
      obtain rfl : z = 0 := by omega
      rw [appZ_i (f := byF (tB (a ++ t))) (g := listF 1 [.i .u8 (Int.ofNat (List.getD t i 0))] 1) (n := a.length + i) (i := j) (j := 0) (k := .u8) (a := Int.ofNat (tB (a ++ t) j)) (b := Int.ofNat (List.getD t i 0)) rfl rfl]
      show CV.i .u8 _ = CV.i .u8 (Int.ofNat (tB (a ++ t) j))
      split
      · rfl
      · have hj : j < a.length + i + 1 := hj
        obtain rfl : j = a.length + i := by omega
        rw [tB_hi (by omega), Nat.add_sub_cancel_left]; rfl
  · obtain rfl : i = t.length := Nat.le_antisymm hi q
    have h1 : decide (Int.ofNat t.length < Int.ofNat t.length) = false := decide_eq_false (by simp)
    exact rd_out (xE_lq t t.length (a.length + t.length) (tB (a ++ t)) h1) ⟨h1, rfl⟩ rfl rfl (.refl _) (.refl _)
theorem rtext_con (t : List Nat) (ht : t.length ≤ 1000000) : Con Try.prog 49 [.s t] [] (.sv 1 (tN t).length (byF (tB (tN t)))) [] := by
  have q := fN_le (n := t.length) (by omega)
  have h := rtx_con t (fN t.length).length (tB (fN t.length)) (tN t).length (tB (tN t)) (rnuL_con _ (by omega)) (x_lp (fN t.length) t (by omega))
  exact h
theorem y_lp (n : Nat) (A : Nat → List Nat) (N : Nat → Int) (h : EnOk n A N) : LDoes Try.prog (loopAt Try.prog 18 0) 33 0 (mkT [(0, .sv 2 n (eF A N)), (4, .l0), (5, .i .i64 0)]) [] (.exit 0) (mkT [(4, .lr 0 1 0 (enP A N n).length false)]) [some (.rows 5 1 (enP A N n).length (byF (tB (enP A N n))))] := by
  have h8 := h.1
  have key := loop_q (P := Try.prog) (c := loopAt Try.prog 18 0) (n := 33) (b := 0) (x := .exit 0) (l' := [(4, .lr 0 1 0 (enP A N n).length false)]) (objs' := [some (.rows 5 1 (enP A N n).length (byF (tB (enP A N n))))]) (D := Nat)
    (fun i : Nat => ([(0, .sv 2 n (eF A N)), (4, .lr 0 1 0 (enP A N i).length false), (5, .i .i64 (Int.ofNat i))], [some (.rows 5 1 (enP A N i).length (byF (tB (enP A N i))))])) (fun i => n - i) (fun i => i ≤ n) (fun _ => Nat.zero_le _) ?_ 0 (Nat.zero_le _)
  · refine key.weak ⟨rfl, .inl rfl, rfl, .inr ⟨rfl, .inl ⟨0, 1, 0, false, rfl⟩⟩, rfl, .inl rfl, trivial⟩ ?_
    intro o ho
    simp at ho; subst ho
    exact ⟨_, rfl, rfl⟩
  intro i hi
  have hle := enP_le h i hi
  rcases Nat.lt_or_ge i n with hlt | q
  · have h1 : decide (Int.ofNat i < Int.ofNat n) = true := decide_eq_true (by simp; omega)
    have bi : (0 : Int) ≤ Int.ofNat i ∧ Int.ofNat i < (↑n : Int) := ⟨by simp, by simp; omega⟩
    have ri : rg (Int.ofNat i + 1) := ⟨by simp <;> omega, by simp <;> omega⟩
    obtain ⟨a, b, c⟩ := h.2 i hlt
    have ct := rtext_con (A i) (by omega)
    have cn : Con Try.prog 39 [.i .i64 (N i)] [] (.sv 1 (fN (N i).toNat).length (byF (tB (fN (N i).toNat)))) [] := rnI_con (N i) c
    have t1 := tN_le a
    have t2 := fN_le (n := (N i).toNat) (by unfold rwI at c; omega)
    refine rd_nrm (yR_lq (tN (A i)).length (tB (tN (A i))) (fN (N i).toNat).length (tB (fN (N i).toNat)) n i (enP A N i).length A N (tB (enP A N i)) h1) (by repeat' first | exact trivial | assumption | exact rfl | apply And.intro | (simp only [addN_eq]; omega) | omega) (i + 1) hlt (by show n - (i + 1) < n - i; omega) rfl ?_ ?_
    · rw [addN_eq, addN_eq, show (enP A N i).length + (tN (A i)).length + (fN (N i).toNat).length = (enP A N (i + 1)).length by show _ = ((enP A N i ++ tN (A i)) ++ fN (N i).toNat).length; rw [List.length_append, List.length_append]]; exact .refl _
    · refine ⟨?_, trivial⟩
      have e1 : addN (enP A N i).length (tN (A i)).length = (enP A N i ++ tN (A i)).length := by rw [addN_eq, List.length_append]
      rw [e1, addN_eq, ← List.length_append]
      refine .rowsW fun j z hj hz => .of ?_
      obtain rfl : z = 0 := by omega
      refine Eq.trans ?_ (app_by (enP A N i ++ tN (A i)) (fN (N i).toNat) j)
      rw [appZ_i (f := byF (tB (enP A N i ++ tN (A i)))) (g := byF (tB (fN (N i).toNat))) (n := (enP A N i ++ tN (A i)).length) (i := j) (j := 0) (k := .u8) (a := Int.ofNat (tB (enP A N i ++ tN (A i)) j)) (b := Int.ofNat (tB (fN (N i).toNat) (j - (enP A N i ++ tN (A i)).length))) rfl rfl,
        appZ_i (f := appZ (enP A N i).length (byF (tB (enP A N i))) (byF (tB (tN (A i))))) (g := byF (tB (fN (N i).toNat))) (n := (enP A N i ++ tN (A i)).length) (i := j) (j := 0) (k := .u8) (a := Int.ofNat (tB (enP A N i ++ tN (A i)) j)) (b := Int.ofNat (tB (fN (N i).toNat) (j - (enP A N i ++ tN (A i)).length))) (app_by _ _ _) rfl]
  · obtain rfl : i = n := Nat.le_antisymm hi q
    have h1 : decide (Int.ofNat i < Int.ofNat i) = false := decide_eq_false (by simp)
    exact rd_out (yE_lq i i (enP A N i).length A N (tB (enP A N i)) h1) ⟨h1, rfl⟩ rfl rfl (.refl _) (.refl _)
theorem rencE_con (n : Nat) (A : Nat → List Nat) (N : Nat → Int) (hA : LenA n A) (hn : n ≤ 281474976710656) (hb : ∀ i, i < n → Byt (A i)) : Con Try.prog 18 [.sv 2 n (eF A N)] [] (.tup [.s (enT n A N), .i .i64 (enE n A N)]) [] := by
  unfold enT enE
  cases h : enB n A N with
  | false => exact re0_con n A N h hA hn
  | true =>
    have ok := en_ok h hb
    have q := re1_con n A N h hA hn (enP A N n).length (tB (enP A N n)) (by omega) (u8_of _) (y_lp n A N ok)
    rw [bts_eq (enP_byt ok _ (Nat.le_refl _))] at q
    exact q
structure Rd where
  u : List Nat
  e : Int
noncomputable def nvU (u : List Nat) : Nat := nmv (tB u) u.length
noncomputable def nzU (u : List Nat) : Nat := nmz (tB u) u.length
noncomputable def neU (u : List Nat) : Nat := nme (tB u) u.length
noncomputable def rO (r : Rd) : AObj := rdO r.u.length (tB r.u) r.e
noncomputable def rV (r : Rd) : Nat := bif decide (r.e = 0) then nvU r.u else 0
noncomputable def rN (r : Rd) : Rd := bif decide (r.e = 0) then ⟨r.u.drop (nzU r.u), Int.ofNat (neU r.u)⟩ else r
noncomputable def txV (u : List Nat) : List Nat := bif decide (Int.ofNat (neU u) = 0) then (bif decide ((6 : Int) < Int.ofNat (nvU u)) then [] else bif decide (Int.ofNat u.length - Int.ofNat (nzU u) < Int.ofNat (nvU u)) then [] else (u.drop (nzU u)).take (nvU u)) else []
noncomputable def txZ (u : List Nat) : Nat := bif decide (Int.ofNat (neU u) = 0) then (bif decide ((6 : Int) < Int.ofNat (nvU u)) then 0 else bif decide (Int.ofNat u.length - Int.ofNat (nzU u) < Int.ofNat (nvU u)) then 0 else nzU u + nvU u) else 0
noncomputable def txE (u : List Nat) : Nat := bif decide (Int.ofNat (neU u) = 0) then (bif decide ((6 : Int) < Int.ofNat (nvU u)) then 11 else bif decide (Int.ofNat u.length - Int.ofNat (nzU u) < Int.ofNat (nvU u)) then 10 else 0) else neU u
noncomputable def rT (r : Rd) : List Nat := bif decide (r.e = 0) then txV r.u else []
noncomputable def rX (r : Rd) : Rd := bif decide (r.e = 0) then ⟨r.u.drop (txZ r.u), Int.ofNat (txE r.u)⟩ else r
theorem shB_drop (z : Nat) (u : List Nat) : shB z (tB u) = tB (u.drop z) := by
  funext i
  show u.getD (z + i) 0 = (u.drop z).getD i 0
  rw [List.getD_eq_getElem?_getD, List.getD_eq_getElem?_getD, List.getElem?_drop]
theorem u_lt {u : List Nat} (h : Byt u) (k : Nat) : tB u k < 256 := tB_lt h k
theorem num_u {u : List Nat} (h : Byt u) : Con Try.prog 55 [.p 0 0] [some (rO ⟨u, 0⟩)] (.i .i64 (Int.ofNat (nvU u))) [.set (rO ⟨u.drop (nzU u), Int.ofNat (neU u)⟩)] := by
  have k := rdNum_con u.length (tB u) (u_lt h)
  unfold rO
  show Con Try.prog 55 [.p 0 0] [some (rdO u.length (tB u) 0)] (.i .i64 (Int.ofNat (nmv (tB u) u.length))) [.set (rdO (u.drop (nmz (tB u) u.length)).length (tB (u.drop (nmz (tB u) u.length))) (Int.ofNat (nme (tB u) u.length)))]
  rw [← shB_drop, List.length_drop]
  exact k
end Go.Proofs.Ly
