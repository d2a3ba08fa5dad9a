/- Runs over unknown values, told by the kernel: part GA. -/
import Derived.Test.YtgggnjjhfkijfaaSymI
import Derived.Test.YtgggnjjhfkijfaaRows
set_option linter.unusedSimpArgs false
set_option linter.unusedVariables false
namespace Go.Proofs.Lk
open Go Go.Sim Go.Proofs
noncomputable def qF (A M W : Nat → Int) (i j : Nat) : CV := Nat.rec (.i .i64 (A i)) (fun j _ => Nat.rec (.i .i64 (M i)) (fun _ _ => .i .i64 (W i)) j) j
structure HQ where
  a : Int
  m : Int
  w : Int
def hz : HQ := ⟨0, 0, 0⟩
def qA (q : List HQ) (i : Nat) : Int := (q.getD i hz).a
def qM (q : List HQ) (i : Nat) : Int := (q.getD i hz).m
def qW (q : List HQ) (i : Nat) : Int := (q.getD i hz).w
structure Rw where
  h : Nat → Int
  q : List HQ
noncomputable def isv (n : Nat) (f : Nat → Int) : AV := .sv 1 n fun i _ => .i .i64 (f i)
structure Mb where
  x : Nat → Int
  mn : Nat
  mf : Nat → Int
  sn : Nat
  sf : Nat → Int
  hn : Nat
  hA : Nat → Int
  hM : Nat → Int
  hW : Nat → Int
  dn : Nat
  dA : Nat → Int
  dM : Nat → Int
  dW : Nat → Int
structure Rs where
  x : Nat → Int
  mn : Nat
  mf : Nat → Int
  sn : Nat
  sf : Nat → Int
  s : Nat → Mb
noncomputable def z0 {α : Type} (a b : T α) : T α := T.n none a b
noncomputable def z1 {α : Type} (v : α) (a b : T α) : T α := T.n (some v) a b
noncomputable def zl {α : Type} (v : α) : T α := T.n (some v) T.e T.e
def isLockB (k : Int) : Bool := decide (0 ≤ k) && decide (k < 19)
def isServerB (k : Int) : Bool := decide (0 ≤ k) && decide (k < 3)
def isWishB (k : Int) : Bool := decide (k = 1) || decide (k = 2)
def isModeB (k : Int) : Bool := decide (k = 0) || isWishB k
def goesB (a b : Int) : Bool := decide (a = 0) || decide (b = 0) || (decide (a = 1) && decide (b = 1))
def hx (h : Nat → Int) (k : Int) : Int := List.getD [h 0, h 1, h 2] k.toNat 0
def mayWaitB (h : Nat → Int) (a m w : Int) : Bool := isServerB a && (isWishB m && (decide (hx h a < m) && decide (w = 0)))
def canB (h : Nat → Int) (a m : Int) : Bool := (decide ((0 : Int) = a) || goesB m (h 0)) && ((decide ((1 : Int) = a) || goesB m (h 1)) && (decide ((2 : Int) = a) || goesB m (h 2)))
def fcB (h : Nat → Int) (n : Nat) (A M : Nat → Int) : Bool := decide (n ≠ 0) && canB h (A 0) (M 0)
def hmB (h : Nat → Int) : Bool := (isModeB (h 0) && (isModeB (h 1) && goesB (h 1) (h 0))) && (isModeB (h 2) && (goesB (h 2) (h 0) && goesB (h 2) (h 1)))
def fiN (A : Nat → Int) (k : Int) : Nat → Nat → Nat
  | 0, i => i
  | m + 1, i => if A i = k then i else fiN A k m (i + 1)
def fi (n : Nat) (A : Nat → Int) (k : Int) : Nat := fiN A k n 0
def ti (n : Nat) (A : Nat → Int) (k : Int) : Nat := if fi n A k < n then fi n A k + 1 else n
def qmB (h : Nat → Int) (n : Nat) (A M W : Nat → Int) : Nat → Nat → Bool
  | 0, _ => true
  | m + 1, i => mayWaitB h (A i) (M i) (W i) && (decide (fi n A (A i) = i) && qmB h n A M W m (i + 1))
def mayBeB (h : Nat → Int) (n : Nat) (A M W : Nat → Int) : Bool := hmB h && (qmB h n A M W n 0 && !fcB h n A M)
def to (r : Rw) (k : Int) : Nat := ti r.q.length (qA r.q) k
noncomputable def h3 (a b c : Int) (j : Nat) : Int := Nat.rec a (fun j _ => Nat.rec b (fun _ _ => c) j) j
noncomputable def rvIs (v : AV) (r : Res) : Prop := match r with | .rv v1 _ => v1 = v | _ => False
theorem con_pure {P : Program} {f : Nat} {g : FuncId} {pargs : List AV} {o : Orc} {v : AV} (hb : below 0 v = true) (h : runK P f (.call g pargs (mkH [])) o fun r _ => rvIs v r) : Con P g pargs [] v [] := by
  obtain ⟨r, o', hr, hd⟩ := runK_ok P f _ _ _ h
  cases r with
  | rv v1 H1 =>
    obtain rfl : v1 = v := hr
    obtain ⟨hlg, hcall⟩ : CallDoes P g pargs (mkH []) v1 H1 := hd
    intro ρ w args' hv hh hoff
    refine (hcall ρ w args' hv hh (fun A q1 _ => hoff A (Nat.zero_le _))).mono ?_
    rintro e w' ⟨v', ρ1, rfl, k1, k2, k3⟩
    have hid : ren id v1 = v1 := ren_id v1
    have hnone : ∀ A, ρ A = none := fun A => hoff A (Nat.zero_le _)
    have hemp : ∀ A o, (mkH (postL [] [])).get A = some o → False := by
      intro A o h
      rw [mkH_get] at h
      have : (postL [] [] : List (Option AObj)) = [] := rfl
      rw [this] at h; simp at h
    refine ⟨v', ⟨fun _ => none, ρ1.ro⟩, rfl, ?_, ⟨fun A o h => (hemp A o h).elim, fun A _ o _ _ _ h => (hemp A o h).elim, fun A x h => by simp at h, k2.ro, fun B j v hv A o x h => (hemp A o h).elim⟩, ?_⟩
    · exact unren_VR (ρ := ⟨fun _ => none, ρ1.ro⟩) (ρ' := ρ1) (σ := id) (k := 0) (fun A h => by omega) (fun _ _ _ h => h) hb (by rw [hid]; exact k1)
    · refine ⟨Nat.zero_le _, ⟨fun A x h => by rw [hnone A] at h; simp at h, k3.ext.ro⟩, fun A x h => by simp at h, k3.size, ?_, fun A o x h => (hemp A o h).elim, ?_, k3.tape, k3.os, k3.output⟩
      · exact k3.frame
      · exact k3.roimg
  | st _ _ _ => exact absurd hr (by simp [rvIs])
theorem con_pureX {P : Program} {f : Nat} {g : FuncId} {pargs : List AV} {o : Orc} {v : AV} {R : Prop} (h : runK P f (.call g pargs (mkH [])) o (fun r _ => rvIs v r) = R) (hb : below 0 v = true) (hr : R) : Con P g pargs [] v [] := con_pure hb (h.mpr hr)
structure LS where
  r : Rs
  row : Nat → Rw
def mayB (r : Rw) : Bool := mayBeB r.h r.q.length (qA r.q) (qM r.q) (qW r.q)
def vaN (s : LS) : Nat → Nat → Bool
  | 0, _ => true
  | m + 1, l => mayB (s.row l) && vaN s m (l + 1)
def vaS (s : LS) : Bool := vaN s 19 0
def zMb : Mb := ⟨fun _ => 0, 0, fun _ => 0, 0, fun _ => 0, 0, fun _ => 0, fun _ => 0, fun _ => 0, 0, fun _ => 0, fun _ => 0, fun _ => 0⟩
def zRs : Rs := ⟨fun _ => 0, 0, fun _ => 0, 0, fun _ => 0, fun _ => zMb⟩
def zS : LS := ⟨zRs, fun _ => ⟨fun _ => 0, []⟩⟩
def okA (s : LS) (l k m : Int) : Bool := isLockB l && (isServerB k && (isWishB m && vaS s))
def askE (s : LS) (l k m : Int) : Int := bif okA s l k m then 0 else 2
set_option maxRecDepth 20000
theorem cl53_vc (m : Nat) (f : Nat → Int) (K : Res → Orc → Prop) : runK Try.prog 1000000 (.call 46 [isv (m + 1) f] (mkH [])) (oc 2 Orc.z) K = (True ∧ (True ∧ True ∧ 0 + (m + 1) ≤ 140737488355328 ∧ (3 * (0 + (m + 1)) + 1536) * 8 ≤ 562949953421312) ∧ K (Res.rv (AV.lr 1 1 0 (m + 1) false) ⟨z0 (zl (AObj.rows 3 1 (m + 1) fun i x => CV.i .i64 (f i))) T.e, 2, [1, 0, 0]⟩) Orc.z) := by kernel_rfl
theorem cl53n_vc (K : Res → Orc → Prop) : runK Try.prog 1000000 (.call 46 [.l0] (mkH [])) (Orc.c Orc.z) K = (True ∧ K (Res.rv AV.l0 ⟨T.e, 0, []⟩) Orc.z) := by kernel_rfl
theorem cl53z_vc (K : Res → Orc → Prop) : runK Try.prog 1000000 (.call 46 [.lz] (mkH [])) (Orc.c Orc.z) K = (True ∧ K (Res.rv (AV.l 0 0 0 0 1 true) ⟨zl (AObj.cells 3 0 [] T.e), 1, [0, 0]⟩) Orc.z) := by kernel_rfl
theorem cl53_con (n : Nat) (f : Nat → Int) (hn : n ≤ 17592186044416) : Con Try.prog 46 [isv n f] [] (isv n f) [] := by
  cases n with
  | succ m =>
    exact con_of_run [1] [] ((cl53_vc _ _ _).mpr ⟨trivial, ⟨trivial, trivial, by omega, by omega⟩, _, _, rfl, ret_fz [1] ((1 = 1 ∧ 0 + (m + 1) ≤ m + 1) ∧ True) (by kernel_rfl) (by kernel_rfl) ⟨⟨rfl, by omega⟩, trivial⟩ (by kernel_rfl) rfl (by kernel_rfl) (by kernel_rfl) rfl trivial⟩)
  | zero =>
    have h0 : Con Try.prog 46 [.l0] [] (isv 0 f) [] := by
      have h := con_of_run (v := .l0) (us := []) [] [] ((cl53n_vc _).mpr ⟨trivial, _, _, rfl, ret_is (by kernel_rfl) rfl (by kernel_rfl) (by kernel_rfl) rfl trivial⟩)
      exact h.post (VW.nil _ _) trivial
    have hz : Con Try.prog 46 [.lz] [] (isv 0 f) [] := by
      have h := con_of_run (v := .sv 1 0 (listF 1 [] 0)) (us := []) [0] [] ((cl53z_vc _).mpr ⟨trivial, _, _, rfl, ret_fz [0] ((0 + 0 * 1 ≤ 0) ∧ True) (by kernel_rfl) (by kernel_rfl) ⟨by omega, trivial⟩ (by kernel_rfl) rfl (by kernel_rfl) (by kernel_rfl) rfl trivial⟩)
      exact h.post (VW.sv fun i j hi => absurd hi (Nat.not_lt_zero i)) trivial
    intro ρ w args' hv hh hoff
    cases hv with | cons _ _ v' _ h1 h2 =>
    cases h1 with | sv _ _ _ _ hc =>
    cases hc with
    | sv0 => exact h0 ρ w _ (.cons _ _ _ _ .l0 h2) hh hoff
    | svz _ _ a c => exact hz ρ w _ (.cons _ _ _ _ (.lz a c) h2) hh hoff
    | sv _ _ _ B o cap g q1 q2 q3 => exact hz ρ w _ (.cons _ _ _ _ (.lz _ cap) h2) hh hoff
set_option maxRecDepth 20000
set_option maxRecDepth 20000
set_option maxRecDepth 20000
theorem e1 : askE zS 3 0 1 = 0 := by kernel_rfl
set_option maxRecDepth 20000
end Go.Proofs.Lk
namespace Go.Proofs.Sv
open Go Go.Sim Go.Proofs Go.Proofs.Lk
def wi (n a b : Int) : Bool := decide (a ≤ n) && decide (n ≤ b)
structure Cm where
  k : Int
  sv : Int
  bt : Int
  sq : Int
  gn : Int
  lk : Int
  md : Int
  ot : Int
  mn : Nat
  mf : Nat → Int
  d : Int
noncomputable def cmL (c : Cm) : List AV := [.i .i64 c.k, .i .i64 c.sv, .i .i64 c.bt, .i .i64 c.sq, .i .i64 c.gn, .i .i64 c.lk, .i .i64 c.md, .i .i64 c.ot, isv c.mn c.mf, .i .i64 c.d]
noncomputable def cmV (c : Cm) : AV := .agg (cmL c)
def ixP (p : Nat → Bool) : Nat → Nat → Int
  | 0, _ => -1
  | m + 1, i => bif p i then Int.ofNat i else ixP p m (i + 1)
def anyP (p : Nat → Bool) : Nat → Nat → Bool
  | 0, _ => false
  | m + 1, i => p i || anyP p m (i + 1)
def shT (k : Int) : List Int :=
  if k = 1 then [0, 2, 1, 1099511627776, 1, 1099511627776, 0, 0, 0, 0, 0, 0, 0, 0, 0, 0, 0, 1048576]
  else if k = 2 then [0, 2, 1, 1099511627776, 1, 1099511627776, 0, 1099511627776, 0, 0, 0, 0, 0, 0, 0, 0, 0, 1048576]
  else if k = 3 then [0, 2, 1, 1099511627776, 1, 1099511627776, 0, 1099511627776, 0, 18, 1, 2, 0, 0, 0, 0, 0, 1048576]
  else if k = 4 then [0, 2, 1, 1099511627776, 1, 1099511627776, 0, 1099511627776, 0, 18, 0, 0, 0, 0, 0, 0, 0, 1048576]
  else if k = 5 then [0, 2, 1, 1099511627776, 1, 1099511627776, 0, 1099511627776, 0, 0, 0, 0, 0, 2, 0, 0, 0, 1048576]
  else if k = 6 then [0, 2, 1, 1099511627776, 1, 1099511627776, 0, 1099511627776, 0, 0, 0, 0, 0, 2, 0, 0, 0, 1048576]
  else if k = 7 then [0, 2, 1, 1099511627776, 1, 1099511627776, 0, 1099511627776, 0, 0, 0, 0, 0, 0, 1, 3, 0, 1048576]
  else if k = 8 then [0, 0, 0, 0, 0, 0, 0, 0, 0, 0, 0, 0, 0, 0, 0, 0, 1, 1048576]
  else [0, 0, 0, 0, 0, 0, 0, 0, 0, 0, 0, 0, 0, 0, 0, 0, 0, 0]
def shA (k : Int) (i : Nat) : Int := (shT k).getD i 0
def kdB (k : Int) : Bool := wi k 1 8
noncomputable def shL (a : Nat → Int) : AV := .agg [.i .i64 (a 0), .i .i64 (a 1), .i .i64 (a 2), .i .i64 (a 3), .i .i64 (a 4), .i .i64 (a 5), .i .i64 (a 6), .i .i64 (a 7), .i .i64 (a 8), .i .i64 (a 9), .i .i64 (a 10), .i .i64 (a 11), .i .i64 (a 12), .i .i64 (a 13), .i .i64 (a 14), .i .i64 (a 15), .i .i64 (a 16), .i .i64 (a 17)]
def fitB (a : Nat → Int) (c : Cm) : Bool := wi c.sv (a 0) (a 1) && (wi c.bt (a 2) (a 3) && (wi c.sq (a 4) (a 5) && (wi c.gn (a 6) (a 7) && (wi c.lk (a 8) (a 9) && (wi c.md (a 10) (a 11) && (wi c.ot (a 12) (a 13) &&
  (wi c.d (a 16) (a 17) && (wi (Int.ofNat c.mn) (a 14) (a 15) && !anyP (fun i => !wi (c.mf i) 0 2) c.mn 0))))))))
def vcB (c : Cm) : Bool := kdB c.k && fitB (shA c.k) c
end Go.Proofs.Sv
namespace Go.Proofs.Ck
open Go Go.Sim Go.Proofs Go.Proofs.Lk Go.Proofs.Sv
structure Cl where
  s : Int
  b : Int
  p : Int
  q : Int
  n : Int
  o : Bool
  c : Cm
  f : Int
  l : Int
noncomputable def clL (x : Cl) : List AV := [.i .i64 x.s, .i .i64 x.b, .i .i64 x.p, .i .i64 x.q, .i .i64 x.n, .b x.o, .i .i64 x.c.k, .i .i64 x.c.sv, .i .i64 x.c.bt, .i .i64 x.c.sq, .i .i64 x.c.gn, .i .i64 x.c.lk, .i .i64 x.c.md, .i .i64 x.c.ot, isv x.c.mn x.c.mf, .i .i64 x.c.d, .i .i64 x.f, .i .i64 x.l]
noncomputable def clO (x : Cl) : AObj := .cells 80 18 [] (setAll .e 0 (clL x))
def cm0 : Cm := ⟨0, 0, 0, 0, 0, 0, 0, 0, 0, fun _ => 0, 0⟩
def mb0 : Mb := ⟨fun _ => 0, 0, fun _ => 0, 0, fun _ => 0, 0, fun _ => 0, fun _ => 0, fun _ => 0, 0, fun _ => 0, fun _ => 0, fun _ => 0⟩
structure Mg where
  k : Int
  fr : Int
  to : Int
  bl : Int
  sl : Int
  ab : Int
  av : List Nat
  st : List Nat
  c : Cm
  v : Mb
end Go.Proofs.Ck
set_option maxRecDepth 20000
namespace Go.Proofs.Sv
open Go Go.Sim Go.Proofs Go.Proofs.Lk Go.Proofs.Ytgggnjjhfkijfaa
theorem w50_vc (n a b : Int) (V : AV) : runK Try.prog 1000000 (.call 58 [.i .i64 n, .i .i64 a, .i .i64 b] (mkH [])) (Orc.s (Orc.t (Orc.t (Orc.t Orc.z))) (Orc.f (Orc.f (Orc.f
  Orc.z)))) (fun r _ => rvIs V r) = ((decide (a ≤ n) = true → decide (a ≤ n) = true ∧ decide (a ≤ n) = true ∧ decide (a ≤ n) = true ∧ (AV.b (decide (n ≤ b))) = V) ∧ (decide (a ≤ n)
  = false → decide (a ≤ n) = false ∧ decide (a ≤ n) = false ∧ decide (a ≤ n) = false ∧ (AV.b false) = V)) := by kernel_rfl
theorem has_vc (w : Int → Int → Int → Bool) (n a b : Int) (V : AV) : runK Try.prog 1000000 (.call 54 [.agg [.i .i64 a, .i .i64 b], .i .i64 n] (mkH [])) (Orc.cal [] (AV.b (w n a
  b)) [] Orc.z) (fun r _ => rvIs V r) = (True ∧ True ∧ Con Try.prog 58 [AV.i IntKind.i64 n, AV.i IntKind.i64 a, AV.i IntKind.i64 b] [] (AV.b (w n a b)) [] ∧ (AV.b (w n a b)) = V)
  := by kernel_rfl
theorem nn_vc (w : Int → Int → Int → Bool) (n : Int) (V : AV) : runK Try.prog 1000000 (.call 56 [.i .i64 n] (mkH [])) (Orc.cal [] (AV.b (w n (0 : Int) (2 : Int))) [] Orc.z) (fun
  r _ => rvIs V r) = (Con Try.prog 58 [AV.i IntKind.i64 n, AV.i IntKind.i64 (0 : Int), AV.i IntKind.i64 (2 : Int)] [] (AV.b (w n (0 : Int) (2 : Int))) [] ∧ True ∧ (AV.b !w n (0 :
  Int) (2 : Int)) = V) := by kernel_rfl
theorem wi_t {n a b : Int} (h : decide (a ≤ n) = true) : (AV.b (decide (n ≤ b))) = .b (wi n a b) := by unfold wi; rw [h]; rfl
theorem wi_f {n a b : Int} (h : decide (a ≤ n) = false) : (AV.b false) = .b (wi n a b) := by unfold wi; rw [h]; rfl
theorem w50_con (n a b : Int) : Con Try.prog 58 [.i .i64 n, .i .i64 a, .i .i64 b] [] (.b (wi n a b)) [] := con_pureX (w50_vc n a b _) rfl ⟨fun h => ⟨h, h, h, wi_t h⟩, fun h => ⟨h, h, h, wi_f h⟩⟩
theorem has_con (n a b : Int) : Con Try.prog 54 [.agg [.i .i64 a, .i .i64 b], .i .i64 n] [] (.b (wi n a b)) [] := con_pureX (has_vc wi n a b _) rfl ⟨trivial, trivial, w50_con _ _ _, rfl⟩
theorem nn_con (n : Int) : Con Try.prog 56 [.i .i64 n] [] (.b (!wi n 0 2)) [] := con_pureX (nn_vc wi n _) rfl ⟨w50_con _ _ _, trivial, rfl⟩
theorem ixP_any (p : Nat → Bool) : ∀ m i, decide (0 ≤ ixP p m i) = anyP p m i
  | 0, i => rfl
  | m + 1, i => by
    unfold ixP anyP
    cases p i with
    | true => simp
    | false => simpa using ixP_any p m (i + 1)
theorem ifE_lq (n : Nat) (f : Nat → Int) (h1 : decide (Int.ofNat n < Int.ofNat n) = false) : LD Try.prog (loopAt Try.prog 59 0) 19 0 [(0, isv n f), (1, .fn (.func 56) []
  []), (6, isv n f), (7, .i .i64 (Int.ofNat n)), (8, .i .i64 (Int.ofNat n))] [] (Orc.f Orc.z) (.exit 0) [] [] [] 0 (fun Lf => decide (Int.ofNat n < Int.ofNat n) = false ∧ Lf)
  := by unfold LD LQ; kernel_rfl
theorem ifT_lq (p : Int → Bool) (n i : Nat) (f : Nat → Int) (h1 : decide (Int.ofNat i < Int.ofNat n) = true) (h2 : p (f i) = true) : LD Try.prog (loopAt Try.prog 59 0) 19 0
  [(0, isv n f), (1, .fn (.func 56) [] []), (6, isv n f), (7, .i .i64 (Int.ofNat n)), (8, .i .i64 (Int.ofNat i))] [] (Orc.t (Orc.cal [] (.b (p (f i))) [] (Orc.t Orc.z))) .ret
  [] [(4, .i .i64 (Int.ofNat i))] [] 0 (fun Lf => decide (Int.ofNat i < Int.ofNat n) = true ∧ (0 ≤ Int.ofNat i ∧ Int.ofNat i < ↑n) ∧ True ∧ Con Try.prog 56 [.i .i64 (f i)] []
  (.b (p (f i))) [] ∧ p (f i) = true ∧ Lf) := by unfold LD LQ; kernel_rfl
theorem ifN_lq (p : Int → Bool) (n i : Nat) (f : Nat → Int) (h1 : decide (Int.ofNat i < Int.ofNat n) = true) (h2 : p (f i) = false) : LD Try.prog (loopAt Try.prog 59 0) 19 0
  [(0, isv n f), (1, .fn (.func 56) [] []), (6, isv n f), (7, .i .i64 (Int.ofNat n)), (8, .i .i64 (Int.ofNat i))] [] (Orc.t (Orc.cal [] (.b (p (f i))) [] (Orc.f Orc.z))) .nrm
  [] [(0, isv n f), (1, .fn (.func 56) [] []), (6, isv n f), (7, .i .i64 (Int.ofNat n)), (8, .i .i64 (Int.ofNat i + 1))] [] 0 (fun Lf => decide (Int.ofNat i < Int.ofNat n) =
  true ∧ (0 ≤ Int.ofNat i ∧ Int.ofNat i < ↑n) ∧ True ∧ Con Try.prog 56 [.i .i64 (f i)] [] (.b (p (f i))) [] ∧ p (f i) = false ∧ rg (Int.ofNat i + 1) ∧ Lf)
  := by unfold LD LQ; kernel_rfl
theorem iff_vq (n : Nat) (f : Nat → Int) (r : Int) : VD Try.prog 59 [isv n f, .fn (.func 56) [] []] [] (Orc.lop [] [0, 1, 6, 7, 8] 0 XO.ret [(4, .i .i64 r)] [] Orc.z) (.i
  .i64 r) [] [] 0 (fun Lf => LDoes Try.prog (loopAt Try.prog 59 0) 19 0 (mkT [(0, isv n f), (1, AV.fn (Fn.func 56) [] []), (6, isv n f), (7, .i .i64 (Int.ofNat n)), (8, .i
  .i64 0)]) [] XO.ret (mkT [(4, .i .i64 r)]) [] ∧ Lf) := by unfold VD VQ; kernel_rfl
theorem ifg_vq (n : Nat) (f : Nat → Int) : VD Try.prog 59 [isv n f, .fn (.func 56) [] []] [] (Orc.lop [] [0, 1, 6, 7, 8] 0 (XO.exit 0) [] [] Orc.z) (.i .i64 (-1)) [] [] 0
  (fun Lf => LDoes Try.prog (loopAt Try.prog 59 0) 19 0 (mkT [(0, isv n f), (1, AV.fn (Fn.func 56) [] []), (6, isv n f), (7, .i .i64 (Int.ofNat n)), (8, .i .i64 0)]) []
  (XO.exit 0) (mkT []) [] ∧ Lf) := by unfold VD VQ; kernel_rfl
noncomputable abbrev ifL (n : Nat) (f : Nat → Int) (i : Nat) : List (Nat × AV) := [(0, isv n f), (1, .fn (.func 56) [] []), (6, isv n f), (7, .i .i64 (Int.ofNat n)), (8, .i .i64 (Int.ofNat i))]
theorem if_lpF (n : Nat) (hn : n ≤ 1152921504606846976) (f : Nat → Int) (r : Int) (h : ixP (fun i => !wi (f i) 0 2) n 0 = r) (hr : r ≠ -1) : LDoes Try.prog (loopAt Try.prog 59 0) 19 0 (mkT (ifL n f 0)) [] .ret (mkT [(4, .i .i64 r)]) [] := by
  refine loop_q (fun i => (ifL n f i, [])) (fun i => n - i) (fun i => i ≤ n ∧ ixP (fun i => !wi (f i) 0 2) (n - i) i = r) (fun _ => Nat.zero_le _) ?_ 0 ⟨Nat.zero_le _, h⟩
  rintro i ⟨hi, hp⟩
  have hlt : i < n := by
    rcases Nat.lt_or_ge i n with q | q
    · exact q
    · rw [show n - i = 0 by omega] at hp
      exact absurd hp.symm hr
  have h1 : decide (Int.ofNat i < Int.ofNat n) = true := decide_eq_true (by simp; omega)
  have bi : (0 : Int) ≤ Int.ofNat i ∧ Int.ofNat i < (↑n : Int) := ⟨by simp, by simp; omega⟩
  have ri : (-9223372036854775808 : Int) ≤ Int.ofNat i + 1 ∧ Int.ofNat i + 1 ≤ (9223372036854775807 : Int) := ⟨by simp <;> omega, by simp <;> omega⟩
  rw [show n - i = (n - (i + 1)) + 1 by omega] at hp
  unfold ixP at hp
  cases h2 : !wi (f i) 0 2 with
  | true =>
    rw [h2, cond_true] at hp
    subst hp
    exact rd_out (ifT_lq (fun x => !wi x 0 2) n i f h1 h2) (by repeat' first | exact trivial | assumption | exact bi | exact ri | exact nn_con _ | exact rfl | apply And.intro) rfl rfl (.refl _) (.refl _)
  | false =>
    rw [h2, cond_false] at hp
    exact rd_nrm (ifN_lq (fun x => !wi x 0 2) n i f h1 h2) (by repeat' first | exact trivial | assumption | exact bi | exact ri | exact nn_con _ | exact rfl | apply And.intro) (i + 1) ⟨hlt, hp⟩ (by show n - (i + 1) < n - i; omega) rfl (.refl _) (.refl _)
theorem if_lpG (n : Nat) (hn : n ≤ 1152921504606846976) (f : Nat → Int) (h : ixP (fun i => !wi (f i) 0 2) n 0 = -1) : LDoes Try.prog (loopAt Try.prog 59 0) 19 0 (mkT (ifL n f 0)) [] (.exit 0) (mkT []) [] := by
  refine loop_q (fun i => (ifL n f i, [])) (fun i => n - i) (fun i => i ≤ n ∧ ixP (fun i => !wi (f i) 0 2) (n - i) i = -1) (fun _ => Nat.zero_le _) ?_ 0 ⟨Nat.zero_le _, h⟩
  rintro i ⟨hi, hp⟩
  rcases Nat.lt_or_ge i n with hlt | q
  · have h1 : decide (Int.ofNat i < Int.ofNat n) = true := decide_eq_true (by simp; omega)
    have bi : (0 : Int) ≤ Int.ofNat i ∧ Int.ofNat i < (↑n : Int) := ⟨by simp, by simp; omega⟩
    have ri : (-9223372036854775808 : Int) ≤ Int.ofNat i + 1 ∧ Int.ofNat i + 1 ≤ (9223372036854775807 : Int) := ⟨by simp <;> omega, by simp <;> omega⟩
    rw [show n - i = (n - (i + 1)) + 1 by omega] at hp
    unfold ixP at hp
    cases h2 : !wi (f i) 0 2 with
    | true =>
      rw [h2, cond_true] at hp
      simp at hp <;> omega
    | false =>
      rw [h2, cond_false] at hp
      exact rd_nrm (ifN_lq (fun x => !wi x 0 2) n i f h1 h2) (by repeat' first | exact trivial | assumption | exact bi | exact ri | exact nn_con _ | exact rfl | apply And.intro) (i + 1) ⟨hlt, hp⟩ (by show n - (i + 1) < n - i; omega) rfl (.refl _) (.refl _)
  · obtain rfl : i = n := by omega
    have h1 : decide (Int.ofNat i < Int.ofNat i) = false := decide_eq_false (by simp)
    exact rd_out (ifE_lq i f h1) (by repeat' first | exact trivial | assumption | exact rfl | apply And.intro) rfl rfl (.refl _) (.refl _)
theorem if_con (n : Nat) (hn : n ≤ 1152921504606846976) (f : Nat → Int) : Con Try.prog 59 [isv n f, .fn (.func 56) [] []] [] (.i .i64 (ixP (fun i => !wi (f i) 0 2) n 0)) [] := by
  by_cases h : ixP (fun i => !wi (f i) 0 2) n 0 = -1
  · rw [h]; exact con_d (ifg_vq ..) (by repeat' first | exact trivial | exact (if_lpG n hn f h).pre (.refl _) (.refl _) | exact if_lpG n hn f h | exact rfl | apply And.intro)
  · exact con_d (iff_vq ..) (by repeat' first | exact trivial | exact if_lpF n hn f _ rfl h | exact rfl | apply And.intro)
theorem ifc_vq (n : Nat) (f : Nat → Int) (r : Int) : VD Try.prog 55 [isv n f, .fn (.func 56) [] []] [] (Orc.cal [] (.i .i64 r) [] Orc.z) (.b (decide (0 ≤ r))) [] [] 0 (fun
  Lf => Con Try.prog 59 [isv n f, AV.fn (Fn.func 56) [] []] [] (.i .i64 r) [] ∧ Lf) := by unfold VD VQ; kernel_rfl
theorem ifc_con (n : Nat) (hn : n ≤ 1152921504606846976) (f : Nat → Int) : Con Try.prog 55 [isv n f, .fn (.func 56) [] []] [] (.b (anyP (fun i => !wi (f i) 0 2) n 0)) [] := by
  rw [← ixP_any]
  exact con_d (ifc_vq ..) (by repeat' first | exact trivial | exact if_con n hn f | exact rfl | apply And.intro)
theorem fit_vc (a : Nat → Int) (c : Cm) (w : Int → Int → Int → Bool) (an : Nat → (Nat → Int) → Bool) (V : AV) : runK Try.prog 1000000 (.call 44 [shL a, cmV c] (mkH [])) (Orc.cal
  [] (AV.b (w (Cm.sv c) (a 0) (a 1))) [] (Orc.s (Orc.t (Orc.t (Orc.t (Orc.t (Orc.cal [] (AV.b (w (Cm.bt c) (a 2) (a 3))) [] (Orc.t (Orc.s (Orc.t (Orc.t (Orc.t (Orc.t (Orc.cal []
  (AV.b (w (Cm.sq c) (a 4) (a 5))) [] (Orc.t (Orc.s (Orc.t (Orc.t (Orc.t (Orc.t (Orc.cal [] (AV.b (w (Cm.gn c) (a 6) (a 7))) [] (Orc.t (Orc.s (Orc.t (Orc.t (Orc.t (Orc.t (Orc.cal []
  (AV.b (w (Cm.lk c) (a 8) (a 9))) [] (Orc.t (Orc.s (Orc.t (Orc.t (Orc.t (Orc.t (Orc.cal [] (AV.b (w (Cm.md c) (a 10) (a 11))) [] (Orc.t (Orc.s (Orc.t (Orc.t (Orc.t (Orc.t (Orc.cal
  [] (AV.b (w (Cm.ot c) (a 12) (a 13))) [] (Orc.t (Orc.s (Orc.t (Orc.t (Orc.t (Orc.t (Orc.cal [] (AV.b (w (Cm.d c) (a 16) (a 17))) [] (Orc.t (Orc.s (Orc.t (Orc.t (Orc.t (Orc.t
  (Orc.t (Orc.cal [] (AV.b (w (Int.ofNat (Cm.mn c)) (a 14) (a 15))) [] (Orc.t (Orc.s (Orc.t (Orc.t (Orc.cal [] (AV.b (an (Cm.mn c) (Cm.mf c))) [] (Orc.t (Orc.t Orc.z))))) (Orc.f
  (Orc.f (Orc.f (Orc.f Orc.z)))))))))))) (Orc.f (Orc.f (Orc.f (Orc.f (Orc.f (Orc.f (Orc.c (Orc.c (Orc.c (Orc.c (Orc.c Orc.z)))))))))))))))))) (Orc.f (Orc.f (Orc.f (Orc.f (Orc.f
  (Orc.c (Orc.c (Orc.c (Orc.c (Orc.c (Orc.c (Orc.c (Orc.c (Orc.c (Orc.c (Orc.c (Orc.c Orc.z)))))))))))))))))))))))) (Orc.f (Orc.f (Orc.f (Orc.f (Orc.f (Orc.c (Orc.c (Orc.c (Orc.c
  (Orc.c (Orc.c (Orc.c (Orc.c (Orc.c (Orc.c (Orc.c (Orc.c (Orc.c (Orc.c (Orc.c (Orc.c (Orc.c (Orc.c Orc.z)))))))))))))))))))))))))))))) (Orc.f (Orc.f (Orc.f (Orc.f (Orc.f (Orc.c
  (Orc.c (Orc.c (Orc.c (Orc.c (Orc.c (Orc.c (Orc.c (Orc.c (Orc.c (Orc.c (Orc.c (Orc.c (Orc.c (Orc.c (Orc.c (Orc.c (Orc.c (Orc.c (Orc.c (Orc.c (Orc.c (Orc.c (Orc.c
  Orc.z)))))))))))))))))))))))))))))))))))) (Orc.f (Orc.f (Orc.f (Orc.f (Orc.f (Orc.c (Orc.c (Orc.c (Orc.c (Orc.c (Orc.c (Orc.c (Orc.c (Orc.c (Orc.c (Orc.c (Orc.c (Orc.c (Orc.c
  (Orc.c (Orc.c (Orc.c (Orc.c (Orc.c (Orc.c (Orc.c (Orc.c (Orc.c (Orc.c (Orc.c (Orc.c (Orc.c (Orc.c (Orc.c (Orc.c Orc.z)))))))))))))))))))))))))))))))))))))))))) (Orc.f (Orc.f
  (Orc.f (Orc.f (Orc.f (Orc.c (Orc.c (Orc.c (Orc.c (Orc.c (Orc.c (Orc.c (Orc.c (Orc.c (Orc.c (Orc.c (Orc.c (Orc.c (Orc.c (Orc.c (Orc.c (Orc.c (Orc.c (Orc.c (Orc.c (Orc.c (Orc.c
  (Orc.c (Orc.c (Orc.c (Orc.c (Orc.c (Orc.c (Orc.c (Orc.c (Orc.c (Orc.c (Orc.c (Orc.c (Orc.c (Orc.c Orc.z)))))))))))))))))))))))))))))))))))))))))))))))) (Orc.f (Orc.f (Orc.f (Orc.f
  (Orc.f (Orc.c (Orc.c (Orc.c (Orc.c (Orc.c (Orc.c (Orc.c (Orc.c (Orc.c (Orc.c (Orc.c (Orc.c (Orc.c (Orc.c (Orc.c (Orc.c (Orc.c (Orc.c (Orc.c (Orc.c (Orc.c (Orc.c (Orc.c (Orc.c
  (Orc.c (Orc.c (Orc.c (Orc.c (Orc.c (Orc.c (Orc.c (Orc.c (Orc.c (Orc.c (Orc.c (Orc.c (Orc.c (Orc.c (Orc.c (Orc.c (Orc.c (Orc.c
  Orc.z)))))))))))))))))))))))))))))))))))))))))))))))))))))) (Orc.f (Orc.f (Orc.f (Orc.f (Orc.f (Orc.c (Orc.c (Orc.c (Orc.c (Orc.c (Orc.c (Orc.c (Orc.c (Orc.c (Orc.c (Orc.c (Orc.c
  (Orc.c (Orc.c (Orc.c (Orc.c (Orc.c (Orc.c (Orc.c (Orc.c (Orc.c (Orc.c (Orc.c (Orc.c (Orc.c (Orc.c (Orc.c (Orc.c (Orc.c (Orc.c (Orc.c (Orc.c (Orc.c (Orc.c (Orc.c (Orc.c (Orc.c
  (Orc.c (Orc.c (Orc.c (Orc.c (Orc.c (Orc.c (Orc.c (Orc.c (Orc.c (Orc.c (Orc.c Orc.z))))))))))))))))))))))))))))))))))))))))))))))))))))))) (fun r _ => rvIs V r) = (True ∧ True ∧
  Con Try.prog 54 [AV.agg [AV.i IntKind.i64 (a 0), AV.i IntKind.i64 (a 1)], AV.i IntKind.i64 (Cm.sv c)] [] (AV.b (w (Cm.sv c) (a 0) (a 1))) [] ∧ (w (Cm.sv c) (a 0) (a 1) = true →
  True ∧ w (Cm.sv c) (a 0) (a 1) = true ∧ w (Cm.sv c) (a 0) (a 1) = true ∧ True ∧ w (Cm.sv c) (a 0) (a 1) = true ∧ w (Cm.sv c) (a 0) (a 1) = true ∧ Con Try.prog 54 [AV.agg [AV.i
  IntKind.i64 (a 2), AV.i IntKind.i64 (a 3)], AV.i IntKind.i64 (Cm.bt c)] [] (AV.b (w (Cm.bt c) (a 2) (a 3))) [] ∧ w (Cm.sv c) (a 0) (a 1) = true ∧ (w (Cm.bt c) (a 2) (a 3) = true →
  True ∧ w (Cm.bt c) (a 2) (a 3) = true ∧ w (Cm.bt c) (a 2) (a 3) = true ∧ True ∧ w (Cm.bt c) (a 2) (a 3) = true ∧ w (Cm.bt c) (a 2) (a 3) = true ∧ Con Try.prog 54 [AV.agg [AV.i
  IntKind.i64 (a 4), AV.i IntKind.i64 (a 5)], AV.i IntKind.i64 (Cm.sq c)] [] (AV.b (w (Cm.sq c) (a 4) (a 5))) [] ∧ w (Cm.bt c) (a 2) (a 3) = true ∧ (w (Cm.sq c) (a 4) (a 5) = true →
  True ∧ w (Cm.sq c) (a 4) (a 5) = true ∧ w (Cm.sq c) (a 4) (a 5) = true ∧ True ∧ w (Cm.sq c) (a 4) (a 5) = true ∧ w (Cm.sq c) (a 4) (a 5) = true ∧ Con Try.prog 54 [AV.agg [AV.i
  IntKind.i64 (a 6), AV.i IntKind.i64 (a 7)], AV.i IntKind.i64 (Cm.gn c)] [] (AV.b (w (Cm.gn c) (a 6) (a 7))) [] ∧ w (Cm.sq c) (a 4) (a 5) = true ∧ (w (Cm.gn c) (a 6) (a 7) = true →
  True ∧ w (Cm.gn c) (a 6) (a 7) = true ∧ w (Cm.gn c) (a 6) (a 7) = true ∧ True ∧ w (Cm.gn c) (a 6) (a 7) = true ∧ w (Cm.gn c) (a 6) (a 7) = true ∧ Con Try.prog 54 [AV.agg [AV.i
  IntKind.i64 (a 8), AV.i IntKind.i64 (a 9)], AV.i IntKind.i64 (Cm.lk c)] [] (AV.b (w (Cm.lk c) (a 8) (a 9))) [] ∧ w (Cm.gn c) (a 6) (a 7) = true ∧ (w (Cm.lk c) (a 8) (a 9) = true →
  True ∧ w (Cm.lk c) (a 8) (a 9) = true ∧ w (Cm.lk c) (a 8) (a 9) = true ∧ True ∧ w (Cm.lk c) (a 8) (a 9) = true ∧ w (Cm.lk c) (a 8) (a 9) = true ∧ Con Try.prog 54 [AV.agg [AV.i
  IntKind.i64 (a 10), AV.i IntKind.i64 (a 11)], AV.i IntKind.i64 (Cm.md c)] [] (AV.b (w (Cm.md c) (a 10) (a 11))) [] ∧ w (Cm.lk c) (a 8) (a 9) = true ∧ (w (Cm.md c) (a 10) (a 11) =
  true → True ∧ w (Cm.md c) (a 10) (a 11) = true ∧ w (Cm.md c) (a 10) (a 11) = true ∧ True ∧ w (Cm.md c) (a 10) (a 11) = true ∧ w (Cm.md c) (a 10) (a 11) = true ∧ Con Try.prog 54
  [AV.agg [AV.i IntKind.i64 (a 12), AV.i IntKind.i64 (a 13)], AV.i IntKind.i64 (Cm.ot c)] [] (AV.b (w (Cm.ot c) (a 12) (a 13))) [] ∧ w (Cm.md c) (a 10) (a 11) = true ∧ (w (Cm.ot c)
  (a 12) (a 13) = true → True ∧ w (Cm.ot c) (a 12) (a 13) = true ∧ w (Cm.ot c) (a 12) (a 13) = true ∧ True ∧ w (Cm.ot c) (a 12) (a 13) = true ∧ w (Cm.ot c) (a 12) (a 13) = true ∧
  Con Try.prog 54 [AV.agg [AV.i IntKind.i64 (a 16), AV.i IntKind.i64 (a 17)], AV.i IntKind.i64 (Cm.d c)] [] (AV.b (w (Cm.d c) (a 16) (a 17))) [] ∧ w (Cm.ot c) (a 12) (a 13) = true
  ∧ (w (Cm.d c) (a 16) (a 17) = true → True ∧ w (Cm.d c) (a 16) (a 17) = true ∧ w (Cm.d c) (a 16) (a 17) = true ∧ True ∧ w (Cm.d c) (a 16) (a 17) = true ∧ w (Cm.d c) (a 16) (a 17) =
  true ∧ w (Cm.d c) (a 16) (a 17) = true ∧ Con Try.prog 54 [AV.agg [AV.i IntKind.i64 (a 14), AV.i IntKind.i64 (a 15)], AV.i IntKind.i64 (Int.ofNat (Cm.mn c))] [] (AV.b (w
  (Int.ofNat (Cm.mn c)) (a 14) (a 15))) [] ∧ w (Cm.d c) (a 16) (a 17) = true ∧ (w (Int.ofNat (Cm.mn c)) (a 14) (a 15) = true → True ∧ w (Int.ofNat (Cm.mn c)) (a 14) (a 15) = true ∧
  w (Int.ofNat (Cm.mn c)) (a 14) (a 15) = true ∧ Con Try.prog 55 [isv (Cm.mn c) (Cm.mf c), AV.fn (Fn.func 56) [] []] [] (AV.b (an (Cm.mn c) (Cm.mf c))) [] ∧ w (Int.ofNat (Cm.mn
  c)) (a 14) (a 15) = true ∧ True ∧ w (Int.ofNat (Cm.mn c)) (a 14) (a 15) = true ∧ (AV.b !an (Cm.mn c) (Cm.mf c)) = V) ∧ (w (Int.ofNat (Cm.mn c)) (a 14) (a 15) = false → w
  (Int.ofNat (Cm.mn c)) (a 14) (a 15) = false ∧ w (Int.ofNat (Cm.mn c)) (a 14) (a 15) = false ∧ w (Int.ofNat (Cm.mn c)) (a 14) (a 15) = false ∧ w (Int.ofNat (Cm.mn c)) (a 14) (a 15)
  = false ∧ (AV.b false) = V)) ∧ (w (Cm.d c) (a 16) (a 17) = false → w (Cm.d c) (a 16) (a 17) = false ∧ w (Cm.d c) (a 16) (a 17) = false ∧ w (Cm.d c) (a 16) (a 17) = false ∧ w (Cm.d
  c) (a 16) (a 17) = false ∧ w (Cm.d c) (a 16) (a 17) = false ∧ w (Cm.d c) (a 16) (a 17) = false ∧ (AV.b false) = V)) ∧ (w (Cm.ot c) (a 12) (a 13) = false → w (Cm.ot c) (a 12) (a
  13) = false ∧ w (Cm.ot c) (a 12) (a 13) = false ∧ w (Cm.ot c) (a 12) (a 13) = false ∧ w (Cm.ot c) (a 12) (a 13) = false ∧ w (Cm.ot c) (a 12) (a 13) = false ∧ (AV.b false) = V)) ∧
  (w (Cm.md c) (a 10) (a 11) = false → w (Cm.md c) (a 10) (a 11) = false ∧ w (Cm.md c) (a 10) (a 11) = false ∧ w (Cm.md c) (a 10) (a 11) = false ∧ w (Cm.md c) (a 10) (a 11) = false
  ∧ w (Cm.md c) (a 10) (a 11) = false ∧ (AV.b false) = V)) ∧ (w (Cm.lk c) (a 8) (a 9) = false → w (Cm.lk c) (a 8) (a 9) = false ∧ w (Cm.lk c) (a 8) (a 9) = false ∧ w (Cm.lk c) (a 8)
  (a 9) = false ∧ w (Cm.lk c) (a 8) (a 9) = false ∧ w (Cm.lk c) (a 8) (a 9) = false ∧ (AV.b false) = V)) ∧ (w (Cm.gn c) (a 6) (a 7) = false → w (Cm.gn c) (a 6) (a 7) = false ∧ w
  (Cm.gn c) (a 6) (a 7) = false ∧ w (Cm.gn c) (a 6) (a 7) = false ∧ w (Cm.gn c) (a 6) (a 7) = false ∧ w (Cm.gn c) (a 6) (a 7) = false ∧ (AV.b false) = V)) ∧ (w (Cm.sq c) (a 4) (a 5)
  = false → w (Cm.sq c) (a 4) (a 5) = false ∧ w (Cm.sq c) (a 4) (a 5) = false ∧ w (Cm.sq c) (a 4) (a 5) = false ∧ w (Cm.sq c) (a 4) (a 5) = false ∧ w (Cm.sq c) (a 4) (a 5) = false ∧
  (AV.b false) = V)) ∧ (w (Cm.bt c) (a 2) (a 3) = false → w (Cm.bt c) (a 2) (a 3) = false ∧ w (Cm.bt c) (a 2) (a 3) = false ∧ w (Cm.bt c) (a 2) (a 3) = false ∧ w (Cm.bt c) (a 2) (a
  3) = false ∧ w (Cm.bt c) (a 2) (a 3) = false ∧ (AV.b false) = V)) ∧ (w (Cm.sv c) (a 0) (a 1) = false → w (Cm.sv c) (a 0) (a 1) = false ∧ w (Cm.sv c) (a 0) (a 1) = false ∧ w (Cm.sv
  c) (a 0) (a 1) = false ∧ w (Cm.sv c) (a 0) (a 1) = false ∧ w (Cm.sv c) (a 0) (a 1) = false ∧ (AV.b false) = V)) := by kernel_rfl
theorem vcm_vc (a : Nat → Int) (kd : Bool) (c : Cm) (ft : Bool) (V : AV) : runK Try.prog 1000000 (.call 23 [cmV c] (mkH [])) (Orc.cal [] (AV.tup [shL a, AV.b kd]) [] (Orc.s (Orc.t
  (Orc.t (Orc.cal [] (AV.b ft) [] (Orc.t Orc.z)))) (Orc.f (Orc.f (Orc.f Orc.z))))) (fun r _ => rvIs V r) = (True ∧ Con Try.prog 43 [AV.i IntKind.i64 (Cm.k c)] [] (AV.tup [shL a,
  AV.b kd]) [] ∧ (kd = true → kd = true ∧ kd = true ∧ Con Try.prog 44 [shL a, cmV c] [] (AV.b ft) [] ∧ kd = true ∧ (AV.b ft) = V) ∧ (kd = false → kd = false ∧ kd = false ∧ kd =
  false ∧ (AV.b false) = V)) := by kernel_rfl
theorem shA_vc (k : Int) (h1 : decide (k = 1) = false) (h2 : decide (k = 2) = false) (h3 : decide (k = 3) = false) (h4 : decide (k = 4) = false) (h5 : decide (k = 5) = false) (h6 :
  decide (k = 6) = false) (h7 : decide (k = 7) = false) (h8 : decide (k = 8) = false) (V : AV) : runK Try.prog 1000000 (.call 43 [.i .i64 k] (mkH [])) (Orc.f (Orc.f (Orc.f (Orc.f
  (Orc.f (Orc.f (Orc.f (Orc.f Orc.z)))))))) (fun r _ => rvIs V r) = (decide (k = (1 : Int)) = false ∧ decide (k = (2 : Int)) = false ∧ decide (k = (3 : Int)) = false ∧ decide (k =
  (4 : Int)) = false ∧ decide (k = (5 : Int)) = false ∧ decide (k = (6 : Int)) = false ∧ decide (k = (7 : Int)) = false ∧ decide (k = (8 : Int)) = false ∧ (AV.tup [AV.agg [AV.i
  IntKind.i64 (0 : Int), AV.i IntKind.i64 (0 : Int), AV.i IntKind.i64 (0 : Int), AV.i IntKind.i64 (0 : Int), AV.i IntKind.i64 (0 : Int), AV.i IntKind.i64 (0 : Int), AV.i IntKind.i64
  (0 : Int), AV.i IntKind.i64 (0 : Int), AV.i IntKind.i64 (0 : Int), AV.i IntKind.i64 (0 : Int), AV.i IntKind.i64 (0 : Int), AV.i IntKind.i64 (0 : Int), AV.i IntKind.i64 (0 : Int),
  AV.i IntKind.i64 (0 : Int), AV.i IntKind.i64 (0 : Int), AV.i IntKind.i64 (0 : Int), AV.i IntKind.i64 (0 : Int), AV.i IntKind.i64 (0 : Int)], AV.b false]) = V) := by kernel_rfl
theorem sh1_vc (V : AV) : runK Try.prog 1000000 (.call 43 [.i .i64 1] (mkH [])) (Orc.c Orc.z) (fun r _ => rvIs V r) = (True ∧ (AV.tup [AV.agg [AV.i IntKind.i64 (0 : Int), AV.i
  IntKind.i64 (2 : Int), AV.i IntKind.i64 (1 : Int), AV.i IntKind.i64 (1099511627776 : Int), AV.i IntKind.i64 (1 : Int), AV.i IntKind.i64 (1099511627776 : Int), AV.i IntKind.i64 (0
  : Int), AV.i IntKind.i64 (0 : Int), AV.i IntKind.i64 (0 : Int), AV.i IntKind.i64 (0 : Int), AV.i IntKind.i64 (0 : Int), AV.i IntKind.i64 (0 : Int), AV.i IntKind.i64 (0 : Int),
  AV.i IntKind.i64 (0 : Int), AV.i IntKind.i64 (0 : Int), AV.i IntKind.i64 (0 : Int), AV.i IntKind.i64 (0 : Int), AV.i IntKind.i64 (1048576 : Int)], AV.b true]) = V) := by
  kernel_rfl
theorem sh2_vc (V : AV) : runK Try.prog 1000000 (.call 43 [.i .i64 2] (mkH [])) (Orc.c (Orc.c Orc.z)) (fun r _ => rvIs V r) = ((AV.tup [AV.agg [AV.i IntKind.i64 (0 : Int), AV.i
  IntKind.i64 (2 : Int), AV.i IntKind.i64 (1 : Int), AV.i IntKind.i64 (1099511627776 : Int), AV.i IntKind.i64 (1 : Int), AV.i IntKind.i64 (1099511627776 : Int), AV.i IntKind.i64 (0
  : Int), AV.i IntKind.i64 (1099511627776 : Int), AV.i IntKind.i64 (0 : Int), AV.i IntKind.i64 (0 : Int), AV.i IntKind.i64 (0 : Int), AV.i IntKind.i64 (0 : Int), AV.i IntKind.i64 (0
  : Int), AV.i IntKind.i64 (0 : Int), AV.i IntKind.i64 (0 : Int), AV.i IntKind.i64 (0 : Int), AV.i IntKind.i64 (0 : Int), AV.i IntKind.i64 (1048576 : Int)], AV.b true]) = V) := by
  kernel_rfl
theorem sh3_vc (V : AV) : runK Try.prog 1000000 (.call 43 [.i .i64 3] (mkH [])) (Orc.c (Orc.c (Orc.c Orc.z))) (fun r _ => rvIs V r) = (True ∧ True ∧ (AV.tup [AV.agg [AV.i
  IntKind.i64 (0 : Int), AV.i IntKind.i64 (2 : Int), AV.i IntKind.i64 (1 : Int), AV.i IntKind.i64 (1099511627776 : Int), AV.i IntKind.i64 (1 : Int), AV.i IntKind.i64 (1099511627776
  : Int), AV.i IntKind.i64 (0 : Int), AV.i IntKind.i64 (1099511627776 : Int), AV.i IntKind.i64 (0 : Int), AV.i IntKind.i64 (18 : Int), AV.i IntKind.i64 (1 : Int), AV.i IntKind.i64
  (2 : Int), AV.i IntKind.i64 (0 : Int), AV.i IntKind.i64 (0 : Int), AV.i IntKind.i64 (0 : Int), AV.i IntKind.i64 (0 : Int), AV.i IntKind.i64 (0 : Int), AV.i IntKind.i64 (1048576 :
  Int)], AV.b true]) = V) := by kernel_rfl
theorem sh4_vc (V : AV) : runK Try.prog 1000000 (.call 43 [.i .i64 4] (mkH [])) (Orc.c (Orc.c (Orc.c (Orc.c Orc.z)))) (fun r _ => rvIs V r) = (True ∧ (AV.tup [AV.agg [AV.i
  IntKind.i64 (0 : Int), AV.i IntKind.i64 (2 : Int), AV.i IntKind.i64 (1 : Int), AV.i IntKind.i64 (1099511627776 : Int), AV.i IntKind.i64 (1 : Int), AV.i IntKind.i64 (1099511627776
  : Int), AV.i IntKind.i64 (0 : Int), AV.i IntKind.i64 (1099511627776 : Int), AV.i IntKind.i64 (0 : Int), AV.i IntKind.i64 (18 : Int), AV.i IntKind.i64 (0 : Int), AV.i IntKind.i64
  (0 : Int), AV.i IntKind.i64 (0 : Int), AV.i IntKind.i64 (0 : Int), AV.i IntKind.i64 (0 : Int), AV.i IntKind.i64 (0 : Int), AV.i IntKind.i64 (0 : Int), AV.i IntKind.i64 (1048576 :
  Int)], AV.b true]) = V) := by kernel_rfl
theorem sh5_vc (V : AV) : runK Try.prog 1000000 (.call 43 [.i .i64 5] (mkH [])) (Orc.c (Orc.c (Orc.c (Orc.c (Orc.c (Orc.c Orc.z)))))) (fun r _ => rvIs V r) = (True ∧ (AV.tup
  [AV.agg [AV.i IntKind.i64 (0 : Int), AV.i IntKind.i64 (2 : Int), AV.i IntKind.i64 (1 : Int), AV.i IntKind.i64 (1099511627776 : Int), AV.i IntKind.i64 (1 : Int), AV.i IntKind.i64
  (1099511627776 : Int), AV.i IntKind.i64 (0 : Int), AV.i IntKind.i64 (1099511627776 : Int), AV.i IntKind.i64 (0 : Int), AV.i IntKind.i64 (0 : Int), AV.i IntKind.i64 (0 : Int), AV.i
  IntKind.i64 (0 : Int), AV.i IntKind.i64 (0 : Int), AV.i IntKind.i64 (2 : Int), AV.i IntKind.i64 (0 : Int), AV.i IntKind.i64 (0 : Int), AV.i IntKind.i64 (0 : Int), AV.i IntKind.i64
  (1048576 : Int)], AV.b true]) = V) := by kernel_rfl
theorem sh6_vc (V : AV) : runK Try.prog 1000000 (.call 43 [.i .i64 6] (mkH [])) (Orc.c (Orc.c (Orc.c (Orc.c (Orc.c (Orc.c Orc.z)))))) (fun r _ => rvIs V r) = (True ∧ (AV.tup
  [AV.agg [AV.i IntKind.i64 (0 : Int), AV.i IntKind.i64 (2 : Int), AV.i IntKind.i64 (1 : Int), AV.i IntKind.i64 (1099511627776 : Int), AV.i IntKind.i64 (1 : Int), AV.i IntKind.i64
  (1099511627776 : Int), AV.i IntKind.i64 (0 : Int), AV.i IntKind.i64 (1099511627776 : Int), AV.i IntKind.i64 (0 : Int), AV.i IntKind.i64 (0 : Int), AV.i IntKind.i64 (0 : Int), AV.i
  IntKind.i64 (0 : Int), AV.i IntKind.i64 (0 : Int), AV.i IntKind.i64 (2 : Int), AV.i IntKind.i64 (0 : Int), AV.i IntKind.i64 (0 : Int), AV.i IntKind.i64 (0 : Int), AV.i IntKind.i64
  (1048576 : Int)], AV.b true]) = V) := by kernel_rfl
theorem sh7_vc (V : AV) : runK Try.prog 1000000 (.call 43 [.i .i64 7] (mkH [])) (Orc.c (Orc.c (Orc.c (Orc.c (Orc.c (Orc.c (Orc.c Orc.z))))))) (fun r _ => rvIs V r) = (True ∧
  (AV.tup [AV.agg [AV.i IntKind.i64 (0 : Int), AV.i IntKind.i64 (2 : Int), AV.i IntKind.i64 (1 : Int), AV.i IntKind.i64 (1099511627776 : Int), AV.i IntKind.i64 (1 : Int), AV.i
  IntKind.i64 (1099511627776 : Int), AV.i IntKind.i64 (0 : Int), AV.i IntKind.i64 (1099511627776 : Int), AV.i IntKind.i64 (0 : Int), AV.i IntKind.i64 (0 : Int), AV.i IntKind.i64 (0
  : Int), AV.i IntKind.i64 (0 : Int), AV.i IntKind.i64 (0 : Int), AV.i IntKind.i64 (0 : Int), AV.i IntKind.i64 (1 : Int), AV.i IntKind.i64 (3 : Int), AV.i IntKind.i64 (0 : Int),
  AV.i IntKind.i64 (1048576 : Int)], AV.b true]) = V) := by kernel_rfl
theorem sh8_vc (V : AV) : runK Try.prog 1000000 (.call 43 [.i .i64 8] (mkH [])) (Orc.c (Orc.c (Orc.c (Orc.c (Orc.c (Orc.c (Orc.c (Orc.c Orc.z)))))))) (fun r _ => rvIs V r) =
  ((AV.tup [AV.agg [AV.i IntKind.i64 (0 : Int), AV.i IntKind.i64 (0 : Int), AV.i IntKind.i64 (0 : Int), AV.i IntKind.i64 (0 : Int), AV.i IntKind.i64 (0 : Int), AV.i IntKind.i64 (0 :
  Int), AV.i IntKind.i64 (0 : Int), AV.i IntKind.i64 (0 : Int), AV.i IntKind.i64 (0 : Int), AV.i IntKind.i64 (0 : Int), AV.i IntKind.i64 (0 : Int), AV.i IntKind.i64 (0 : Int), AV.i
  IntKind.i64 (0 : Int), AV.i IntKind.i64 (0 : Int), AV.i IntKind.i64 (0 : Int), AV.i IntKind.i64 (0 : Int), AV.i IntKind.i64 (1 : Int), AV.i IntKind.i64 (1048576 : Int)], AV.b
  true]) = V) := by kernel_rfl
def anM (n : Nat) (f : Nat → Int) : Bool := anyP (fun i => !wi (f i) 0 2) n 0
theorem fit_con (a : Nat → Int) (c : Cm) (h : c.mn ≤ 1152921504606846976) : Con Try.prog 44 [shL a, cmV c] [] (.b (fitB a c)) [] := by
  refine con_pureX (fit_vc a c wi anM _) rfl ?_
  repeat' first | exact trivial | assumption | exact has_con _ _ _ | exact ifc_con _ h _ | apply And.intro | intro _
  all_goals (simp_all [fitB, anM])
theorem sh_con (k : Int) : Con Try.prog 43 [.i .i64 k] [] (.tup [shL (shA k), .b (kdB k)]) [] := by
  by_cases h1 : k = 1
  · subst h1; exact con_pureX (sh1_vc _) (by kernel_rfl) (by repeat' first | exact trivial | kernel_rfl | apply And.intro)
  by_cases h2 : k = 2
  · subst h2; exact con_pureX (sh2_vc _) (by kernel_rfl) (by repeat' first | exact trivial | kernel_rfl | apply And.intro)
  by_cases h3 : k = 3
  · subst h3; exact con_pureX (sh3_vc _) (by kernel_rfl) (by repeat' first | exact trivial | kernel_rfl | apply And.intro)
  by_cases h4 : k = 4
  · subst h4; exact con_pureX (sh4_vc _) (by kernel_rfl) (by repeat' first | exact trivial | kernel_rfl | apply And.intro)
  by_cases h5 : k = 5
  · subst h5; exact con_pureX (sh5_vc _) (by kernel_rfl) (by repeat' first | exact trivial | kernel_rfl | apply And.intro)
  by_cases h6 : k = 6
  · subst h6; exact con_pureX (sh6_vc _) (by kernel_rfl) (by repeat' first | exact trivial | kernel_rfl | apply And.intro)
  by_cases h7 : k = 7
  · subst h7; exact con_pureX (sh7_vc _) (by kernel_rfl) (by repeat' first | exact trivial | kernel_rfl | apply And.intro)
  by_cases h8 : k = 8
  · subst h8; exact con_pureX (sh8_vc _) (by kernel_rfl) (by repeat' first | exact trivial | kernel_rfl | apply And.intro)
  have d1 := decide_eq_false h1
  have d2 := decide_eq_false h2
  have d3 := decide_eq_false h3
  have d4 := decide_eq_false h4
  have d5 := decide_eq_false h5
  have d6 := decide_eq_false h6
  have d7 := decide_eq_false h7
  have d8 := decide_eq_false h8
  refine con_pureX (shA_vc k d1 d2 d3 d4 d5 d6 d7 d8 _) rfl ?_
  have hk : kdB k = false := by
    unfold kdB wi
    by_cases q : 1 ≤ k
    · rw [show decide (k ≤ 8) = false from decide_eq_false (by omega)]; simp
    · rw [show decide (1 ≤ k) = false from decide_eq_false q]; rfl
  have hs : shT k = [0, 0, 0, 0, 0, 0, 0, 0, 0, 0, 0, 0, 0, 0, 0, 0, 0, 0] := by
    unfold shT; rw [if_neg h1, if_neg h2, if_neg h3, if_neg h4, if_neg h5, if_neg h6, if_neg h7, if_neg h8]
  repeat' first | exact trivial | assumption | (unfold shL shA; rw [hs, hk]; rfl) | apply And.intro
theorem vcm_con (c : Cm) (h : c.mn ≤ 1152921504606846976) : Con Try.prog 23 [cmV c] [] (.b (vcB c)) [] := by
  refine con_pureX (vcm_vc (shA c.k) (kdB c.k) c (fitB (shA c.k) c) _) rfl ?_
  repeat' first | exact trivial | assumption | exact sh_con _ | exact fit_con _ _ h | apply And.intro | intro _
  all_goals (simp_all [vcB])
end Go.Proofs.Sv
namespace Go.Proofs.Ck
open Go Go.Sim Go.Proofs Go.Proofs.Lk Go.Proofs.Sv Go.Proofs.Ytgggnjjhfkijfaa
noncomputable abbrev nwL (s b p : Int) : List AV := [.i .i64 s, .i .i64 b, .i .i64 p, .i .i64 0, .i .i64 0, .b false, .i .i64 0, .i .i64 0, .i .i64 0, .i .i64 0, .i .i64 0, .i .i64 0, .i .i64 0, .i .i64 0, .l0, .i .i64 0, .i .i64 0, .i .i64 0]
theorem wt_vq (n a b : Int) (h : decide (a ≤ n) = true) : VD Try.prog 26 [.i .i64 n, .i .i64 a, .i .i64 b] [] (Orc.t (Orc.t (Orc.t (Orc.t Orc.z)))) (.b (decide (n ≤ b))) [] []
  0 (fun Lf => decide (a ≤ n) = true ∧ decide (a ≤ n) = true ∧ decide (a ≤ n) = true ∧ decide (a ≤ n) = true ∧ Lf) := by unfold VD VQ; kernel_rfl
theorem wf_vq (n a b : Int) (h : decide (a ≤ n) = false) : VD Try.prog 26 [.i .i64 n, .i .i64 a, .i .i64 b] [] (Orc.f (Orc.f (Orc.f (Orc.f Orc.z)))) (.b false) [] [] 0 (fun Lf
  => decide (a ≤ n) = false ∧ decide (a ≤ n) = false ∧ decide (a ≤ n) = false ∧ decide (a ≤ n) = false ∧ Lf) := by unfold VD VQ; kernel_rfl
theorem tmA_vq (n : Int) (h : decide (0 ≤ n) = true) (h2 : decide (n ≤ 4503599627370496) = true) : VD Try.prog 45 [.i .i64 n] [] (Orc.inl (Orc.inl (oc 6 (Orc.inl (Orc.inl
  (Orc.t (Orc.t (Orc.t (Orc.t (Orc.t (Orc.inl (Orc.t (Orc.t (Orc.t (Orc.t (Orc.f (Orc.f (Orc.t (oc 3 Orc.z))))))))))))))))))) (.b true) [] [] 0 (fun Lf => decide (0 ≤ n) = true
  ∧ decide (0 ≤ n) = true ∧ decide (0 ≤ n) = true ∧ True ∧ (!!decide (n ≤ 4503599627370496)) = true ∧ (!!decide (n ≤ 4503599627370496)) = true ∧ decide (0 ≤ n) = true ∧ decide
  (0 ≤ n) = true ∧ decide (0 ≤ n) = true ∧ (!!decide (n ≤ 4503599627370496)) = true ∧ True ∧ (!decide (n ≤ 4503599627370496)) = false ∧ (!decide (n ≤ 4503599627370496)) = false
  ∧ decide (n = n) = true ∧ Lf) := by unfold VD VQ; kernel_rfl
theorem tmB_vq (n : Int) (h : decide (0 ≤ n) = true) (h2 : decide (n ≤ 4503599627370496) = false) : VD Try.prog 45 [.i .i64 n] [] (Orc.inl (Orc.inl (oc 6 (Orc.inl (Orc.inl
  (Orc.t (Orc.t (Orc.t (Orc.f (Orc.f (Orc.f (Orc.t (oc 4 Orc.z))))))))))))) (.b false) [] [] 0 (fun Lf => decide (0 ≤ n) = true ∧ decide (0 ≤ n) = true ∧ decide (0 ≤ n) = true
  ∧ True ∧ (!!decide (n ≤ 4503599627370496)) = false ∧ (!!decide (n ≤ 4503599627370496)) = false ∧ (!!decide (n ≤ 4503599627370496)) = false ∧ (!decide (n ≤ 4503599627370496))
  = true ∧ Lf) := by unfold VD VQ; kernel_rfl
theorem tmC_vq (n : Int) (h : decide (0 ≤ n) = false) : VD Try.prog 45 [.i .i64 n] [] (Orc.inl (Orc.inl (oc 6 (Orc.inl (Orc.inl (Orc.f (Orc.f (Orc.f (oc 8 Orc.z))))))))) (.b
  false) [] [] 0 (fun Lf => decide (0 ≤ n) = false ∧ decide (0 ≤ n) = false ∧ decide (0 ≤ n) = false ∧ True ∧ Lf) := by unfold VD VQ; kernel_rfl
theorem nwA_vq (w : Int → Int → Int → Bool) (s b p : Int) (h : w s 0 2 = false) : VD Try.prog 8 [.i .i64 s, .i .i64 b, .i .i64 p] [] (Orc.cal [] (.b (w s 0 2)) [] (Orc.f (Orc.f
  (Orc.f (Orc.t (oc 5 Orc.z)))))) (.tup [.p0, .i .i64 2]) [] [] 0 (fun Lf => Con Try.prog 26 [.i .i64 s, .i .i64 0, .i .i64 2] [] (.b (w s 0 2)) [] ∧ True ∧ (!!w s 0 2) = false
  ∧ (!!w s 0 2) = false ∧ (!!w s 0 2) = false ∧ (!w s 0 2) = true ∧ Lf) := by unfold VD VQ; kernel_rfl
theorem nwB_vq (w : Int → Int → Int → Bool) (s b p : Int) (h : w s 0 2 = true) (h2 : w b 1 1099511627776 = false) : VD Try.prog 8 [.i .i64 s, .i .i64 b, .i .i64 p] [] (Orc.cal
  [] (.b (w s 0 2)) [] (Orc.t (Orc.t (Orc.cal [] (.b (w b 1 1099511627776)) [] (Orc.t (Orc.f (Orc.f (Orc.f (Orc.f (Orc.t (Orc.c Orc.z))))))))))) (.tup [.p0, .i .i64 2]) [] [] 0
  (fun Lf => Con Try.prog 26 [.i .i64 s, .i .i64 0, .i .i64 2] [] (.b (w s 0 2)) [] ∧ True ∧ (!!w s 0 2) = true ∧ (!!w s 0 2) = true ∧ Con Try.prog 26 [.i .i64 b, .i .i64 1, .i
  .i64 1099511627776] [] (.b (w b 1 1099511627776)) [] ∧ (!!w s 0 2) = true ∧ True ∧ (!w s 0 2) = false ∧ (!!w b 1 1099511627776) = false ∧ (!!w b 1 1099511627776) = false ∧
  (!!w b 1 1099511627776) = false ∧ (!w b 1 1099511627776) = true ∧ Lf) := by unfold VD VQ; kernel_rfl
theorem nwC_vq (w : Int → Int → Int → Bool) (s b p : Int) (h : w s 0 2 = true) (h2 : w b 1 1099511627776 = true) (h3 : w p 1 3 = false) : VD Try.prog 8 [.i .i64 s, .i .i64 b,
  .i .i64 p] [] (Orc.cal [] (.b (w s 0 2)) [] (Orc.t (Orc.t (Orc.cal [] (.b (w b 1 1099511627776)) [] (Orc.t (Orc.f (Orc.t (Orc.t (Orc.cal [] (.b (w p 1 3)) [] (Orc.t (Orc.f
  (Orc.t Orc.z)))))))))))) (.tup [.p0, .i .i64 2]) [] [] 0 (fun Lf => Con Try.prog 26 [.i .i64 s, .i .i64 0, .i .i64 2] [] (.b (w s 0 2)) [] ∧ True ∧ (!!w s 0 2) = true ∧ (!!w
  s 0 2) = true ∧ Con Try.prog 26 [.i .i64 b, .i .i64 1, .i .i64 1099511627776] [] (.b (w b 1 1099511627776)) [] ∧ (!!w s 0 2) = true ∧ True ∧ (!w s 0 2) = false ∧ (!!w b 1
  1099511627776) = true ∧ (!!w b 1 1099511627776) = true ∧ Con Try.prog 26 [.i .i64 p, .i .i64 1, .i .i64 3] [] (.b (w p 1 3)) [] ∧ (!!w b 1 1099511627776) = true ∧ True ∧ (!w
  b 1 1099511627776) = false ∧ (!w p 1 3) = true ∧ Lf) := by unfold VD VQ; kernel_rfl
theorem nwD_vq (w : Int → Int → Int → Bool) (s b p : Int) (h : w s 0 2 = true) (h2 : w b 1 1099511627776 = true) (h3 : w p 1 3 = true) : VD Try.prog 8 [.i .i64 s, .i .i64 b, .i
  .i64 p] [] (Orc.cal [] (.b (w s 0 2)) [] (Orc.t (Orc.t (Orc.cal [] (.b (w b 1 1099511627776)) [] (Orc.t (Orc.f (Orc.t (Orc.t (Orc.cal [] (.b (w p 1 3)) [] (Orc.t (Orc.f
  (Orc.f Orc.z)))))))))))) (.tup [.p 0 0, .i .i64 0]) [.set (cellsO 80 (nwL s b p))] [0] 1 (fun Lf => Con Try.prog 26 [.i .i64 s, .i .i64 0, .i .i64 2] [] (.b (w s 0 2)) [] ∧
  True ∧ (!!w s 0 2) = true ∧ (!!w s 0 2) = true ∧ Con Try.prog 26 [.i .i64 b, .i .i64 1, .i .i64 1099511627776] [] (.b (w b 1 1099511627776)) [] ∧ (!!w s 0 2) = true ∧ True ∧
  (!w s 0 2) = false ∧ (!!w b 1 1099511627776) = true ∧ (!!w b 1 1099511627776) = true ∧ Con Try.prog 26 [.i .i64 p, .i .i64 1, .i .i64 3] [] (.b (w p 1 3)) [] ∧ (!!w b 1
  1099511627776) = true ∧ True ∧ (!w b 1 1099511627776) = false ∧ (!w p 1 3) = false ∧ Lf) := by unfold VD VQ; kernel_rfl
theorem fa0_vq (w : Int → Int → Int → Bool) (x : Cl) (n : Int) (h : w n 0 4503599627370496 = true) : VD Try.prog 27 [.p 0 0, .i .i64 n] [some (clO x)] (Orc.c (Orc.cal [] (.b (w
  n 0 4503599627370496)) [] (Orc.f Orc.z))) (.i .i64 0) [.keep] [] 1 (fun Lf => True ∧ Con Try.prog 45 [.i .i64 n] [] (.b (w n 0 4503599627370496)) [] ∧ True ∧ (!w n 0
  4503599627370496) = false ∧ Lf) := by unfold VD VQ; kernel_rfl
theorem fa2_vq (w : Int → Int → Int → Bool) (x : Cl) (n : Int) (h : w n 0 4503599627370496 = false) : VD Try.prog 27 [.p 0 0, .i .i64 n] [some (clO x)] (Orc.c (Orc.cal [] (.b
  (w n 0 4503599627370496)) [] (Orc.t Orc.z))) (.i .i64 2) [.keep] [] 1 (fun Lf => True ∧ Con Try.prog 45 [.i .i64 n] [] (.b (w n 0 4503599627370496)) [] ∧ True ∧ (!w n 0
  4503599627370496) = true ∧ Lf) := by unfold VD VQ; kernel_rfl
theorem np1_vq (x : Cl) (h : decide (x.q + 1 < x.p) = true) : VD Try.prog 32 [.p 0 0] [some (clO x)] (Orc.t Orc.z) (.i .i64 (Cl.q x + 1)) [.keep] [] 1 (fun Lf => True ∧ rg
  (Cl.q x + 1) ∧ True ∧ decide (Cl.q x + 1 < Cl.p x) = true ∧ Lf) := by unfold VD VQ; kernel_rfl
theorem np0_vq (x : Cl) (h : decide (x.q + 1 < x.p) = false) : VD Try.prog 32 [.p 0 0] [some (clO x)] (Orc.f Orc.z) (.i .i64 0) [.keep] [] 1 (fun Lf => True ∧ rg (Cl.q x + 1) ∧
  True ∧ decide (Cl.q x + 1 < Cl.p x) = false ∧ Lf) := by unfold VD VQ; kernel_rfl
theorem ma0_vq (x : Cl) (c : Cm) (va : Bool) (h : va = false) : VD Try.prog 28 [cmV c] [] (Orc.cal [] (.b va) [] (Orc.f (Orc.f (Orc.f (Orc.f (oc 4 Orc.z)))))) (.b false) [] []
  1 (fun Lf => Con Try.prog 23 [cmV c] [] (.b va) [] ∧ va = false ∧ va = false ∧ va = false ∧ va = false ∧ Lf) := by unfold VD VQ; kernel_rfl
theorem ma1_vq (x : Cl) (c : Cm) (va : Bool) (h : va = true) (h2 : decide (c.k = 8) = true) : VD Try.prog 28 [cmV c] [] (Orc.cal [] (.b va) [] (Orc.t (Orc.t (Orc.t (Orc.t
  (Orc.f (Orc.f (Orc.f (Orc.f Orc.z))))))))) (.b false) [] [] 1 (fun Lf => Con Try.prog 23 [cmV c] [] (.b va) [] ∧ va = true ∧ True ∧ va = true ∧ va = true ∧ va = true ∧
  (!decide (Cm.k c = 8)) = false ∧ (!decide (Cm.k c = 8)) = false ∧ (!decide (Cm.k c = 8)) = false ∧ (!decide (Cm.k c = 8)) = false ∧ Lf) := by unfold VD VQ; kernel_rfl
theorem ma2_vq (x : Cl) (c : Cm) (va : Bool) (h : va = true) (h2 : decide (c.k = 8) = false) : VD Try.prog 28 [cmV c] [] (Orc.cal [] (.b va) [] (Orc.t (Orc.t (Orc.t (Orc.t
  (Orc.t (Orc.t (Orc.t (Orc.t Orc.z))))))))) (.b (decide (Cm.d c = 0))) [] [] 1 (fun Lf => Con Try.prog 23 [cmV c] [] (.b va) [] ∧ va = true ∧ True ∧ va = true ∧ va = true ∧ va
  = true ∧ (!decide (Cm.k c = 8)) = true ∧ True ∧ (!decide (Cm.k c = 8)) = true ∧ (!decide (Cm.k c = 8)) = true ∧ (!decide (Cm.k c = 8)) = true ∧ Lf)
  := by unfold VD VQ; kernel_rfl
theorem cpy_vq (x : Cl) (c : Cm) : VD Try.prog 29 [cmV c] [] (Orc.cal [] (isv (Cm.mn c) (Cm.mf c)) [] Orc.z) (.agg [.i .i64 (Cm.k c), .i .i64 (Cm.sv c), .i .i64 (Cm.bt c), .i
  .i64 (Cm.sq c), .i .i64 (Cm.gn c), .i .i64 (Cm.lk c), .i .i64 (Cm.md c), .i .i64 (Cm.ot c), .sv 1 (Cm.mn c) fun i x => CV.i .i64 (Cm.mf c i), .i .i64 (Cm.d c)]) [] [] 2 (fun
  Lf => True ∧ Con Try.prog 46 [isv (Cm.mn c) (Cm.mf c)] [] (isv (Cm.mn c) (Cm.mf c)) [] ∧ True ∧ Lf) := by unfold VD VQ; kernel_rfl
theorem pe_vq (x : Cl) : VD Try.prog 14 [.p 0 0] [some (clO x)] (Orc.c Orc.z) (.i .i64 (Cl.q x)) [.keep] [] 1 (fun Lf => True ∧ True ∧ Lf) := by unfold VD VQ; kernel_rfl
theorem nT {b : Bool} (h : b = true) : (!b) = false := by rw [h]; rfl
theorem nF {b : Bool} (h : b = false) : (!b) = true := by rw [h]; rfl
theorem nnT {b : Bool} (h : b = true) : (!!b) = true := by rw [h]; rfl
theorem nnF {b : Bool} (h : b = false) : (!!b) = false := by rw [h]; rfl
theorem w26_con (n a b : Int) : Con Try.prog 26 [.i .i64 n, .i .i64 a, .i .i64 b] [] (.b (wi n a b)) [] := by
  unfold wi
  cases h : decide (a ≤ n) with
  | true => rw [Bool.true_and]; exact con_d (wt_vq n a b h) (by repeat' first | exact trivial | assumption | exact rfl | apply And.intro)
  | false => rw [Bool.false_and]; exact con_d (wf_vq n a b h) (by repeat' first | exact trivial | assumption | exact rfl | apply And.intro)
theorem tm_con (n : Int) : Con Try.prog 45 [.i .i64 n] [] (.b (wi n 0 4503599627370496)) [] := by
  unfold wi
  cases h : decide (0 ≤ n) with
  | true =>
    rw [Bool.true_and]
    cases h2 : decide (n ≤ 4503599627370496) with
    | true => exact con_d (tmA_vq n h h2) (by repeat' first | exact trivial | assumption | exact nT h2 | exact nnT h2 | exact decide_eq_true rfl | exact rfl | apply And.intro)
    | false => exact con_d (tmB_vq n h h2) (by repeat' first | exact trivial | assumption | exact nF h2 | exact nnF h2 | exact rfl | apply And.intro)
  | false => rw [Bool.false_and]; exact con_d (tmC_vq n h) (by repeat' first | exact trivial | assumption | exact rfl | apply And.intro)
def cl0 (s b p : Int) : Cl := ⟨s, b, p, 0, 0, false, cm0, 0, 0⟩
def nwB (s b p : Int) : Bool := wi s 0 2 && (wi b 1 1099511627776 && wi p 1 3)
theorem new0_con (s b p : Int) (h : nwB s b p = false) : Con Try.prog 8 [.i .i64 s, .i .i64 b, .i .i64 p] [] (.tup [.p0, .i .i64 2]) [] := by
  have c := w26_con
  unfold nwB at h
  cases h1 : wi s 0 2 with
  | false => exact con_d (nwA_vq wi s b p h1) (by repeat' first | exact trivial | exact w26_con _ _ _ | assumption | exact nF h1 | exact nnF h1 | exact rfl | apply And.intro)
  | true =>
    rw [h1, Bool.true_and] at h
    cases h2 : wi b 1 1099511627776 with
    | false => exact con_d (nwB_vq wi s b p h1 h2) (by repeat' first | exact trivial | exact w26_con _ _ _ | assumption | exact nT h1 | exact nnT h1 | exact nF h2 | exact nnF h2 | exact rfl | apply And.intro)
    | true =>
      rw [h2, Bool.true_and] at h
      exact con_d (nwC_vq wi s b p h1 h2 h) (by repeat' first | exact trivial | exact w26_con _ _ _ | assumption | exact nT h1 | exact nnT h1 | exact nT h2 | exact nnT h2 | exact nF h | exact nnF h | exact rfl | apply And.intro)
theorem new1_con (s b p : Int) (h : nwB s b p = true) : Con Try.prog 8 [.i .i64 s, .i .i64 b, .i .i64 p] [] (.tup [.p 0 0, .i .i64 0]) [.set (clO (cl0 s b p))] := by
  unfold nwB at h
  simp only [Bool.and_eq_true] at h
  obtain ⟨h1, h2, h3⟩ := h
  refine Con.post (con_d (nwD_vq wi s b p h1 h2 h3) (by repeat' first | exact trivial | exact w26_con _ _ _ | assumption | exact nT h1 | exact nnT h1 | exact nT h2 | exact nnT h2 | exact nT h3 | exact nnT h3 | exact rfl | apply And.intro)) (.refl _) ⟨?_, trivial⟩
  exact OV.cells (l := nwL s b p) (l' := clL (cl0 s b p)) ⟨.refl _, .refl _, .refl _, .refl _, .refl _, .refl _, .refl _, .refl _, .refl _, .refl _, .refl _, .refl _, .refl _, .refl _, .nil _ _, .refl _, .refl _, .refl _, trivial⟩
def fE (n : Int) : Int := bif wi n 0 4503599627370496 then 0 else 2
theorem fa_con (x : Cl) (n : Int) : Con Try.prog 27 [.p 0 0, .i .i64 n] [some (clO x)] (.i .i64 (fE n)) [.keep] := by
  unfold fE
  cases h : wi n 0 4503599627370496 with
  | true => exact con_d (fa0_vq wi x n h) (by repeat' first | exact trivial | exact tm_con _ | exact nT h | exact rfl | apply And.intro)
  | false => exact con_d (fa2_vq wi x n h) (by repeat' first | exact trivial | exact tm_con _ | exact nF h | exact rfl | apply And.intro)
def nqI (x : Cl) : Int := bif decide (x.q + 1 < x.p) then x.q + 1 else 0
theorem np_con (x : Cl) (r : rg (x.q + 1)) : Con Try.prog 32 [.p 0 0] [some (clO x)] (.i .i64 (nqI x)) [.keep] := by
  unfold nqI
  cases h : decide (x.q + 1 < x.p) with
  | true => exact con_d (np1_vq x h) ⟨trivial, r, trivial, h, rfl⟩
  | false => exact con_d (np0_vq x h) ⟨trivial, r, trivial, h, rfl⟩
def maB (c : Cm) : Bool := vcB c && (!decide (c.k = 8) && decide (c.d = 0))
theorem ma_con (c : Cm) (hm : c.mn ≤ 1152921504606846976) : Con Try.prog 28 [cmV c] [] (.b (maB c)) [] := by
  have v := vcm_con c hm
  unfold maB
  cases h : vcB c with
  | false => rw [h] at v; rw [Bool.false_and]; exact con_d (ma0_vq (cl0 0 0 0) c false rfl) (by repeat' first | exact trivial | exact v | exact rfl | apply And.intro)
  | true =>
    rw [h] at v
    rw [Bool.true_and]
    cases h2 : decide (c.k = 8) with
    | true => exact con_d (ma1_vq (cl0 0 0 0) c true rfl h2) (by repeat' first | exact trivial | exact v | assumption | exact nT h2 | exact nnT h2 | exact rfl | apply And.intro)
    | false => exact con_d (ma2_vq (cl0 0 0 0) c true rfl h2) (by repeat' first | exact trivial | exact v | assumption | exact nF h2 | exact nnF h2 | exact rfl | apply And.intro)
theorem cpy_con (c : Cm) (hm : c.mn ≤ 17592186044416) : Con Try.prog 29 [cmV c] [] (cmV c) [] := con_d (cpy_vq (cl0 0 0 0) c) (by repeat' first | exact trivial | exact cl53_con _ _ hm | exact rfl | apply And.intro)
theorem pe_con (x : Cl) : Con Try.prog 14 [.p 0 0] [some (clO x)] (.i .i64 x.q) [.keep] := con_d (pe_vq x) (by repeat' first | exact trivial | exact rfl | apply And.intro)
end Go.Proofs.Ck
namespace Go.Proofs.Ck
open Go Go.Sim Go.Proofs Go.Proofs.Lk Go.Proofs.Sv
def akC (x : Cl) (c : Cm) : Cm := { c with sv := x.s, bt := x.b, sq := x.n + 1 }
def tdS (x : Cl) (now : Int) : Cl := { x with q := nqI x, l := now }
def akS (x : Cl) (now : Int) (c : Cm) : Cl := ⟨x.s, x.b, x.p, x.q, x.n + 1, true, akC x c, now, now⟩
noncomputable def isC (n : Nat) (f : Nat → Int) : CV := .sv 1 n fun i _ => .i .i64 (f i)
noncomputable def svC (n : Nat) (A M W : Nat → Int) : CV := .sv 3 n (qF A M W)
noncomputable def mgC (m : Mg) : List CV := [.i .i64 m.k, .i .i64 m.fr, .i .i64 m.to, .i .i64 m.bl, .i .i64 m.sl, .i .i64 m.ab, .s m.av, .s m.st,
  .i .i64 m.c.k, .i .i64 m.c.sv, .i .i64 m.c.bt, .i .i64 m.c.sq, .i .i64 m.c.gn, .i .i64 m.c.lk, .i .i64 m.c.md, .i .i64 m.c.ot, isC m.c.mn m.c.mf, .i .i64 m.c.d,
  .i .i64 (m.v.x 6), .i .i64 (m.v.x 7), .i .i64 (m.v.x 8), isC m.v.mn m.v.mf, isC m.v.sn m.v.sf, svC m.v.hn m.v.hA m.v.hM m.v.hW, svC m.v.dn m.v.dA m.v.dM m.v.dW]
noncomputable def mgF (m : Mg) (i j : Nat) : CV := (mgC m).getD j .p0
noncomputable def mg1 (m : Mg) : AV := .sv 25 1 (mgF m)
def rqM (x : Cl) : Mg := ⟨8, 8 + x.c.sv, x.q, 0, 0, 0, [], [], x.c, mb0⟩
def gp (g : Int) : Int := if 1073741824 < if 0 > g then 0 else g then 1073741824 else if 0 > g then 0 else g
theorem gp_b (g : Int) : 0 ≤ gp g ∧ gp g ≤ 1073741824 := by unfold gp; split <;> split at * <;> omega
theorem cw_0 (a b : Nat) (f g : Nat → Nat → CV) : CW (.sv a 0 f) (.sv b 0 g) := by
  intro ro v h
  cases h with
  | sv0 => exact .sv0 _ _
  | svz _ _ x c => exact .svz _ _ x c
  | sv _ _ _ B o cap g' h1 h2 h3 => exact .svz _ _ _ _
end Go.Proofs.Ck
namespace Go.Proofs.Ck
open Go Go.Sim Go.Proofs Go.Proofs.Lk Go.Proofs.Sv Go.Proofs.Ytgggnjjhfkijfaa
noncomputable abbrev rqL (s q : Int) (c : Cm) (e : Nat → Nat → CV) : List CV := [.i .i64 8, .i .i64 (8 + s), .i .i64 q, .i .i64 0, .i .i64 0, .i .i64 0, .s [], .s [], .i .i64 c.k, .i .i64 c.sv, .i .i64 c.bt, .i .i64 c.sq, .i .i64 c.gn, .i .i64 c.lk, .i .i64 c.md, .i .i64 c.ot, .sv 1 c.mn fun i _ => .i .i64 (c.mf i), .i .i64 c.d, .i .i64 0, .i .i64 0, .i .i64 0, .sv 1 0 e, .sv 1 0 e, .sv 1 0 e, .sv 1 0 e]
noncomputable abbrev clD (x : Cl) (nq now : Int) : Cl := { x with q := nq, l := now }
theorem td2_vq (x : Cl) (now : Int) : VD Try.prog 10 [.p 0 0, .i .i64 now] [some (clO x)] (Orc.cal [0] (.i .i64 2) [.keep] (Orc.c Orc.z)) (.tup [.l0, .i .i64 2]) [.keep] [] 1
  (fun Lf => Con Try.prog 27 [.p 0 0, .i .i64 now] [some (clO x)] (.i .i64 2) [.keep] ∧ Lf) := by unfold VD VQ; kernel_rfl
theorem tdN_vq (x : Cl) (now : Int) (h : x.o = false) : VD Try.prog 10 [.p 0 0, .i .i64 now] [some (clO x)] (Orc.cal [0] (.i .i64 0) [.keep] (Orc.c (Orc.f (Orc.f (Orc.f (Orc.f
  (Orc.f (Orc.f (Orc.f (Orc.f (Orc.t (Orc.c Orc.z)))))))))))) (.tup [.l0, .i .i64 0]) [.keep] [] 1 (fun Lf => Con Try.prog 27 [.p 0 0, .i .i64 now] [some (clO x)] (.i .i64 0)
  [.keep] ∧ True ∧ True ∧ (!!Cl.o x) = false ∧ (!!Cl.o x) = false ∧ (!!Cl.o x) = false ∧ (!!Cl.o x) = false ∧ (!!Cl.o x) = false ∧ (!!Cl.o x) = false ∧ (!!Cl.o x) = false ∧
  (!!Cl.o x) = false ∧ (!Cl.o x) = true ∧ Lf) := by unfold VD VQ; kernel_rfl
theorem tdE_vq (x : Cl) (now : Int) (h : x.o = true) (h2 : decide (now < x.l + 6) = true) : VD Try.prog 10 [.p 0 0, .i .i64 now] [some (clO x)] (Orc.cal [0] (.i .i64 0) [.keep]
  (Orc.c (Orc.t (Orc.t (Orc.t (Orc.t (Orc.t (Orc.t (Orc.t (Orc.t (Orc.f (Orc.t Orc.z)))))))))))) (.tup [.l0, .i .i64 0]) [.keep] [] 1 (fun Lf => Con Try.prog 27 [.p 0 0, .i
  .i64 now] [some (clO x)] (.i .i64 0) [.keep] ∧ True ∧ True ∧ (!!Cl.o x) = true ∧ (!!Cl.o x) = true ∧ (!!Cl.o x) = true ∧ (!!Cl.o x) = true ∧ True ∧ (!!Cl.o x) = true ∧ True ∧
  (!!Cl.o x) = true ∧ (!!Cl.o x) = true ∧ rg (Cl.l x + 6) ∧ (!!Cl.o x) = true ∧ (!Cl.o x) = false ∧ decide (now < Cl.l x + 6) = true ∧ Lf) := by unfold VD VQ; kernel_rfl
theorem tdY_fq (x : Cl) (now : Int) (nq : Int) (h : x.o = true) (h2 : decide (now < x.l + 6) = false) : VF Try.prog 10 [.p 0 0, .i .i64 now] [some (clO x)] (Orc.cal [0] (.i
  .i64 0) [.keep] (Orc.c (Orc.t (Orc.t (Orc.t (Orc.t (Orc.t (Orc.t (Orc.t (Orc.t (Orc.f (Orc.f (Orc.cal [0] (.i .i64 nq) [.keep] (Orc.inl (Orc.inl (Orc.cal [] (.agg [.i .i64
  (Cm.k (Cl.c x)), .i .i64 (Cm.sv (Cl.c x)), .i .i64 (Cm.bt (Cl.c x)), .i .i64 (Cm.sq (Cl.c x)), .i .i64 (Cm.gn (Cl.c x)), .i .i64 (Cm.lk (Cl.c x)), .i .i64 (Cm.md (Cl.c x)),
  .i .i64 (Cm.ot (Cl.c x)), isv (Cm.mn (Cl.c x)) (Cm.mf (Cl.c x)), .i .i64 (Cm.d (Cl.c x))]) [] Orc.z)))))))))))))))) (.tup [.sv 25 1 (listF 25 (rqL x.c.sv nq x.c fun _ _ =>
  .p0) 1), .i .i64 0]) [.set (clO (clD x nq now))] [3] [] ((0 + 1 * 25 ≤ 25 ∧ (True ∧ True)) ∧ True) 4 (fun Lf => Con Try.prog 27 [.p 0 0, .i .i64 now] [some (clO x)] (.i .i64
  0) [.keep] ∧ True ∧ True ∧ (!!Cl.o x) = true ∧ (!!Cl.o x) = true ∧ (!!Cl.o x) = true ∧ (!!Cl.o x) = true ∧ True ∧ (!!Cl.o x) = true ∧ True ∧ (!!Cl.o x) = true ∧ (!!Cl.o x) =
  true ∧ rg (Cl.l x + 6) ∧ (!!Cl.o x) = true ∧ (!Cl.o x) = false ∧ decide (now < Cl.l x + 6) = false ∧ Con Try.prog 32 [.p 0 0] [some (clO x)] (.i .i64 nq) [.keep] ∧ True ∧
  True ∧ True ∧ True ∧ True ∧ True ∧ True ∧ rg (8 + Cm.sv (Cl.c x)) ∧ True ∧ Con Try.prog 29 [.agg [.i .i64 (Cm.k (Cl.c x)), .i .i64 (Cm.sv (Cl.c x)), .i .i64 (Cm.bt (Cl.c x)),
  .i .i64 (Cm.sq (Cl.c x)), .i .i64 (Cm.gn (Cl.c x)), .i .i64 (Cm.lk (Cl.c x)), .i .i64 (Cm.md (Cl.c x)), .i .i64 (Cm.ot (Cl.c x)), isv (Cm.mn (Cl.c x)) (Cm.mf (Cl.c x)), .i
  .i64 (Cm.d (Cl.c x))]] [] (.agg [.i .i64 (Cm.k (Cl.c x)), .i .i64 (Cm.sv (Cl.c x)), .i .i64 (Cm.bt (Cl.c x)), .i .i64 (Cm.sq (Cl.c x)), .i .i64 (Cm.gn (Cl.c x)), .i .i64
  (Cm.lk (Cl.c x)), .i .i64 (Cm.md (Cl.c x)), .i .i64 (Cm.ot (Cl.c x)), isv (Cm.mn (Cl.c x)) (Cm.mf (Cl.c x)), .i .i64 (Cm.d (Cl.c x))]) [] ∧ Lf) := by unfold VF; kernel_rfl
theorem akY_fq (x : Cl) (c : Cm) (now : Int) (va : Bool) (h : decide (1099511627776 ≤ x.n) = false) (h2 : va = true) (h3 : x.o = false) : VF Try.prog 9 [.p 0 0, .i .i64 now,
  cmV c] [some (clO x)] (Orc.cal [0] (.i .i64 0) [.keep] (Orc.c (Orc.f (Orc.cal [] (.b va) [] (Orc.f (Orc.f (Orc.cal [] (.agg [.i .i64 (Cm.k c), .i .i64 (Cl.s x), .i .i64 (Cl.b
  x), .i .i64 (Cl.n x + 1), .i .i64 (Cm.gn c), .i .i64 (Cm.lk c), .i .i64 (Cm.md c), .i .i64 (Cm.ot c), isv (Cm.mn c) (Cm.mf c), .i .i64 (Cm.d c)]) [] (Orc.inl (Orc.inl
  (Orc.cal [] (.agg [.i .i64 (Cm.k c), .i .i64 (Cl.s x), .i .i64 (Cl.b x), .i .i64 (Cl.n x + 1), .i .i64 (Cm.gn c), .i .i64 (Cm.lk c), .i .i64 (Cm.md c), .i .i64 (Cm.ot c), isv
  (Cm.mn c) (Cm.mf c), .i .i64 (Cm.d c)]) [] Orc.z)))))))))) (.tup [.sv 25 1 (listF 25 (rqL x.s x.q (akC x c) fun _ _ => .p0) 1), .i .i64 0]) [.set (clO (akS x now c))] [4] []
  ((0 + 1 * 25 ≤ 25 ∧ (True ∧ True)) ∧ True) 5 (fun Lf => Con Try.prog 27 [.p 0 0, .i .i64 now] [some (clO x)] (.i .i64 0) [.keep] ∧ True ∧ decide (1099511627776 ≤ Cl.n x) =
  false ∧ True ∧ True ∧ True ∧ rg (Cl.n x + 1) ∧ True ∧ True ∧ True ∧ Con Try.prog 28 [.agg [.i .i64 (Cm.k c), .i .i64 (Cl.s x), .i .i64 (Cl.b x), .i .i64 (Cl.n x + 1), .i .i64
  (Cm.gn c), .i .i64 (Cm.lk c), .i .i64 (Cm.md c), .i .i64 (Cm.ot c), isv (Cm.mn c) (Cm.mf c), .i .i64 (Cm.d c)]] [] (.b va) [] ∧ True ∧ (!va) = false ∧ True ∧ Cl.o x = false ∧
  True ∧ True ∧ True ∧ Con Try.prog 29 [.agg [.i .i64 (Cm.k c), .i .i64 (Cl.s x), .i .i64 (Cl.b x), .i .i64 (Cl.n x + 1), .i .i64 (Cm.gn c), .i .i64 (Cm.lk c), .i .i64 (Cm.md
  c), .i .i64 (Cm.ot c), isv (Cm.mn c) (Cm.mf c), .i .i64 (Cm.d c)]] [] (.agg [.i .i64 (Cm.k c), .i .i64 (Cl.s x), .i .i64 (Cl.b x), .i .i64 (Cl.n x + 1), .i .i64 (Cm.gn c), .i
  .i64 (Cm.lk c), .i .i64 (Cm.md c), .i .i64 (Cm.ot c), isv (Cm.mn c) (Cm.mf c), .i .i64 (Cm.d c)]) [] ∧ True ∧ True ∧ True ∧ True ∧ True ∧ True ∧ True ∧ rg (8 + Cl.s x) ∧ True
  ∧ Con Try.prog 29 [.agg [.i .i64 (Cm.k c), .i .i64 (Cl.s x), .i .i64 (Cl.b x), .i .i64 (Cl.n x + 1), .i .i64 (Cm.gn c), .i .i64 (Cm.lk c), .i .i64 (Cm.md c), .i .i64 (Cm.ot
  c), isv (Cm.mn c) (Cm.mf c), .i .i64 (Cm.d c)]] [] (.agg [.i .i64 (Cm.k c), .i .i64 (Cl.s x), .i .i64 (Cl.b x), .i .i64 (Cl.n x + 1), .i .i64 (Cm.gn c), .i .i64 (Cm.lk c), .i
  .i64 (Cm.md c), .i .i64 (Cm.ot c), isv (Cm.mn c) (Cm.mf c), .i .i64 (Cm.d c)]) [] ∧ Lf) := by unfold VF; kernel_rfl
theorem fE_cases (n : Int) : fE n = 0 ∨ fE n = 2 := by unfold fE; cases wi n 0 4503599627370496; exact .inr rfl; exact .inl rfl
def tdB (x : Cl) (now : Int) : Bool := decide (fE now = 0) && (x.o && !decide (now < x.l + 6))
theorem mg1_of (s q : Int) (c : Cm) (e : Nat → Nat → CV) (x : Cl) (h1 : s = x.c.sv) (h2 : q = x.q) (h3 : c = x.c) : VW (.sv 25 1 (listF 25 (rqL s q c e) 1)) (mg1 (rqM x)) := by
  subst h1 h2 h3
  refine VW.svW fun i j hi hj => ?_
  rw [listF_1]
  match j, hj with
  | 0, _ | 1, _ | 2, _ | 3, _ | 4, _ | 5, _ | 6, _ | 7, _ | 8, _ | 9, _ | 10, _ | 11, _ | 12, _ | 13, _ | 14, _ | 15, _ | 16, _ | 17, _ | 18, _ | 19, _ | 20, _ => exact CW.refl _
  | 21, _ | 22, _ | 23, _ | 24, _ => exact cw_0 _ _ _ _
  | n + 25, h => exact absurd h (by omega)
theorem frp1 : ((0 : Nat) + 1 * 25 ≤ 25 ∧ (True ∧ True)) ∧ True := ⟨⟨by decide, trivial, trivial⟩, trivial⟩
theorem tdN_con (x : Cl) (now : Int) (h : tdB x now = false) (r : rg (x.l + 6)) : Con Try.prog 10 [.p 0 0, .i .i64 now] [some (clO x)] (.tup [.l0, .i .i64 (fE now)]) [.keep] := by
  have f := fa_con x now
  unfold tdB at h
  rcases fE_cases now with e | e
  · rw [e] at f h ⊢
    cases ho : x.o with
    | false => exact con_d (tdN_vq x now ho) (by repeat' first | exact trivial | exact f | exact nF ho | exact nnF ho | exact rfl | apply And.intro)
    | true =>
      have h2 : decide (now < x.l + 6) = true := by rw [ho] at h; simpa using h
      exact con_d (tdE_vq x now ho h2) (by repeat' first | exact trivial | exact f | exact r | exact h2 | exact nT ho | exact nnT ho | exact rfl | apply And.intro)
  · rw [e] at f ⊢
    exact con_d (td2_vq x now) (by repeat' first | exact trivial | exact f | exact rfl | apply And.intro)
theorem tdY_con (x : Cl) (now : Int) (h : tdB x now = true) (r : rg (x.l + 6)) (r2 : rg (x.q + 1)) (r3 : rg (8 + x.c.sv)) (hm : x.c.mn ≤ 17592186044416) : Con Try.prog 10 [.p 0 0, .i .i64 now] [some (clO x)] (.tup [mg1 (rqM (tdS x now)), .i .i64 0]) [.set (clO (tdS x now))] := by
  have f := fa_con x now
  have np := np_con x r2
  have cp := cpy_con x.c hm
  unfold tdB at h
  simp only [Bool.and_eq_true, Bool.not_eq_true', decide_eq_true_eq] at h
  obtain ⟨e, ho, h2⟩ := h
  rw [e] at f
  refine Con.post (con_f (tdY_fq x now (nqI x) ho h2) frp1 (by repeat' first | exact trivial | exact f | exact np | exact cp | exact r | exact r3 | exact h2 | exact nT ho | exact nnT ho | exact rfl | apply And.intro)) (.tup ⟨mg1_of _ _ _ _ (tdS x now) rfl rfl rfl, .refl _, trivial⟩) (.refl _)
def akE (x : Cl) (now : Int) (c : Cm) : Int := bif decide (fE now = 2) then 2 else bif decide (1099511627776 ≤ x.n) then 2 else bif !maB (akC x c) then 19 else bif x.o then 26 else 0
theorem akE0 {x : Cl} {now : Int} {c : Cm} (h : decide (akE x now c = 0) = true) : fE now = 0 ∧ decide (1099511627776 ≤ x.n) = false ∧ maB (akC x c) = true ∧ x.o = false := by
  unfold akE at h
  rcases fE_cases now with e | e
  · rw [e, show decide ((0 : Int) = 2) = false from rfl, cond_false] at h
    refine ⟨e, ?_⟩
    cases hn : decide (1099511627776 ≤ x.n) with
    | true => rw [hn, cond_true] at h; exact absurd h (by decide)
    | false =>
      rw [hn, cond_false] at h
      cases hv : maB (akC x c) with
      | false => rw [hv] at h; exact absurd h (by simp)
      | true =>
        rw [hv] at h
        cases ho : x.o with
        | true => rw [ho] at h; exact absurd h (by decide)
        | false => exact ⟨rfl, rfl, rfl⟩
  · rw [e] at h; exact absurd h (by simp)
theorem akY_con (x : Cl) (now : Int) (c : Cm) (h : decide (akE x now c = 0) = true) (r : rg (x.n + 1)) (r3 : rg (8 + x.s)) (hm : c.mn ≤ 17592186044416) : Con Try.prog 9 [.p 0 0, .i .i64 now, cmV c] [some (clO x)] (.tup [mg1 (rqM (akS x now c)), .i .i64 0]) [.set (clO (akS x now c))] := by
  have f := fa_con x now
  have ma := ma_con (akC x c) (Nat.le_trans hm (by decide))
  have cp := cpy_con (akC x c) hm
  obtain ⟨e, hn, hv, ho⟩ := akE0 h
  rw [e] at f
  rw [hv] at ma
  refine Con.post (con_f (akY_fq x c now true hn rfl ho) frp1 (by repeat' first | exact trivial | exact f | exact ma | exact cp | exact r | exact r3 | exact hn | exact ho | exact rfl | apply And.intro)) (.tup ⟨mg1_of _ _ _ _ (akS x now c) rfl rfl rfl, .refl _, trivial⟩) (.refl _)
end Go.Proofs.Ck
namespace Go.Proofs.Ck
open Go Go.Sim Go.Proofs Go.Proofs.Ytgggnjjhfkijfaa
theorem awake_con : Con Try.prog 13 [] [] (.b true) [] := closed_con (fuel := 100000000) (by kernel_rfl)
end Go.Proofs.Ck
namespace Go.Proofs.Sv
open Go Go.Sim Go.Proofs Go.Proofs.Lk Go.Proofs.Ytgggnjjhfkijfaa
theorem boT {b : Bool} (h : b = false) : (!b) = true := by rw [h]; rfl
theorem boF {b : Bool} (h : b = true) : (!b) = false := by rw [h]; rfl
end Go.Proofs.Sv
