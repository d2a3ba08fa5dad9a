/- Runs over unknown values, told by the kernel: part GA. -/
import Derived.Test.YtgggnjjhfkijfaaSymI
import Derived.Test.YtgggnjjhfkijfaaRows
set_option linter.unusedSimpArgs false
set_option linter.unusedVariables false
namespace Go.Proofs.Lk
open Go Go.Sim Go.Proofs
noncomputable def qF (A M W : Nat → Int) (i j : Nat) : CV := Nat.rec (.i .i64 (A i)) (fun j _ => Nat.rec (.i .i64 (M i)) (fun _ _ => .i .i64 (W i)) j) j
structure HQ where
  a : Int
  m : Int
  w : Int
def hz : HQ := ⟨0, 0, 0⟩
def qA (q : List HQ) (i : Nat) : Int := (q.getD i hz).a
def qM (q : List HQ) (i : Nat) : Int := (q.getD i hz).m
def qW (q : List HQ) (i : Nat) : Int := (q.getD i hz).w
noncomputable def svN (n : Nat) (A M W : Nat → Int) : AV := .sv 3 n (qF A M W)
structure Rw where
  h : Nat → Int
  q : List HQ
noncomputable def isv (n : Nat) (f : Nat → Int) : AV := .sv 1 n fun i _ => .i .i64 (f i)
structure Mb where
  x : Nat → Int
  mn : Nat
  mf : Nat → Int
  sn : Nat
  sf : Nat → Int
  hn : Nat
  hA : Nat → Int
  hM : Nat → Int
  hW : Nat → Int
  dn : Nat
  dA : Nat → Int
  dM : Nat → Int
  dW : Nat → Int
structure Rs where
  x : Nat → Int
  mn : Nat
  mf : Nat → Int
  sn : Nat
  sf : Nat → Int
  s : Nat → Mb
noncomputable def z0 {α : Type} (a b : T α) : T α := T.n none a b
noncomputable def z1 {α : Type} (v : α) (a b : T α) : T α := T.n (some v) a b
noncomputable def zl {α : Type} (v : α) : T α := T.n (some v) T.e T.e
def isLockB (k : Int) : Bool := decide (0 ≤ k) && decide (k < 19)
def isServerB (k : Int) : Bool := decide (0 ≤ k) && decide (k < 3)
def isWishB (k : Int) : Bool := decide (k = 1) || decide (k = 2)
def isModeB (k : Int) : Bool := decide (k = 0) || isWishB k
def goesB (a b : Int) : Bool := decide (a = 0) || decide (b = 0) || (decide (a = 1) && decide (b = 1))
def hx (h : Nat → Int) (k : Int) : Int := List.getD [h 0, h 1, h 2] k.toNat 0
def mayWaitB (h : Nat → Int) (a m w : Int) : Bool := isServerB a && (isWishB m && (decide (hx h a < m) && decide (w = 0)))
def canB (h : Nat → Int) (a m : Int) : Bool := (decide ((0 : Int) = a) || goesB m (h 0)) && ((decide ((1 : Int) = a) || goesB m (h 1)) && (decide ((2 : Int) = a) || goesB m (h 2)))
def fcB (h : Nat → Int) (n : Nat) (A M : Nat → Int) : Bool := decide (n ≠ 0) && canB h (A 0) (M 0)
def hmB (h : Nat → Int) : Bool := (isModeB (h 0) && (isModeB (h 1) && goesB (h 1) (h 0))) && (isModeB (h 2) && (goesB (h 2) (h 0) && goesB (h 2) (h 1)))
def fiN (A : Nat → Int) (k : Int) : Nat → Nat → Nat
  | 0, i => i
  | m + 1, i => if A i = k then i else fiN A k m (i + 1)
def fi (n : Nat) (A : Nat → Int) (k : Int) : Nat := fiN A k n 0
def ti (n : Nat) (A : Nat → Int) (k : Int) : Nat := if fi n A k < n then fi n A k + 1 else n
def qmB (h : Nat → Int) (n : Nat) (A M W : Nat → Int) : Nat → Nat → Bool
  | 0, _ => true
  | m + 1, i => mayWaitB h (A i) (M i) (W i) && (decide (fi n A (A i) = i) && qmB h n A M W m (i + 1))
def mayBeB (h : Nat → Int) (n : Nat) (A M W : Nat → Int) : Bool := hmB h && (qmB h n A M W n 0 && !fcB h n A M)
def to (r : Rw) (k : Int) : Nat := ti r.q.length (qA r.q) k
noncomputable def h3 (a b c : Int) (j : Nat) : Int := Nat.rec a (fun j _ => Nat.rec b (fun _ _ => c) j) j
noncomputable def rvIs (v : AV) (r : Res) : Prop := match r with | .rv v1 _ => v1 = v | _ => False
theorem con_pure {P : Program} {f : Nat} {g : FuncId} {pargs : List AV} {o : Orc} {v : AV} (hb : below 0 v = true) (h : runK P f (.call g pargs (mkH [])) o fun r _ => rvIs v r) : Con P g pargs [] v [] := by
  obtain ⟨r, o', hr, hd⟩ := runK_ok P f _ _ _ h
  cases r with
  | rv v1 H1 =>
    obtain rfl : v1 = v := hr
    obtain ⟨hlg, hcall⟩ : CallDoes P g pargs (mkH []) v1 H1 := hd
    intro ρ w args' hv hh hoff
    refine (hcall ρ w args' hv hh (fun A q1 _ => hoff A (Nat.zero_le _))).mono ?_
    rintro e w' ⟨v', ρ1, rfl, k1, k2, k3⟩
    have hid : ren id v1 = v1 := ren_id v1
    have hnone : ∀ A, ρ A = none := fun A => hoff A (Nat.zero_le _)
    have hemp : ∀ A o, (mkH (postL [] [])).get A = some o → False := by
      intro A o h
      rw [mkH_get] at h
      have : (postL [] [] : List (Option AObj)) = [] := rfl
      rw [this] at h; simp at h
    refine ⟨v', ⟨fun _ => none, ρ1.ro⟩, rfl, ?_, ⟨fun A o h => (hemp A o h).elim, fun A _ o _ _ _ h => (hemp A o h).elim, fun A x h => by simp at h, k2.ro, fun B j v hv A o x h => (hemp A o h).elim⟩, ?_⟩
    · exact unren_VR (ρ := ⟨fun _ => none, ρ1.ro⟩) (ρ' := ρ1) (σ := id) (k := 0) (fun A h => by omega) (fun _ _ _ h => h) hb (by rw [hid]; exact k1)
    · refine ⟨Nat.zero_le _, ⟨fun A x h => by rw [hnone A] at h; simp at h, k3.ext.ro⟩, fun A x h => by simp at h, k3.size, ?_, fun A o x h => (hemp A o h).elim, ?_, k3.tape, k3.os, k3.output⟩
      · exact k3.frame
      · exact k3.roimg
  | st _ _ _ => exact absurd hr (by simp [rvIs])
theorem con_pureX {P : Program} {f : Nat} {g : FuncId} {pargs : List AV} {o : Orc} {v : AV} {R : Prop} (h : runK P f (.call g pargs (mkH [])) o (fun r _ => rvIs v r) = R) (hb : below 0 v = true) (hr : R) : Con P g pargs [] v [] := con_pure hb (h.mpr hr)
theorem con_runX {P : Program} {f : Nat} {g : FuncId} {pargs : List AV} {objs : List (Option AObj)} {o : Orc} {v : AV} {us : List Upd} (fz τ : List Nat) {R : Prop}
    (h : runK P f (.call g pargs (mkH objs)) o (fun r _ => ∃ v1 H1, r = .rv v1 H1 ∧ RetIs objs v us fz τ v1 H1) = R) (hr : R) : Con P g pargs objs v us := con_of_run fz τ (h.mpr hr)
structure LS where
  r : Rs
  row : Nat → Rw
def mayB (r : Rw) : Bool := mayBeB r.h r.q.length (qA r.q) (qM r.q) (qW r.q)
def vaN (s : LS) : Nat → Nat → Bool
  | 0, _ => true
  | m + 1, l => mayB (s.row l) && vaN s m (l + 1)
def vaS (s : LS) : Bool := vaN s 19 0
def zMb : Mb := ⟨fun _ => 0, 0, fun _ => 0, 0, fun _ => 0, 0, fun _ => 0, fun _ => 0, fun _ => 0, 0, fun _ => 0, fun _ => 0, fun _ => 0⟩
def zRs : Rs := ⟨fun _ => 0, 0, fun _ => 0, 0, fun _ => 0, fun _ => zMb⟩
def zS : LS := ⟨zRs, fun _ => ⟨fun _ => 0, []⟩⟩
def okA (s : LS) (l k m : Int) : Bool := isLockB l && (isServerB k && (isWishB m && vaS s))
def askE (s : LS) (l k m : Int) : Int := bif okA s l k m then 0 else 2
noncomputable def vwL (b : Mb) : List AV := [.i .i64 (b.x 6), .i .i64 (b.x 7), .i .i64 (b.x 8), isv b.mn b.mf, isv b.sn b.sf, svN b.hn b.hA b.hM b.hW, svN b.dn b.dA b.dM b.dW]
noncomputable def vwO (b : Mb) : AObj := .cells 40 7 [] (setAll .e 0 (vwL b))
noncomputable def vzO : AObj := .cells 40 7 [.i .i64 0, .i .i64 0, .i .i64 0, .l0, .l0, .l0, .l0] .e
set_option maxRecDepth 20000
theorem cl43_vc (m : Nat) (A M W : Nat → Int) (K : Res → Orc → Prop) : runK Try.prog 1000000 (.call 48 [svN (m + 1) A M W] (mkH [])) (oc 2 Orc.z) K = (True ∧ (True ∧ True ∧ 0 + (m + 1) ≤ 140737488355328 ∧ (3 * (0 + (m + 1)) + 1536) * 24 ≤ 562949953421312) ∧ K (Res.rv (AV.lr 1 3 0 (m + 1) false) ⟨z0 (zl (AObj.rows 92 3 (m + 1) (qF A M W))) T.e, 2, [1, 0, 0]⟩) Orc.z) := by kernel_rfl
theorem cl43n_vc (K : Res → Orc → Prop) : runK Try.prog 1000000 (.call 48 [.l0] (mkH [])) (Orc.c Orc.z) K = (True ∧ K (Res.rv AV.l0 ⟨T.e, 0, []⟩) Orc.z) := by kernel_rfl
theorem cl43z_vc (K : Res → Orc → Prop) : runK Try.prog 1000000 (.call 48 [.lz] (mkH [])) (Orc.c Orc.z) K = (True ∧ K (Res.rv (AV.l 0 0 0 0 3 true) ⟨zl (AObj.cells 92 0 [] T.e), 1, [0, 0]⟩) Orc.z) := by kernel_rfl
theorem cl53_vc (m : Nat) (f : Nat → Int) (K : Res → Orc → Prop) : runK Try.prog 1000000 (.call 46 [isv (m + 1) f] (mkH [])) (oc 2 Orc.z) K = (True ∧ (True ∧ True ∧ 0 + (m + 1) ≤ 140737488355328 ∧ (3 * (0 + (m + 1)) + 1536) * 8 ≤ 562949953421312) ∧ K (Res.rv (AV.lr 1 1 0 (m + 1) false) ⟨z0 (zl (AObj.rows 3 1 (m + 1) fun i x => CV.i .i64 (f i))) T.e, 2, [1, 0, 0]⟩) Orc.z) := by kernel_rfl
theorem cl53n_vc (K : Res → Orc → Prop) : runK Try.prog 1000000 (.call 46 [.l0] (mkH [])) (Orc.c Orc.z) K = (True ∧ K (Res.rv AV.l0 ⟨T.e, 0, []⟩) Orc.z) := by kernel_rfl
theorem cl53z_vc (K : Res → Orc → Prop) : runK Try.prog 1000000 (.call 46 [.lz] (mkH [])) (Orc.c Orc.z) K = (True ∧ K (Res.rv (AV.l 0 0 0 0 1 true) ⟨zl (AObj.cells 3 0 [] T.e), 1, [0, 0]⟩) Orc.z) := by kernel_rfl
theorem cl43_con (n : Nat) (A M W : Nat → Int) (hn : n ≤ 5864062014805) : Con Try.prog 48 [svN n A M W] [] (svN n A M W) [] := by
  cases n with
  | succ m =>
    exact con_of_run [1] [] ((cl43_vc _ _ _ _ _).mpr ⟨trivial, ⟨trivial, trivial, by omega, by omega⟩, _, _, rfl, ret_fz [1] ((3 = 3 ∧ 0 + (m + 1) ≤ m + 1) ∧ True) (by kernel_rfl) (by kernel_rfl) ⟨⟨rfl, by omega⟩, trivial⟩ (by kernel_rfl) rfl (by kernel_rfl) (by kernel_rfl) rfl trivial⟩)
  | zero =>
    have h0 : Con Try.prog 48 [.l0] [] (svN 0 A M W) [] := by
      have h := con_of_run (v := .l0) (us := []) [] [] ((cl43n_vc _).mpr ⟨trivial, _, _, rfl, ret_is (by kernel_rfl) rfl (by kernel_rfl) (by kernel_rfl) rfl trivial⟩)
      exact h.post (VW.nil _ _) trivial
    have hz : Con Try.prog 48 [.lz] [] (svN 0 A M W) [] := by
      have h := con_of_run (v := .sv 3 0 (listF 3 [] 0)) (us := []) [0] [] ((cl43z_vc _).mpr ⟨trivial, _, _, rfl, ret_fz [0] ((0 + 0 * 3 ≤ 0) ∧ True) (by kernel_rfl) (by kernel_rfl) ⟨by omega, trivial⟩ (by kernel_rfl) rfl (by kernel_rfl) (by kernel_rfl) rfl trivial⟩)
      exact h.post (VW.sv fun i j hi => absurd hi (Nat.not_lt_zero i)) trivial
    intro ρ w args' hv hh hoff
    cases hv with | cons _ _ v' _ h1 h2 =>
    cases h1 with | sv _ _ _ _ hc =>
    cases hc with
    | sv0 => exact h0 ρ w _ (.cons _ _ _ _ .l0 h2) hh hoff
    | svz _ _ a c => exact hz ρ w _ (.cons _ _ _ _ (.lz a c) h2) hh hoff
    | sv _ _ _ B o cap g q1 q2 q3 => exact hz ρ w _ (.cons _ _ _ _ (.lz _ cap) h2) hh hoff
theorem cl53_con (n : Nat) (f : Nat → Int) (hn : n ≤ 17592186044416) : Con Try.prog 46 [isv n f] [] (isv n f) [] := by
  cases n with
  | succ m =>
    exact con_of_run [1] [] ((cl53_vc _ _ _).mpr ⟨trivial, ⟨trivial, trivial, by omega, by omega⟩, _, _, rfl, ret_fz [1] ((1 = 1 ∧ 0 + (m + 1) ≤ m + 1) ∧ True) (by kernel_rfl) (by kernel_rfl) ⟨⟨rfl, by omega⟩, trivial⟩ (by kernel_rfl) rfl (by kernel_rfl) (by kernel_rfl) rfl trivial⟩)
  | zero =>
    have h0 : Con Try.prog 46 [.l0] [] (isv 0 f) [] := by
      have h := con_of_run (v := .l0) (us := []) [] [] ((cl53n_vc _).mpr ⟨trivial, _, _, rfl, ret_is (by kernel_rfl) rfl (by kernel_rfl) (by kernel_rfl) rfl trivial⟩)
      exact h.post (VW.nil _ _) trivial
    have hz : Con Try.prog 46 [.lz] [] (isv 0 f) [] := by
      have h := con_of_run (v := .sv 1 0 (listF 1 [] 0)) (us := []) [0] [] ((cl53z_vc _).mpr ⟨trivial, _, _, rfl, ret_fz [0] ((0 + 0 * 1 ≤ 0) ∧ True) (by kernel_rfl) (by kernel_rfl) ⟨by omega, trivial⟩ (by kernel_rfl) rfl (by kernel_rfl) (by kernel_rfl) rfl trivial⟩)
      exact h.post (VW.sv fun i j hi => absurd hi (Nat.not_lt_zero i)) trivial
    intro ρ w args' hv hh hoff
    cases hv with | cons _ _ v' _ h1 h2 =>
    cases h1 with | sv _ _ _ _ hc =>
    cases hc with
    | sv0 => exact h0 ρ w _ (.cons _ _ _ _ .l0 h2) hh hoff
    | svz _ _ a c => exact hz ρ w _ (.cons _ _ _ _ (.lz a c) h2) hh hoff
    | sv _ _ _ B o cap g q1 q2 q3 => exact hz ρ w _ (.cons _ _ _ _ (.lz _ cap) h2) hh hoff
set_option maxRecDepth 20000
theorem apq3 {n i j i0 i1 : Nat} {f g : Nat → Nat → CV} {A M W A' M' W' : Nat → Int} (hj : j < 3) (h1 : ∀ j, j < 3 → f i j = qF A M W i0 j) (h2 : ∀ j, j < 3 → g (i - n) j = qF A' M' W' i1 j) : appZ n f g i j = if i < n then qF A M W i0 j else qF A' M' W' i1 j := by
  match j, hj with
  | 0, h => rw [appZ_i (k := .i64) (a := A i0) (b := A' i1) (h1 0 h) (h2 0 h)]; split <;> rfl
  | 1, h => rw [appZ_i (k := .i64) (a := M i0) (b := M' i1) (h1 1 h) (h2 1 h)]; split <;> rfl
  | 2, h => rw [appZ_i (k := .i64) (a := W i0) (b := W' i1) (h1 2 h) (h2 2 h)]; split <;> rfl
theorem listF_q (a m w : Int) (i j : Nat) (hj : j < 3) : listF 3 [.i .i64 a, .i .i64 m, .i .i64 w] 1 i j = qF (fun _ => a) (fun _ => m) (fun _ => w) 0 j := by
  match j, hj with
  | 0, _ => rfl
  | 1, _ => rfl
  | 2, _ => rfl
set_option maxRecDepth 20000
theorem c50R_vc (n m i : Nat) (A M W : Nat → Int) (F : Nat → Nat → CV) (h1 : decide (Int.ofNat i < Int.ofNat n) = true) (K : Res → Orc → Prop) : runK Try.prog 1000000 (.code (loopAt Try.prog 50 0) 19 (mkT [(0, svN n A M W), (3, .lr 0 3 0 m false), (4, .i .i64 (Int.ofNat i))]) (mkH [some (.rows 73 3 m F)])) (Orc.t Orc.z) K = (decide (Int.ofNat i < Int.ofNat n) = true ∧ (0 ≤ Int.ofNat i ∧ Int.ofNat i < ↑n) ∧ True ∧ (0 + m ≤ m ∧ True ∧ m + 1 ≤ 140737488355328 ∧ (3 * (m + 1) + 1536) * 24 ≤ 562949953421312) ∧ ((-9223372036854775808) ≤ Int.ofNat i + 1 ∧ Int.ofNat i + (1 : Int) ≤ (9223372036854775807 : Int)) ∧ K (Res.st XO.nrm (z1 (AV.sv 3 n (qF A M W)) (z0 (z1 (AV.lr 2 3 0 (addN m 1) false) (z1 (AV.i .i64 (Int.ofNat n)) (zl (AV.agg [AV.i .i64 (A i), AV.i .i64 (M i), AV.i .i64 (W i)])) T.e) (zl (AV.lr 0 3 0 m false))) (z1 (AV.i .i64 (Int.ofNat i)) (z1 (AV.i .i64 (Int.ofNat i)) (zl (AV.lr 2 3 0
  (addN m 1) false)) T.e) (zl (AV.i .i64 (Int.ofNat i))))) (z0 (z1 (AV.i .i64 (Int.ofNat i + 1)) (z1 (AV.b (decide (Int.ofNat i < Int.ofNat n))) (zl (AV.l 1 0 1 1 3 true)) T.e) (zl (AV.sv 3 n (qF A M W)))) (z1 (AV.sv 3 n (qF A M W)) (zl (AV.i .i64 (Int.ofNat i + 1))) (zl (AV.pv 3 (qF A M W i)))))) ⟨z0 (zl (AObj.cells 73 3 [] (z1 (AV.i .i64 (A i)) (zl (AV.i .i64 (M i))) (zl (AV.i .i64 (W i)))))) (zl (AObj.rows 73 3 (addN m 1) (appZ m F (listF 3 [CV.i .i64 (A i), CV.i .i64 (M i), CV.i .i64 (W i)] 1)))), 3, [2, 0, 1]⟩) Orc.z) := by kernel_rfl
theorem c50E_vc (n m i : Nat) (A M W : Nat → Int) (F : Nat → Nat → CV) (h1 : decide (Int.ofNat i < Int.ofNat n) = false) (K : Res → Orc → Prop) : runK Try.prog 1000000 (.code (loopAt Try.prog 50 0) 19 (mkT [(0, svN n A M W), (3, .lr 0 3 0 m false), (4, .i .i64 (Int.ofNat i))]) (mkH [some (.rows 73 3 m F)])) (Orc.f Orc.z) K = (decide (Int.ofNat i < Int.ofNat n) = false ∧ K (Res.st (XO.exit 0) (z1 (AV.sv 3 n (qF A M W)) (z0 (z1 (AV.lr 0 3 0 m false) (zl (AV.i .i64 (Int.ofNat n))) T.e) (zl (AV.i .i64 (Int.ofNat i)))) (z0 (z1 (AV.i .i64 (Int.ofNat i)) (zl (AV.b (decide (Int.ofNat i < Int.ofNat n)))) T.e) (zl (AV.sv 3 n (qF A M W))))) ⟨zl (AObj.rows 73 3 m F), 1, []⟩) Orc.z) := by kernel_rfl
theorem c50_vc (n : Nat) (A M W : Nat → Int) (K : Res → Orc → Prop) : runK Try.prog 1000000 (.call 50 [svN n A M W] (mkH [])) (Orc.lop [] [0, 3, 4] 0 (XO.exit 0) [(3, AV.lr 0 3 0 n false)] [some (AObj.rows 73 3 n (qF A M W))] Orc.z) K = (LDoes Try.prog (loopAt Try.prog 50 0) 19 0 (mkT [(0, svN n A M W), (3, AV.l0), (4, AV.i .i64 0)]) [] (XO.exit 0) (mkT [(3, AV.lr 0 3 0 n false)]) [some (AObj.rows 73 3 n (qF A M W))] ∧ K (Res.rv (AV.lr 0 3 0 n false) ⟨zl (AObj.rows 73 3 n (qF A M W)), 1, [0]⟩) Orc.z) := by kernel_rfl
theorem c51R_vc (n m i : Nat) (f : Nat → Int) (F : Nat → Nat → CV) (h1 : decide (Int.ofNat i < Int.ofNat n) = true) (K : Res → Orc → Prop) : runK Try.prog 1000000 (.code (loopAt Try.prog 49 0) 19 (mkT [(0, isv n f), (3, .lr 0 1 0 m false), (4, .i .i64 (Int.ofNat i))]) (mkH [some (.rows 3 1 m F)])) (Orc.t Orc.z) K = (decide (Int.ofNat i < Int.ofNat n) = true ∧ (0 ≤ Int.ofNat i ∧ Int.ofNat i < ↑n) ∧ True ∧ (0 + m ≤ m ∧ True ∧ m + 1 ≤ 140737488355328 ∧ (3 * (m + 1) + 1536) * 8 ≤ 562949953421312) ∧ ((-9223372036854775808) ≤ Int.ofNat i + 1 ∧ Int.ofNat i + (1 : Int) ≤ (9223372036854775807 : Int)) ∧ K (Res.st XO.nrm (z1 (AV.sv 1 n fun i x => CV.i .i64 (f i)) (z0 (z1 (AV.lr 2 1 0 (addN m 1) false) (z1 (AV.i .i64 (Int.ofNat n)) (zl (AV.i .i64 (f i))) T.e) (zl (AV.lr 0 1 0 m false))) (z1 (AV.i .i64 (Int.ofNat i)) (z1 (AV.i .i64 (Int.ofNat i)) (zl (AV.lr 2 1 0 (addN m 1) false)) T.e) (zl (AV.i
  .i64 (Int.ofNat i))))) (z0 (z1 (AV.i .i64 (Int.ofNat i + 1)) (z1 (AV.b (decide (Int.ofNat i < Int.ofNat n))) (zl (AV.l 1 0 1 1 1 true)) T.e) (zl (AV.sv 1 n fun i x => CV.i .i64 (f i)))) (z1 (AV.sv 1 n fun i x => CV.i .i64 (f i)) (zl (AV.i .i64 (Int.ofNat i + 1))) (zl (AV.pv 1 fun c => CV.i .i64 (f i)))))) ⟨z0 (zl (AObj.cells 3 1 [] (zl (AV.i .i64 (f i))))) (zl (AObj.rows 3 1 (addN m 1) (appZ m F (listF 1 [CV.i .i64 (f i)] 1)))), 3, [2, 0, 1]⟩) Orc.z) := by kernel_rfl
theorem c51E_vc (n m i : Nat) (f : Nat → Int) (F : Nat → Nat → CV) (h1 : decide (Int.ofNat i < Int.ofNat n) = false) (K : Res → Orc → Prop) : runK Try.prog 1000000 (.code (loopAt Try.prog 49 0) 19 (mkT [(0, isv n f), (3, .lr 0 1 0 m false), (4, .i .i64 (Int.ofNat i))]) (mkH [some (.rows 3 1 m F)])) (Orc.f Orc.z) K = (decide (Int.ofNat i < Int.ofNat n) = false ∧ K (Res.st (XO.exit 0) (z1 (AV.sv 1 n fun i x => CV.i .i64 (f i)) (z0 (z1 (AV.lr 0 1 0 m false) (zl (AV.i .i64 (Int.ofNat n))) T.e) (zl (AV.i .i64 (Int.ofNat i)))) (z0 (z1 (AV.i .i64 (Int.ofNat i)) (zl (AV.b (decide (Int.ofNat i < Int.ofNat n)))) T.e) (zl (AV.sv 1 n fun i x => CV.i .i64 (f i))))) ⟨zl (AObj.rows 3 1 m F), 1, []⟩) Orc.z) := by kernel_rfl
theorem c51_vc (n : Nat) (f : Nat → Int) (K : Res → Orc → Prop) : runK Try.prog 1000000 (.call 49 [isv n f] (mkH [])) (Orc.lop [] [0, 3, 4] 0 (XO.exit 0) [(3, AV.lr 0 1 0 n false)] [some (AObj.rows 3 1 n fun i x => CV.i .i64 (f i))] Orc.z) K = (LDoes Try.prog (loopAt Try.prog 49 0) 19 0 (mkT [(0, isv n f), (3, AV.l0), (4, AV.i .i64 0)]) [] (XO.exit 0) (mkT [(3, AV.lr 0 1 0 n false)]) [some (AObj.rows 3 1 n fun i x => CV.i .i64 (f i))] ∧ K (Res.rv (AV.lr 0 1 0 n false) ⟨zl (AObj.rows 3 1 n fun i x => CV.i .i64 (f i)), 1, [0]⟩) Orc.z) := by kernel_rfl
theorem c52R_vc (b : Mb) (m i : Nat) (F : Nat → Nat → CV) (h1 : decide (Int.ofNat i < Int.ofNat (b.dn)) = true) (K : Res → Orc → Prop) : runK Try.prog 1000000 (.code (loopAt Try.prog 38 0) 39 (mkT [(1, .p 0 0), (2, .p 1 0), (3, .lr 2 3 0 m false), (4, .i .i64 (Int.ofNat i))]) (mkH [some (vwO b), some vzO, some (.rows 92 3 m F)])) (Orc.t Orc.z) K = (True ∧ decide (Int.ofNat i < Int.ofNat (Mb.dn b)) = true ∧ True ∧ (0 ≤ Int.ofNat i ∧ Int.ofNat i < ↑(Mb.dn b)) ∧ True ∧ (0 + m ≤ m ∧ True ∧ m + 1 ≤ 140737488355328 ∧ (3 * (m + 1) + 1536) * 24 ≤ 562949953421312) ∧ ((-9223372036854775808) ≤ Int.ofNat i + 1 ∧ Int.ofNat i + (1 : Int) ≤ (9223372036854775807 : Int)) ∧ K (Res.st XO.nrm (z0 (z1 (AV.p 0 0) (z1 (AV.lr 4 3 0 (addN m 1) false) (z0 (z0 (zl (AV.i .i64 (Int.ofNat i))) T.e) (zl (AV.sv 3 (Mb.dn b) (qF (Mb.dA b) (Mb.dM b) (Mb.dW b))))) (z0 (z0 (zl (AV.lr 4 3 0 (addN m 1) false)) T.e) (zl (AV.i
  .i64 (Int.ofNat i + 1))))) (z0 (z0 (z0 (zl (AV.agg [AV.i .i64 (Mb.dA b i), AV.i .i64 (Mb.dM b i), AV.i .i64 (Mb.dW b i)])) T.e) (zl (AV.b (decide (Int.ofNat i < Int.ofNat (Mb.dn b)))))) (z0 (zl (AV.i .i64 (Int.ofNat i))) (zl (AV.p 0 6))))) (z1 (AV.p 1 0) (z1 (AV.i .i64 (Int.ofNat i + 1)) (z0 (z0 (zl (AV.pv 3 (qF (Mb.dA b) (Mb.dM b) (Mb.dW b) i))) T.e) (zl (AV.i .i64 (Int.ofNat (Mb.dn b))))) (z0 T.e (zl (AV.lr 2 3 0 m false)))) (z0 (z0 (z0 (zl (AV.l 3 0 1 1 3 true)) T.e) (zl (AV.i .i64 (Int.ofNat i)))) (z0 (zl (AV.p 0 6)) (zl (AV.sv 3 (Mb.dn b) (qF (Mb.dA b) (Mb.dM b) (Mb.dW b)))))))) ⟨z1 (AObj.cells 40 7 [] (z1 (AV.i .i64 (Mb.x b 6)) (z1 (AV.i .i64 (Mb.x b 7)) (zl (AV.sv 1 (Mb.mn b) fun i x => CV.i .i64 (Mb.mf b i))) (zl (AV.sv 3 (Mb.hn b) (qF (Mb.hA b) (Mb.hM b) (Mb.hW b))))) (z1 (AV.i .i64 (Mb.x b 8)) (zl (AV.sv 1 (Mb.sn b) fun i x => CV.i .i64 (Mb.sf b i))) (zl (AV.sv 3 (Mb.dn b) (qF
  (Mb.dA b) (Mb.dM b) (Mb.dW b))))))) (z1 (AObj.cells 40 7 [AV.i .i64 0, AV.i .i64 0, AV.i .i64 0, AV.l0, AV.l0, AV.l0, AV.l0] T.e) (zl (AObj.cells 92 3 [] (z1 (AV.i .i64 (Mb.dA b i)) (zl (AV.i .i64 (Mb.dM b i))) (zl (AV.i .i64 (Mb.dW b i)))))) T.e) (z0 (zl (AObj.rows 92 3 (addN m 1) (appZ m F (listF 3 [CV.i .i64 (Mb.dA b i), CV.i .i64 (Mb.dM b i), CV.i .i64 (Mb.dW b i)] 1)))) T.e), 5, [4, 2, 3]⟩) Orc.z) := by kernel_rfl
theorem c52E_vc (b : Mb) (m i : Nat) (F : Nat → Nat → CV) (h1 : decide (Int.ofNat i < Int.ofNat (b.dn)) = false) (K : Res → Orc → Prop) : runK Try.prog 1000000 (.code (loopAt Try.prog 38 0) 39 (mkT [(1, .p 0 0), (2, .p 1 0), (3, .lr 2 3 0 m false), (4, .i .i64 (Int.ofNat i))]) (mkH [some (vwO b), some vzO, some (.rows 92 3 m F)])) (Orc.f Orc.z) K = (True ∧ decide (Int.ofNat i < Int.ofNat (Mb.dn b)) = false ∧ K (Res.st (XO.exit 0) (z0 (z1 (AV.p 0 0) (z1 (AV.lr 2 3 0 m false) (z0 T.e (zl (AV.sv 3 (Mb.dn b) (qF (Mb.dA b) (Mb.dM b) (Mb.dW b))))) T.e) (z0 (z0 T.e (zl (AV.b (decide (Int.ofNat i < Int.ofNat (Mb.dn b)))))) (z0 (zl (AV.i .i64 (Int.ofNat i))) T.e))) (z1 (AV.p 1 0) (z1 (AV.i .i64 (Int.ofNat i)) (z0 T.e (zl (AV.i .i64 (Int.ofNat (Mb.dn b))))) T.e) (z0 T.e (z0 (zl (AV.p 0 6)) T.e)))) ⟨z1 (AObj.cells 40 7 [] (z1 (AV.i .i64 (Mb.x b 6)) (z1 (AV.i .i64 (Mb.x b 7)) (zl (AV.sv 1 (Mb.mn b)
  fun i x => CV.i .i64 (Mb.mf b i))) (zl (AV.sv 3 (Mb.hn b) (qF (Mb.hA b) (Mb.hM b) (Mb.hW b))))) (z1 (AV.i .i64 (Mb.x b 8)) (zl (AV.sv 1 (Mb.sn b) fun i x => CV.i .i64 (Mb.sf b i))) (zl (AV.sv 3 (Mb.dn b) (qF (Mb.dA b) (Mb.dM b) (Mb.dW b))))))) (zl (AObj.cells 40 7 [AV.i .i64 0, AV.i .i64 0, AV.i .i64 0, AV.l0, AV.l0, AV.l0, AV.l0] T.e)) (zl (AObj.rows 92 3 m F)), 3, []⟩) Orc.z) := by kernel_rfl
theorem c52_vc (b : Mb) (K : Res → Orc → Prop) : runK Try.prog 1000000 (.call 38 [.agg (vwL b)] (mkH [])) (Orc.cal [] (isv (Mb.mn b) (Mb.mf b)) [] (Orc.cal [] (isv (Mb.sn b) (Mb.sf b)) [] (Orc.cal [] (svN (Mb.hn b) (Mb.hA b) (Mb.hM b) (Mb.hW b)) [] (Orc.lop [0, 1] [1, 2, 3, 4] 2 (XO.exit 0) [(1, AV.p 0 0), (2, AV.p 1 0), (3, AV.lr 2 3 0 (Mb.dn b) false)] [some (vwO b), some vzO, some (AObj.rows 92 3 (Mb.dn b) (qF (Mb.dA b) (Mb.dM b) (Mb.dW b)))] Orc.z)))) K = (True ∧ True ∧ Con Try.prog 49 [isv (Mb.mn b) (Mb.mf b)] [] (isv (Mb.mn b) (Mb.mf b)) [] ∧ True ∧ True ∧ True ∧ True ∧ Con Try.prog 49 [isv (Mb.sn b) (Mb.sf b)] [] (isv (Mb.sn b) (Mb.sf b)) [] ∧ True ∧ True ∧ True ∧ Con Try.prog 50 [svN (Mb.hn b) (Mb.hA b) (Mb.hM b) (Mb.hW b)] [] (svN (Mb.hn b) (Mb.hA b) (Mb.hM b) (Mb.hW b)) [] ∧ True ∧ LDoes Try.prog (loopAt Try.prog 38 0) 39 2 (mkT [(1, AV.p 0 0), (2, AV.p 1 0), (3, AV.l0), (4,
  AV.i .i64 0)]) [some (vwO b), some vzO] (XO.exit 0) (mkT [(1, AV.p 0 0), (2, AV.p 1 0), (3, AV.lr 2 3 0 (Mb.dn b) false)]) [some (vwO b), some vzO, some (AObj.rows 92 3 (Mb.dn b) (qF (Mb.dA b) (Mb.dM b) (Mb.dW b)))] ∧ True ∧ K (Res.rv (AV.agg [AV.i .i64 (Mb.x b 6), AV.i .i64 (Mb.x b 7), AV.i .i64 (Mb.x b 8), AV.sv 1 (Mb.mn b) fun i x => CV.i .i64 (Mb.mf b i), AV.sv 1 (Mb.sn b) fun i x => CV.i .i64 (Mb.sf b i), AV.sv 3 (Mb.hn b) (qF (Mb.hA b) (Mb.hM b) (Mb.hW b)), AV.lr 2 3 0 (Mb.dn b) false]) ⟨z1 (AObj.cells 40 7 [] (z1 (AV.i .i64 (Mb.x b 6)) (z1 (AV.i .i64 (Mb.x b 7)) (zl (AV.sv 1 (Mb.mn b) fun i x => CV.i .i64 (Mb.mf b i))) (zl (AV.sv 3 (Mb.hn b) (qF (Mb.hA b) (Mb.hM b) (Mb.hW b))))) (z1 (AV.i .i64 (Mb.x b 8)) (zl (AV.sv 1 (Mb.sn b) fun i x => CV.i .i64 (Mb.sf b i))) (zl (AV.lr 2 3 0 (Mb.dn b) false))))) (zl (AObj.cells 40 7 [AV.i .i64 0, AV.i .i64 0, AV.i .i64 0, AV.l0, AV.l0, AV.l0,
  AV.l0] (z1 (AV.i .i64 (Mb.x b 6)) (z1 (AV.i .i64 (Mb.x b 7)) (zl (AV.sv 1 (Mb.mn b) fun i x => CV.i .i64 (Mb.mf b i))) (zl (AV.sv 3 (Mb.hn b) (qF (Mb.hA b) (Mb.hM b) (Mb.hW b))))) (z1 (AV.i .i64 (Mb.x b 8)) (zl (AV.sv 1 (Mb.sn b) fun i x => CV.i .i64 (Mb.sf b i))) (zl (AV.lr 2 3 0 (Mb.dn b) false)))))) (zl (AObj.rows 92 3 (Mb.dn b) (qF (Mb.dA b) (Mb.dM b) (Mb.dW b)))), 3, [1, 0, 2, 1, 0, 0, 0, 0, 1, 0]⟩) Orc.z) := by kernel_rfl
theorem c50_lp (n : Nat) (A M W : Nat → Int) (hn : n ≤ 5864062014805) : LDoes Try.prog (loopAt Try.prog 50 0) 19 0 (mkT [(0, svN n A M W), (3, .l0), (4, .i .i64 0)]) [] (.exit 0) (mkT [(3, .lr 0 3 0 n false)]) [some (.rows 73 3 n (qF A M W))] := by
  have key := loop_indE (P := Try.prog) (c := loopAt Try.prog 50 0) (n := 19) (b := 0) (x := .exit 0) (l' := [(3, .lr 0 3 0 n false)]) (objs' := [some (.rows 73 3 n (qF A M W))]) (D := Nat × Nat)
    (fun q : Nat × Nat => ([(0, svN n A M W), (3, .lr 0 3 0 q.2 false), (4, .i .i64 (Int.ofNat q.1))], [some (.rows 73 3 q.2 (qF A M W))])) (fun q => n - q.1) (fun q => q.1 ≤ n ∧ q.2 = q.1) ?_ (0, 0) ⟨Nat.zero_le _, rfl⟩
  · refine key.weak ⟨rfl, .inl rfl, rfl, .inr ⟨rfl, .inl ⟨0, 3, 0, false, rfl⟩⟩, rfl, .inl rfl, trivial⟩ ?_
    intro o ho
    simp at ho; subst ho
    exact ⟨_, rfl, rfl⟩
  rintro ⟨i, m⟩ ⟨hi, hm⟩
  simp only at hi hm
  subst hm
  refine ⟨Nat.zero_le _, ?_⟩
  by_cases e : m = n
  · have h1 : decide (Int.ofNat m < Int.ofNat n) = false := by simp; omega
    refine ⟨_, _, (c50E_vc n m m A M W _ h1 _).mpr ⟨h1, ?_⟩⟩
    subst e
    exact .inr ⟨[0], [], _, _, _, rfl, by simp, st_k [0] (by kernel_rfl), OEqL.refl _⟩
  · have h1 : decide (Int.ofNat m < Int.ofNat n) = true := by simp; omega
    refine ⟨_, _, (c50R_vc n m m A M W _ h1 _).mpr ⟨h1, ⟨by simp, by simp <;> omega⟩, trivial, ⟨by omega, trivial, by omega, by omega⟩, ⟨by simp <;> omega, by simp <;> omega⟩, .inl ⟨(m + 1, addN m 1), [2], [], _, _, [some (.rows 73 3 (addN m 1) (appZ m (qF A M W) (listF 3 [.i .i64 (A m), .i .i64 (M m), .i .i64 (W m)] 1)))], ⟨by omega, addN_eq _ _⟩, by show n - (m + 1) < n - m; omega, rfl, ?_, ?_⟩⟩⟩
    · dsimp only
      exact st_k [2] (by kernel_rfl)
    · dsimp only
      refine ⟨.rows ?_, trivial⟩
      intro j c hj hc
      rw [addN_eq] at hj
      rw [apq3 hc (fun _ _ => rfl) (fun c hc => listF_q (A m) (M m) (W m) _ c hc)]
      by_cases d : j < m
      · rw [if_pos d]
      · obtain rfl : j = m := by omega
        rw [if_neg d]
        rfl
theorem c50_con (n : Nat) (A M W : Nat → Int) (hn : n ≤ 5864062014805) : Con Try.prog 50 [svN n A M W] [] (svN n A M W) [] := by
  have h0 : Con Try.prog 50 [svN n A M W] [] (.sv 3 n (shiftF 0 (qF A M W))) [] := by
    refine con_runX [0] [] (c50_vc n A M W _) ⟨c50_lp n A M W hn, _, _, rfl, ?_⟩
    exact ret_fz [0] ((3 = 3 ∧ 0 + n ≤ n) ∧ True) (by kernel_rfl) (by kernel_rfl) ⟨⟨rfl, by omega⟩, trivial⟩ (by kernel_rfl) rfl (by kernel_rfl) (by kernel_rfl) rfl trivial
  refine h0.post (VW.sv fun i j hi hj => ?_) trivial
  rw [shiftF_eq, Nat.zero_add]
theorem c51_lp (n : Nat) (f : Nat → Int) (hn : n ≤ 17592186044416) : LDoes Try.prog (loopAt Try.prog 49 0) 19 0 (mkT [(0, isv n f), (3, .l0), (4, .i .i64 0)]) [] (.exit 0) (mkT [(3, .lr 0 1 0 n false)]) [some (.rows 3 1 n fun i _ => .i .i64 (f i))] := by
  have key := loop_indE (P := Try.prog) (c := loopAt Try.prog 49 0) (n := 19) (b := 0) (x := .exit 0) (l' := [(3, .lr 0 1 0 n false)]) (objs' := [some (.rows 3 1 n fun i _ => .i .i64 (f i))]) (D := Nat × Nat)
    (fun q : Nat × Nat => ([(0, isv n f), (3, .lr 0 1 0 q.2 false), (4, .i .i64 (Int.ofNat q.1))], [some (.rows 3 1 q.2 fun i _ => .i .i64 (f i))])) (fun q => n - q.1) (fun q => q.1 ≤ n ∧ q.2 = q.1) ?_ (0, 0) ⟨Nat.zero_le _, rfl⟩
  · refine key.weak ⟨rfl, .inl rfl, rfl, .inr ⟨rfl, .inl ⟨0, 1, 0, false, rfl⟩⟩, rfl, .inl rfl, trivial⟩ ?_
    intro o ho
    simp at ho; subst ho
    exact ⟨_, rfl, rfl⟩
  rintro ⟨i, m⟩ ⟨hi, hm⟩
  simp only at hi hm
  subst hm
  refine ⟨Nat.zero_le _, ?_⟩
  by_cases e : m = n
  · have h1 : decide (Int.ofNat m < Int.ofNat n) = false := by simp; omega
    refine ⟨_, _, (c51E_vc n m m f _ h1 _).mpr ⟨h1, ?_⟩⟩
    subst e
    exact .inr ⟨[0], [], _, _, _, rfl, by simp, st_k [0] (by kernel_rfl), OEqL.refl _⟩
  · have h1 : decide (Int.ofNat m < Int.ofNat n) = true := by simp; omega
    refine ⟨_, _, (c51R_vc n m m f _ h1 _).mpr ⟨h1, ⟨by simp, by simp <;> omega⟩, trivial, ⟨by omega, trivial, by omega, by omega⟩, ⟨by simp <;> omega, by simp <;> omega⟩, .inl ⟨(m + 1, addN m 1), [2], [], _, _, [some (.rows 3 1 (addN m 1) (appZ m (fun i _ => .i .i64 (f i)) (listF 1 [.i .i64 (f m)] 1)))], ⟨by omega, addN_eq _ _⟩, by show n - (m + 1) < n - m; omega, rfl, ?_, ?_⟩⟩⟩
    · dsimp only
      exact st_k [2] (by kernel_rfl)
    · dsimp only
      refine ⟨.rows ?_, trivial⟩
      intro j c hj hc
      rw [addN_eq] at hj
      obtain rfl : c = 0 := by omega
      rw [appZ_i (k := .i64) (a := f j) (b := f m) rfl rfl]
      by_cases d : j < m
      · rw [if_pos d]
      · obtain rfl : j = m := by omega
        rw [if_neg d]
theorem c51_con (n : Nat) (f : Nat → Int) (hn : n ≤ 17592186044416) : Con Try.prog 49 [isv n f] [] (isv n f) [] := by
  have h0 : Con Try.prog 49 [isv n f] [] (.sv 1 n (shiftF 0 (fun i _ => .i .i64 (f i)))) [] := by
    refine con_runX [0] [] (c51_vc n f _) ⟨c51_lp n f hn, _, _, rfl, ?_⟩
    exact ret_fz [0] ((1 = 1 ∧ 0 + n ≤ n) ∧ True) (by kernel_rfl) (by kernel_rfl) ⟨⟨rfl, by omega⟩, trivial⟩ (by kernel_rfl) rfl (by kernel_rfl) (by kernel_rfl) rfl trivial
  refine h0.post (VW.sv fun i j hi hj => ?_) trivial
  rw [shiftF_eq, Nat.zero_add]
theorem c52_lp (b : Mb) (hn : b.dn ≤ 5864062014805) : LDoes Try.prog (loopAt Try.prog 38 0) 39 2 (mkT [(1, .p 0 0), (2, .p 1 0), (3, .l0), (4, .i .i64 0)]) [some (vwO b), some vzO] (.exit 0) (mkT [(1, .p 0 0), (2, .p 1 0), (3, .lr 2 3 0 b.dn false)]) [some (vwO b), some vzO, some (.rows 92 3 b.dn (qF b.dA b.dM b.dW))] := by
  have key := loop_indE (P := Try.prog) (c := loopAt Try.prog 38 0) (n := 39) (b := 2) (x := .exit 0) (l' := [(1, .p 0 0), (2, .p 1 0), (3, .lr 2 3 0 b.dn false)]) (objs' := [some (vwO b), some vzO, some (.rows 92 3 b.dn (qF b.dA b.dM b.dW))]) (D := Nat × Nat)
    (fun q : Nat × Nat => ([(1, .p 0 0), (2, .p 1 0), (3, .lr 2 3 0 q.2 false), (4, .i .i64 (Int.ofNat q.1))], [some (vwO b), some vzO, some (.rows 92 3 q.2 (qF b.dA b.dM b.dW))])) (fun q => b.dn - q.1) (fun q => q.1 ≤ b.dn ∧ q.2 = q.1) ?_ (0, 0) ⟨Nat.zero_le _, rfl⟩
  · refine key.weak ⟨rfl, .inl rfl, rfl, .inl rfl, rfl, .inr ⟨rfl, .inl ⟨2, 3, 0, false, rfl⟩⟩, rfl, .inl rfl, trivial⟩ ⟨.refl _, .refl _, ?_⟩
    intro o ho
    simp at ho; subst ho
    exact ⟨_, rfl, rfl⟩
  rintro ⟨i, m⟩ ⟨hi, hm⟩
  simp only at hi hm
  subst hm
  refine ⟨by simp, ?_⟩
  by_cases e : m = b.dn
  · have h1 : decide (Int.ofNat m < Int.ofNat b.dn) = false := by simp; omega
    refine ⟨_, _, (c52E_vc b m m _ h1 _).mpr ⟨trivial, h1, ?_⟩⟩
    subst e
    exact .inr ⟨[0, 1, 2], [], _, _, _, rfl, by simp, st_k [0, 1, 2] (by kernel_rfl), OEqL.refl _⟩
  · have h1 : decide (Int.ofNat m < Int.ofNat b.dn) = true := by simp; omega
    refine ⟨_, _, (c52R_vc b m m _ h1 _).mpr ⟨trivial, h1, trivial, ⟨by simp, by simp <;> omega⟩, trivial, ⟨by omega, trivial, by omega, by omega⟩, ⟨by simp <;> omega, by simp <;> omega⟩, .inl ⟨(m + 1, addN m 1), [0, 1, 4], [], _, _, [some (vwO b), some vzO, some (.rows 92 3 (addN m 1) (appZ m (qF b.dA b.dM b.dW) (listF 3 [.i .i64 (b.dA m), .i .i64 (b.dM m), .i .i64 (b.dW m)] 1)))], ⟨by omega, addN_eq _ _⟩, by show b.dn - (m + 1) < b.dn - m; omega, rfl, ?_, ?_⟩⟩⟩
    · dsimp only
      exact st_k [0, 1, 4] (by kernel_rfl)
    · dsimp only
      refine ⟨.refl _, .refl _, .rows ?_, trivial⟩
      intro j c hj hc
      rw [addN_eq] at hj
      rw [apq3 hc (fun _ _ => rfl) (fun c hc => listF_q (b.dA m) (b.dM m) (b.dW m) _ c hc)]
      by_cases d : j < m
      · rw [if_pos d]
      · obtain rfl : j = m := by omega
        rw [if_neg d]
        rfl
theorem c52_con (b : Mb) (hb : b.mn ≤ 17592186044416 ∧ b.sn ≤ 17592186044416 ∧ b.hn ≤ 5864062014805 ∧ b.dn ≤ 5864062014805) : Con Try.prog 38 [.agg (vwL b)] [] (.agg (vwL b)) [] := by
  obtain ⟨b1, b2, b3, b4⟩ := hb
  have h0 : Con Try.prog 38 [.agg (vwL b)] [] (.agg [.i .i64 (b.x 6), .i .i64 (b.x 7), .i .i64 (b.x 8), isv b.mn b.mf, isv b.sn b.sf, svN b.hn b.hA b.hM b.hW, .sv 3 b.dn (shiftF 0 (qF b.dA b.dM b.dW))]) [] := by
    refine con_runX [2] [] (c52_vc b _) ⟨trivial, trivial, c51_con _ _ b1, trivial, trivial, trivial, trivial, c51_con _ _ b2, trivial, trivial, trivial, c50_con _ _ _ _ b3, trivial, c52_lp b b4, trivial, _, _, rfl, ?_⟩
    exact ret_fz [2] ((True ∧ True ∧ True ∧ True ∧ True ∧ True ∧ (3 = 3 ∧ 0 + b.dn ≤ b.dn) ∧ True) ∧ True) (by kernel_rfl) (by kernel_rfl) ⟨⟨trivial, trivial, trivial, trivial, trivial, trivial, ⟨rfl, by omega⟩, trivial⟩, trivial⟩ (by kernel_rfl) rfl (by kernel_rfl) (by kernel_rfl) rfl trivial
  refine h0.post (.agg ⟨.refl _, .refl _, .refl _, .refl _, .refl _, .refl _, VW.sv fun i j hi hj => ?_, trivial⟩) trivial
  rw [shiftF_eq, Nat.zero_add]
set_option maxRecDepth 20000
theorem e1 : askE zS 3 0 1 = 0 := by kernel_rfl
set_option maxRecDepth 20000
theorem shR_vc (n i : Nat) (A M W : Nat → Int) (h0 : decide (Int.ofNat i < Int.ofNat n) = true) (h1 : (!(decide (A (Int.toNat (Int.ofNat i)) = A (Int.toNat (Int.ofNat i))) && (decide (M (Int.toNat (Int.ofNat i)) = M (Int.toNat (Int.ofNat i))) && (decide (W (Int.toNat (Int.ofNat i)) = W (Int.toNat (Int.ofNat i))) && true)))) = false) (K : Res → Orc → Prop) : runK Try.prog 1000000 (.code (loopAt Try.prog 40 0) 26 (mkT [(0, svN n A M W), (1, svN n A M W), (5, .i .i64 (Int.ofNat i))]) (mkH [])) (Orc.t (Orc.f Orc.z)) K = (decide (Int.ofNat i < Int.ofNat n) = true ∧ (0 ≤ Int.ofNat i ∧ Int.ofNat i < ↑n) ∧ True ∧ (0 ≤ Int.ofNat i ∧ Int.ofNat i < ↑n) ∧ True ∧ True ∧ (!(decide (A i = A i) && (decide (M i = M i) && (decide (W i = W i) && true)))) = false ∧ ((-9223372036854775808) ≤ Int.ofNat i + 1 ∧ Int.ofNat i + (1 : Int) ≤ (9223372036854775807 : Int)) ∧ K (Res.st XO.nrm (z1 (AV.sv 3 n (qF A M W))
  (z1 (AV.sv 3 n (qF A M W)) (z0 (z0 (zl (AV.i .i64 (Int.ofNat i))) (zl (AV.pv 3 (qF A M W i)))) (z1 (AV.i .i64 (Int.ofNat i)) (zl (AV.pv 3 (qF A M W i))) T.e)) (z1 (AV.i .i64 (Int.ofNat i + 1)) (z0 (zl (AV.sv 3 n (qF A M W))) (zl (AV.b !(decide (A i = A i) && (decide (M i = M i) && (decide (W i = W i) && true)))))) (z1 (AV.i .i64 (Int.ofNat n)) (zl (AV.sv 3 n (qF A M W))) T.e))) (z0 (z0 (z0 (zl (AV.i .i64 (Int.ofNat i + 1))) (zl (AV.agg [AV.i .i64 (A i), AV.i .i64 (M i), AV.i .i64 (W i)]))) (z1 (AV.sv 3 n (qF A M W)) (zl (AV.agg [AV.i .i64 (A i), AV.i .i64 (M i), AV.i .i64 (W i)])) T.e)) (z0 (z0 (zl (AV.i .i64 (Int.ofNat i))) T.e) (z1 (AV.b (decide (Int.ofNat i < Int.ofNat n))) (zl (AV.i .i64 (Int.ofNat i))) T.e)))) ⟨T.e, 0, []⟩) Orc.z) := by kernel_rfl
theorem shE_vc (n i : Nat) (A M W : Nat → Int) (h0 : decide (Int.ofNat i < Int.ofNat n) = false) (K : Res → Orc → Prop) : runK Try.prog 1000000 (.code (loopAt Try.prog 40 0) 26 (mkT [(0, svN n A M W), (1, svN n A M W), (5, .i .i64 (Int.ofNat i))]) (mkH [])) (Orc.f Orc.z) K = (decide (Int.ofNat i < Int.ofNat n) = false ∧ K (Res.st (XO.exit 0) (z1 (AV.sv 3 n (qF A M W)) (z1 (AV.sv 3 n (qF A M W)) (z0 T.e (zl (AV.i .i64 (Int.ofNat i)))) (z1 (AV.i .i64 (Int.ofNat i)) T.e (zl (AV.i .i64 (Int.ofNat n))))) (z0 (z0 T.e (zl (AV.sv 3 n (qF A M W)))) (z0 T.e (zl (AV.b (decide (Int.ofNat i < Int.ofNat n))))))) ⟨T.e, 0, []⟩) Orc.z) := by kernel_rfl
theorem sh_vc (n : Nat) (A M W : Nat → Int) (V : AV) : runK Try.prog 1000000 (.call 40 [svN n A M W, svN n A M W] (mkH [])) (Orc.f (Orc.lop [] [0, 1, 5] 0 (XO.exit 0) [] [] Orc.z)) (fun r _ => rvIs V r) = ((!decide (Int.ofNat n = Int.ofNat n)) = false ∧ LDoes Try.prog (loopAt Try.prog 40 0) 26 0 (mkT [(0, svN n A M W), (1, svN n A M W), (5, AV.i .i64 0)]) [] (XO.exit 0) (mkT []) [] ∧ (AV.b true) = V) := by kernel_rfl
theorem sh_lp (n : Nat) (A M W : Nat → Int) (hn : n ≤ 1152921504606846976) : LDoes Try.prog (loopAt Try.prog 40 0) 26 0 (mkT [(0, svN n A M W), (1, svN n A M W), (5, .i .i64 0)]) [] (.exit 0) (mkT []) [] := by
  refine loop_ind (fun i : Nat => ([(0, svN n A M W), (1, svN n A M W), (5, .i .i64 (Int.ofNat i))], [])) (fun i => n - i) (fun i => i ≤ n) ?_ 0 (Nat.zero_le _)
  intro i hi
  refine ⟨Nat.le_refl _, ?_⟩
  by_cases e : i = n
  · have h0 : decide (Int.ofNat i < Int.ofNat n) = false := by simp; omega
    exact ⟨_, _, (shE_vc n i A M W h0 _).mpr ⟨h0, .inr ⟨[], [], _, _, rfl, by simp, st_k [] (by kernel_rfl)⟩⟩⟩
  · have h0 : decide (Int.ofNat i < Int.ofNat n) = true := by simp; omega
    have h1 : (!(decide (A (Int.toNat (Int.ofNat i)) = A (Int.toNat (Int.ofNat i))) && (decide (M (Int.toNat (Int.ofNat i)) = M (Int.toNat (Int.ofNat i))) && (decide (W (Int.toNat (Int.ofNat i)) = W (Int.toNat (Int.ofNat i))) && true)))) = false := by simp
    exact ⟨_, _, (shR_vc n i A M W h0 h1 _).mpr ⟨h0, ⟨by simp <;> omega, by simp <;> omega⟩, trivial, ⟨by simp <;> omega, by simp <;> omega⟩, trivial, trivial, h1, ⟨by simp <;> omega, by simp <;> omega⟩, .inl ⟨i + 1, [], [], _, _, by omega, by show n - (i + 1) < n - i; omega, rfl, st_k [] (by kernel_rfl)⟩⟩⟩
end Go.Proofs.Lk
namespace Go.Proofs.Sv
open Go Go.Sim Go.Proofs Go.Proofs.Lk
def wi (n a b : Int) : Bool := decide (a ≤ n) && decide (n ≤ b)
structure Cm where
  k : Int
  sv : Int
  bt : Int
  sq : Int
  gn : Int
  lk : Int
  md : Int
  ot : Int
  mn : Nat
  mf : Nat → Int
  d : Int
noncomputable def cmL (c : Cm) : List AV := [.i .i64 c.k, .i .i64 c.sv, .i .i64 c.bt, .i .i64 c.sq, .i .i64 c.gn, .i .i64 c.lk, .i .i64 c.md, .i .i64 c.ot, isv c.mn c.mf, .i .i64 c.d]
noncomputable def cmV (c : Cm) : AV := .agg (cmL c)
def ixP (p : Nat → Bool) : Nat → Nat → Int
  | 0, _ => -1
  | m + 1, i => bif p i then Int.ofNat i else ixP p m (i + 1)
def anyP (p : Nat → Bool) : Nat → Nat → Bool
  | 0, _ => false
  | m + 1, i => p i || anyP p m (i + 1)
def shT (k : Int) : List Int :=
  if k = 1 then [0, 2, 1, 1099511627776, 1, 1099511627776, 0, 0, 0, 0, 0, 0, 0, 0, 0, 0, 0, 1048576]
  else if k = 2 then [0, 2, 1, 1099511627776, 1, 1099511627776, 0, 1099511627776, 0, 0, 0, 0, 0, 0, 0, 0, 0, 1048576]
  else if k = 3 then [0, 2, 1, 1099511627776, 1, 1099511627776, 0, 1099511627776, 0, 18, 1, 2, 0, 0, 0, 0, 0, 1048576]
  else if k = 4 then [0, 2, 1, 1099511627776, 1, 1099511627776, 0, 1099511627776, 0, 18, 0, 0, 0, 0, 0, 0, 0, 1048576]
  else if k = 5 then [0, 2, 1, 1099511627776, 1, 1099511627776, 0, 1099511627776, 0, 0, 0, 0, 0, 2, 0, 0, 0, 1048576]
  else if k = 6 then [0, 2, 1, 1099511627776, 1, 1099511627776, 0, 1099511627776, 0, 0, 0, 0, 0, 2, 0, 0, 0, 1048576]
  else if k = 7 then [0, 2, 1, 1099511627776, 1, 1099511627776, 0, 1099511627776, 0, 0, 0, 0, 0, 0, 1, 3, 0, 1048576]
  else if k = 8 then [0, 0, 0, 0, 0, 0, 0, 0, 0, 0, 0, 0, 0, 0, 0, 0, 1, 1048576]
  else [0, 0, 0, 0, 0, 0, 0, 0, 0, 0, 0, 0, 0, 0, 0, 0, 0, 0]
def shA (k : Int) (i : Nat) : Int := (shT k).getD i 0
def kdB (k : Int) : Bool := wi k 1 8
noncomputable def shL (a : Nat → Int) : AV := .agg [.i .i64 (a 0), .i .i64 (a 1), .i .i64 (a 2), .i .i64 (a 3), .i .i64 (a 4), .i .i64 (a 5), .i .i64 (a 6), .i .i64 (a 7), .i .i64 (a 8), .i .i64 (a 9), .i .i64 (a 10), .i .i64 (a 11), .i .i64 (a 12), .i .i64 (a 13), .i .i64 (a 14), .i .i64 (a 15), .i .i64 (a 16), .i .i64 (a 17)]
def fitB (a : Nat → Int) (c : Cm) : Bool := wi c.sv (a 0) (a 1) && (wi c.bt (a 2) (a 3) && (wi c.sq (a 4) (a 5) && (wi c.gn (a 6) (a 7) && (wi c.lk (a 8) (a 9) && (wi c.md (a 10) (a 11) && (wi c.ot (a 12) (a 13) &&
  (wi c.d (a 16) (a 17) && (wi (Int.ofNat c.mn) (a 14) (a 15) && !anyP (fun i => !wi (c.mf i) 0 2) c.mn 0))))))))
def vcB (c : Cm) : Bool := kdB c.k && fitB (shA c.k) c
end Go.Proofs.Sv
namespace Go.Proofs.Ck
open Go Go.Sim Go.Proofs Go.Proofs.Lk Go.Proofs.Sv
structure Cl where
  s : Int
  b : Int
  p : Int
  q : Int
  n : Int
  o : Bool
  c : Cm
  f : Int
  l : Int
noncomputable def clL (x : Cl) : List AV := [.i .i64 x.s, .i .i64 x.b, .i .i64 x.p, .i .i64 x.q, .i .i64 x.n, .b x.o, .i .i64 x.c.k, .i .i64 x.c.sv, .i .i64 x.c.bt, .i .i64 x.c.sq, .i .i64 x.c.gn, .i .i64 x.c.lk, .i .i64 x.c.md, .i .i64 x.c.ot, isv x.c.mn x.c.mf, .i .i64 x.c.d, .i .i64 x.f, .i .i64 x.l]
noncomputable def clO (x : Cl) : AObj := .cells 80 18 [] (setAll .e 0 (clL x))
def cm0 : Cm := ⟨0, 0, 0, 0, 0, 0, 0, 0, 0, fun _ => 0, 0⟩
def mb0 : Mb := ⟨fun _ => 0, 0, fun _ => 0, 0, fun _ => 0, 0, fun _ => 0, fun _ => 0, fun _ => 0, 0, fun _ => 0, fun _ => 0, fun _ => 0⟩
structure Mg where
  k : Int
  fr : Int
  to : Int
  bl : Int
  sl : Int
  ab : Int
  av : List Nat
  st : List Nat
  c : Cm
  v : Mb
noncomputable def mgL (m : Mg) : List AV := [.i .i64 m.k, .i .i64 m.fr, .i .i64 m.to, .i .i64 m.bl, .i .i64 m.sl, .i .i64 m.ab, .s m.av, .s m.st,
  .i .i64 m.c.k, .i .i64 m.c.sv, .i .i64 m.c.bt, .i .i64 m.c.sq, .i .i64 m.c.gn, .i .i64 m.c.lk, .i .i64 m.c.md, .i .i64 m.c.ot, isv m.c.mn m.c.mf, .i .i64 m.c.d,
  .i .i64 (m.v.x 6), .i .i64 (m.v.x 7), .i .i64 (m.v.x 8), isv m.v.mn m.v.mf, isv m.v.sn m.v.sf, svN m.v.hn m.v.hA m.v.hM m.v.hW, svN m.v.dn m.v.dA m.v.dM m.v.dW]
noncomputable def mgV (m : Mg) : AV := .agg (mgL m)
end Go.Proofs.Ck
set_option maxRecDepth 20000
namespace Go.Proofs.Sv
open Go Go.Sim Go.Proofs Go.Proofs.Lk Go.Proofs.Ytgggnjjhfkijfaa
theorem w50_vc (n a b : Int) (V : AV) : runK Try.prog 1000000 (.call 58 [.i .i64 n, .i .i64 a, .i .i64 b] (mkH [])) (Orc.s (Orc.t (Orc.t (Orc.t Orc.z))) (Orc.f (Orc.f (Orc.f
  Orc.z)))) (fun r _ => rvIs V r) = ((decide (a ≤ n) = true → decide (a ≤ n) = true ∧ decide (a ≤ n) = true ∧ decide (a ≤ n) = true ∧ (AV.b (decide (n ≤ b))) = V) ∧ (decide (a ≤ n)
  = false → decide (a ≤ n) = false ∧ decide (a ≤ n) = false ∧ decide (a ≤ n) = false ∧ (AV.b false) = V)) := by kernel_rfl
theorem has_vc (w : Int → Int → Int → Bool) (n a b : Int) (V : AV) : runK Try.prog 1000000 (.call 54 [.agg [.i .i64 a, .i .i64 b], .i .i64 n] (mkH [])) (Orc.cal [] (AV.b (w n a
  b)) [] Orc.z) (fun r _ => rvIs V r) = (True ∧ True ∧ Con Try.prog 58 [AV.i IntKind.i64 n, AV.i IntKind.i64 a, AV.i IntKind.i64 b] [] (AV.b (w n a b)) [] ∧ (AV.b (w n a b)) = V)
  := by kernel_rfl
theorem nn_vc (w : Int → Int → Int → Bool) (n : Int) (V : AV) : runK Try.prog 1000000 (.call 56 [.i .i64 n] (mkH [])) (Orc.cal [] (AV.b (w n (0 : Int) (2 : Int))) [] Orc.z) (fun
  r _ => rvIs V r) = (Con Try.prog 58 [AV.i IntKind.i64 n, AV.i IntKind.i64 (0 : Int), AV.i IntKind.i64 (2 : Int)] [] (AV.b (w n (0 : Int) (2 : Int))) [] ∧ True ∧ (AV.b !w n (0 :
  Int) (2 : Int)) = V) := by kernel_rfl
theorem wi_t {n a b : Int} (h : decide (a ≤ n) = true) : (AV.b (decide (n ≤ b))) = .b (wi n a b) := by unfold wi; rw [h]; rfl
theorem wi_f {n a b : Int} (h : decide (a ≤ n) = false) : (AV.b false) = .b (wi n a b) := by unfold wi; rw [h]; rfl
theorem w50_con (n a b : Int) : Con Try.prog 58 [.i .i64 n, .i .i64 a, .i .i64 b] [] (.b (wi n a b)) [] := con_pureX (w50_vc n a b _) rfl ⟨fun h => ⟨h, h, h, wi_t h⟩, fun h => ⟨h, h, h, wi_f h⟩⟩
theorem has_con (n a b : Int) : Con Try.prog 54 [.agg [.i .i64 a, .i .i64 b], .i .i64 n] [] (.b (wi n a b)) [] := con_pureX (has_vc wi n a b _) rfl ⟨trivial, trivial, w50_con _ _ _, rfl⟩
theorem nn_con (n : Int) : Con Try.prog 56 [.i .i64 n] [] (.b (!wi n 0 2)) [] := con_pureX (nn_vc wi n _) rfl ⟨w50_con _ _ _, trivial, rfl⟩
theorem ixP_any (p : Nat → Bool) : ∀ m i, decide (0 ≤ ixP p m i) = anyP p m i
  | 0, i => rfl
  | m + 1, i => by
    unfold ixP anyP
    cases p i with
    | true => simp
    | false => simpa using ixP_any p m (i + 1)
theorem ifE_lq (n : Nat) (f : Nat → Int) (h1 : decide (Int.ofNat n < Int.ofNat n) = false) : LD Try.prog (loopAt Try.prog 59 0) 19 0 [(0, isv n f), (1, .fn (.func 56) []
  []), (6, isv n f), (7, .i .i64 (Int.ofNat n)), (8, .i .i64 (Int.ofNat n))] [] (Orc.f Orc.z) (.exit 0) [] [] [] 0 (fun Lf => decide (Int.ofNat n < Int.ofNat n) = false ∧ Lf)
  := by unfold LD LQ; kernel_rfl
theorem ifT_lq (p : Int → Bool) (n i : Nat) (f : Nat → Int) (h1 : decide (Int.ofNat i < Int.ofNat n) = true) (h2 : p (f i) = true) : LD Try.prog (loopAt Try.prog 59 0) 19 0
  [(0, isv n f), (1, .fn (.func 56) [] []), (6, isv n f), (7, .i .i64 (Int.ofNat n)), (8, .i .i64 (Int.ofNat i))] [] (Orc.t (Orc.cal [] (.b (p (f i))) [] (Orc.t Orc.z))) .ret
  [] [(4, .i .i64 (Int.ofNat i))] [] 0 (fun Lf => decide (Int.ofNat i < Int.ofNat n) = true ∧ (0 ≤ Int.ofNat i ∧ Int.ofNat i < ↑n) ∧ True ∧ Con Try.prog 56 [.i .i64 (f i)] []
  (.b (p (f i))) [] ∧ p (f i) = true ∧ Lf) := by unfold LD LQ; kernel_rfl
theorem ifN_lq (p : Int → Bool) (n i : Nat) (f : Nat → Int) (h1 : decide (Int.ofNat i < Int.ofNat n) = true) (h2 : p (f i) = false) : LD Try.prog (loopAt Try.prog 59 0) 19 0
  [(0, isv n f), (1, .fn (.func 56) [] []), (6, isv n f), (7, .i .i64 (Int.ofNat n)), (8, .i .i64 (Int.ofNat i))] [] (Orc.t (Orc.cal [] (.b (p (f i))) [] (Orc.f Orc.z))) .nrm
  [] [(0, isv n f), (1, .fn (.func 56) [] []), (6, isv n f), (7, .i .i64 (Int.ofNat n)), (8, .i .i64 (Int.ofNat i + 1))] [] 0 (fun Lf => decide (Int.ofNat i < Int.ofNat n) =
  true ∧ (0 ≤ Int.ofNat i ∧ Int.ofNat i < ↑n) ∧ True ∧ Con Try.prog 56 [.i .i64 (f i)] [] (.b (p (f i))) [] ∧ p (f i) = false ∧ rg (Int.ofNat i + 1) ∧ Lf)
  := by unfold LD LQ; kernel_rfl
theorem iff_vq (n : Nat) (f : Nat → Int) (r : Int) : VD Try.prog 59 [isv n f, .fn (.func 56) [] []] [] (Orc.lop [] [0, 1, 6, 7, 8] 0 XO.ret [(4, .i .i64 r)] [] Orc.z) (.i
  .i64 r) [] [] 0 (fun Lf => LDoes Try.prog (loopAt Try.prog 59 0) 19 0 (mkT [(0, isv n f), (1, AV.fn (Fn.func 56) [] []), (6, isv n f), (7, .i .i64 (Int.ofNat n)), (8, .i
  .i64 0)]) [] XO.ret (mkT [(4, .i .i64 r)]) [] ∧ Lf) := by unfold VD VQ; kernel_rfl
theorem ifg_vq (n : Nat) (f : Nat → Int) : VD Try.prog 59 [isv n f, .fn (.func 56) [] []] [] (Orc.lop [] [0, 1, 6, 7, 8] 0 (XO.exit 0) [] [] Orc.z) (.i .i64 (-1)) [] [] 0
  (fun Lf => LDoes Try.prog (loopAt Try.prog 59 0) 19 0 (mkT [(0, isv n f), (1, AV.fn (Fn.func 56) [] []), (6, isv n f), (7, .i .i64 (Int.ofNat n)), (8, .i .i64 0)]) []
  (XO.exit 0) (mkT []) [] ∧ Lf) := by unfold VD VQ; kernel_rfl
noncomputable abbrev ifL (n : Nat) (f : Nat → Int) (i : Nat) : List (Nat × AV) := [(0, isv n f), (1, .fn (.func 56) [] []), (6, isv n f), (7, .i .i64 (Int.ofNat n)), (8, .i .i64 (Int.ofNat i))]
theorem if_lpF (n : Nat) (hn : n ≤ 1152921504606846976) (f : Nat → Int) (r : Int) (h : ixP (fun i => !wi (f i) 0 2) n 0 = r) (hr : r ≠ -1) : LDoes Try.prog (loopAt Try.prog 59 0) 19 0 (mkT (ifL n f 0)) [] .ret (mkT [(4, .i .i64 r)]) [] := by
  refine loop_q (fun i => (ifL n f i, [])) (fun i => n - i) (fun i => i ≤ n ∧ ixP (fun i => !wi (f i) 0 2) (n - i) i = r) (fun _ => Nat.zero_le _) ?_ 0 ⟨Nat.zero_le _, h⟩
  rintro i ⟨hi, hp⟩
  have hlt : i < n := by
    rcases Nat.lt_or_ge i n with q | q
    · exact q
    · rw [show n - i = 0 by omega] at hp
      exact absurd hp.symm hr
  have h1 : decide (Int.ofNat i < Int.ofNat n) = true := decide_eq_true (by simp; omega)
  have bi : (0 : Int) ≤ Int.ofNat i ∧ Int.ofNat i < (↑n : Int) := ⟨by simp, by simp; omega⟩
  have ri : (-9223372036854775808 : Int) ≤ Int.ofNat i + 1 ∧ Int.ofNat i + 1 ≤ (9223372036854775807 : Int) := ⟨by simp <;> omega, by simp <;> omega⟩
  rw [show n - i = (n - (i + 1)) + 1 by omega] at hp
  unfold ixP at hp
  cases h2 : !wi (f i) 0 2 with
  | true =>
    rw [h2, cond_true] at hp
    subst hp
    exact rd_out (ifT_lq (fun x => !wi x 0 2) n i f h1 h2) (by repeat' first | exact trivial | assumption | exact bi | exact ri | exact nn_con _ | exact rfl | apply And.intro) rfl rfl (.refl _) (.refl _)
  | false =>
    rw [h2, cond_false] at hp
    exact rd_nrm (ifN_lq (fun x => !wi x 0 2) n i f h1 h2) (by repeat' first | exact trivial | assumption | exact bi | exact ri | exact nn_con _ | exact rfl | apply And.intro) (i + 1) ⟨hlt, hp⟩ (by show n - (i + 1) < n - i; omega) rfl (.refl _) (.refl _)
theorem if_lpG (n : Nat) (hn : n ≤ 1152921504606846976) (f : Nat → Int) (h : ixP (fun i => !wi (f i) 0 2) n 0 = -1) : LDoes Try.prog (loopAt Try.prog 59 0) 19 0 (mkT (ifL n f 0)) [] (.exit 0) (mkT []) [] := by
  refine loop_q (fun i => (ifL n f i, [])) (fun i => n - i) (fun i => i ≤ n ∧ ixP (fun i => !wi (f i) 0 2) (n - i) i = -1) (fun _ => Nat.zero_le _) ?_ 0 ⟨Nat.zero_le _, h⟩
  rintro i ⟨hi, hp⟩
  rcases Nat.lt_or_ge i n with hlt | q
  · have h1 : decide (Int.ofNat i < Int.ofNat n) = true := decide_eq_true (by simp; omega)
    have bi : (0 : Int) ≤ Int.ofNat i ∧ Int.ofNat i < (↑n : Int) := ⟨by simp, by simp; omega⟩
    have ri : (-9223372036854775808 : Int) ≤ Int.ofNat i + 1 ∧ Int.ofNat i + 1 ≤ (9223372036854775807 : Int) := ⟨by simp <;> omega, by simp <;> omega⟩
    rw [show n - i = (n - (i + 1)) + 1 by omega] at hp
    unfold ixP at hp
    cases h2 : !wi (f i) 0 2 with
    | true =>
      rw [h2, cond_true] at hp
      simp at hp <;> omega
    | false =>
      rw [h2, cond_false] at hp
      exact rd_nrm (ifN_lq (fun x => !wi x 0 2) n i f h1 h2) (by repeat' first | exact trivial | assumption | exact bi | exact ri | exact nn_con _ | exact rfl | apply And.intro) (i + 1) ⟨hlt, hp⟩ (by show n - (i + 1) < n - i; omega) rfl (.refl _) (.refl _)
  · obtain rfl : i = n := by omega
    have h1 : decide (Int.ofNat i < Int.ofNat i) = false := decide_eq_false (by simp)
    exact rd_out (ifE_lq i f h1) (by repeat' first | exact trivial | assumption | exact rfl | apply And.intro) rfl rfl (.refl _) (.refl _)
theorem if_con (n : Nat) (hn : n ≤ 1152921504606846976) (f : Nat → Int) : Con Try.prog 59 [isv n f, .fn (.func 56) [] []] [] (.i .i64 (ixP (fun i => !wi (f i) 0 2) n 0)) [] := by
  by_cases h : ixP (fun i => !wi (f i) 0 2) n 0 = -1
  · rw [h]; exact con_d (ifg_vq ..) (by repeat' first | exact trivial | exact (if_lpG n hn f h).pre (.refl _) (.refl _) | exact if_lpG n hn f h | exact rfl | apply And.intro)
  · exact con_d (iff_vq ..) (by repeat' first | exact trivial | exact if_lpF n hn f _ rfl h | exact rfl | apply And.intro)
theorem ifc_vq (n : Nat) (f : Nat → Int) (r : Int) : VD Try.prog 55 [isv n f, .fn (.func 56) [] []] [] (Orc.cal [] (.i .i64 r) [] Orc.z) (.b (decide (0 ≤ r))) [] [] 0 (fun
  Lf => Con Try.prog 59 [isv n f, AV.fn (Fn.func 56) [] []] [] (.i .i64 r) [] ∧ Lf) := by unfold VD VQ; kernel_rfl
theorem ifc_con (n : Nat) (hn : n ≤ 1152921504606846976) (f : Nat → Int) : Con Try.prog 55 [isv n f, .fn (.func 56) [] []] [] (.b (anyP (fun i => !wi (f i) 0 2) n 0)) [] := by
  rw [← ixP_any]
  exact con_d (ifc_vq ..) (by repeat' first | exact trivial | exact if_con n hn f | exact rfl | apply And.intro)
theorem fit_vc (a : Nat → Int) (c : Cm) (w : Int → Int → Int → Bool) (an : Nat → (Nat → Int) → Bool) (V : AV) : runK Try.prog 1000000 (.call 44 [shL a, cmV c] (mkH [])) (Orc.cal
  [] (AV.b (w (Cm.sv c) (a 0) (a 1))) [] (Orc.s (Orc.t (Orc.t (Orc.t (Orc.t (Orc.cal [] (AV.b (w (Cm.bt c) (a 2) (a 3))) [] (Orc.t (Orc.s (Orc.t (Orc.t (Orc.t (Orc.t (Orc.cal []
  (AV.b (w (Cm.sq c) (a 4) (a 5))) [] (Orc.t (Orc.s (Orc.t (Orc.t (Orc.t (Orc.t (Orc.cal [] (AV.b (w (Cm.gn c) (a 6) (a 7))) [] (Orc.t (Orc.s (Orc.t (Orc.t (Orc.t (Orc.t (Orc.cal []
  (AV.b (w (Cm.lk c) (a 8) (a 9))) [] (Orc.t (Orc.s (Orc.t (Orc.t (Orc.t (Orc.t (Orc.cal [] (AV.b (w (Cm.md c) (a 10) (a 11))) [] (Orc.t (Orc.s (Orc.t (Orc.t (Orc.t (Orc.t (Orc.cal
  [] (AV.b (w (Cm.ot c) (a 12) (a 13))) [] (Orc.t (Orc.s (Orc.t (Orc.t (Orc.t (Orc.t (Orc.cal [] (AV.b (w (Cm.d c) (a 16) (a 17))) [] (Orc.t (Orc.s (Orc.t (Orc.t (Orc.t (Orc.t
  (Orc.t (Orc.cal [] (AV.b (w (Int.ofNat (Cm.mn c)) (a 14) (a 15))) [] (Orc.t (Orc.s (Orc.t (Orc.t (Orc.cal [] (AV.b (an (Cm.mn c) (Cm.mf c))) [] (Orc.t (Orc.t Orc.z))))) (Orc.f
  (Orc.f (Orc.f (Orc.f Orc.z)))))))))))) (Orc.f (Orc.f (Orc.f (Orc.f (Orc.f (Orc.f (Orc.c (Orc.c (Orc.c (Orc.c (Orc.c Orc.z)))))))))))))))))) (Orc.f (Orc.f (Orc.f (Orc.f (Orc.f
  (Orc.c (Orc.c (Orc.c (Orc.c (Orc.c (Orc.c (Orc.c (Orc.c (Orc.c (Orc.c (Orc.c (Orc.c Orc.z)))))))))))))))))))))))) (Orc.f (Orc.f (Orc.f (Orc.f (Orc.f (Orc.c (Orc.c (Orc.c (Orc.c
  (Orc.c (Orc.c (Orc.c (Orc.c (Orc.c (Orc.c (Orc.c (Orc.c (Orc.c (Orc.c (Orc.c (Orc.c (Orc.c (Orc.c Orc.z)))))))))))))))))))))))))))))) (Orc.f (Orc.f (Orc.f (Orc.f (Orc.f (Orc.c
  (Orc.c (Orc.c (Orc.c (Orc.c (Orc.c (Orc.c (Orc.c (Orc.c (Orc.c (Orc.c (Orc.c (Orc.c (Orc.c (Orc.c (Orc.c (Orc.c (Orc.c (Orc.c (Orc.c (Orc.c (Orc.c (Orc.c (Orc.c
  Orc.z)))))))))))))))))))))))))))))))))))) (Orc.f (Orc.f (Orc.f (Orc.f (Orc.f (Orc.c (Orc.c (Orc.c (Orc.c (Orc.c (Orc.c (Orc.c (Orc.c (Orc.c (Orc.c (Orc.c (Orc.c (Orc.c (Orc.c
  (Orc.c (Orc.c (Orc.c (Orc.c (Orc.c (Orc.c (Orc.c (Orc.c (Orc.c (Orc.c (Orc.c (Orc.c (Orc.c (Orc.c (Orc.c (Orc.c Orc.z)))))))))))))))))))))))))))))))))))))))))) (Orc.f (Orc.f
  (Orc.f (Orc.f (Orc.f (Orc.c (Orc.c (Orc.c (Orc.c (Orc.c (Orc.c (Orc.c (Orc.c (Orc.c (Orc.c (Orc.c (Orc.c (Orc.c (Orc.c (Orc.c (Orc.c (Orc.c (Orc.c (Orc.c (Orc.c (Orc.c (Orc.c
  (Orc.c (Orc.c (Orc.c (Orc.c (Orc.c (Orc.c (Orc.c (Orc.c (Orc.c (Orc.c (Orc.c (Orc.c (Orc.c (Orc.c Orc.z)))))))))))))))))))))))))))))))))))))))))))))))) (Orc.f (Orc.f (Orc.f (Orc.f
  (Orc.f (Orc.c (Orc.c (Orc.c (Orc.c (Orc.c (Orc.c (Orc.c (Orc.c (Orc.c (Orc.c (Orc.c (Orc.c (Orc.c (Orc.c (Orc.c (Orc.c (Orc.c (Orc.c (Orc.c (Orc.c (Orc.c (Orc.c (Orc.c (Orc.c
  (Orc.c (Orc.c (Orc.c (Orc.c (Orc.c (Orc.c (Orc.c (Orc.c (Orc.c (Orc.c (Orc.c (Orc.c (Orc.c (Orc.c (Orc.c (Orc.c (Orc.c (Orc.c
  Orc.z)))))))))))))))))))))))))))))))))))))))))))))))))))))) (Orc.f (Orc.f (Orc.f (Orc.f (Orc.f (Orc.c (Orc.c (Orc.c (Orc.c (Orc.c (Orc.c (Orc.c (Orc.c (Orc.c (Orc.c (Orc.c (Orc.c
  (Orc.c (Orc.c (Orc.c (Orc.c (Orc.c (Orc.c (Orc.c (Orc.c (Orc.c (Orc.c (Orc.c (Orc.c (Orc.c (Orc.c (Orc.c (Orc.c (Orc.c (Orc.c (Orc.c (Orc.c (Orc.c (Orc.c (Orc.c (Orc.c (Orc.c
  (Orc.c (Orc.c (Orc.c (Orc.c (Orc.c (Orc.c (Orc.c (Orc.c (Orc.c (Orc.c (Orc.c Orc.z))))))))))))))))))))))))))))))))))))))))))))))))))))))) (fun r _ => rvIs V r) = (True ∧ True ∧
  Con Try.prog 54 [AV.agg [AV.i IntKind.i64 (a 0), AV.i IntKind.i64 (a 1)], AV.i IntKind.i64 (Cm.sv c)] [] (AV.b (w (Cm.sv c) (a 0) (a 1))) [] ∧ (w (Cm.sv c) (a 0) (a 1) = true →
  True ∧ w (Cm.sv c) (a 0) (a 1) = true ∧ w (Cm.sv c) (a 0) (a 1) = true ∧ True ∧ w (Cm.sv c) (a 0) (a 1) = true ∧ w (Cm.sv c) (a 0) (a 1) = true ∧ Con Try.prog 54 [AV.agg [AV.i
  IntKind.i64 (a 2), AV.i IntKind.i64 (a 3)], AV.i IntKind.i64 (Cm.bt c)] [] (AV.b (w (Cm.bt c) (a 2) (a 3))) [] ∧ w (Cm.sv c) (a 0) (a 1) = true ∧ (w (Cm.bt c) (a 2) (a 3) = true →
  True ∧ w (Cm.bt c) (a 2) (a 3) = true ∧ w (Cm.bt c) (a 2) (a 3) = true ∧ True ∧ w (Cm.bt c) (a 2) (a 3) = true ∧ w (Cm.bt c) (a 2) (a 3) = true ∧ Con Try.prog 54 [AV.agg [AV.i
  IntKind.i64 (a 4), AV.i IntKind.i64 (a 5)], AV.i IntKind.i64 (Cm.sq c)] [] (AV.b (w (Cm.sq c) (a 4) (a 5))) [] ∧ w (Cm.bt c) (a 2) (a 3) = true ∧ (w (Cm.sq c) (a 4) (a 5) = true →
  True ∧ w (Cm.sq c) (a 4) (a 5) = true ∧ w (Cm.sq c) (a 4) (a 5) = true ∧ True ∧ w (Cm.sq c) (a 4) (a 5) = true ∧ w (Cm.sq c) (a 4) (a 5) = true ∧ Con Try.prog 54 [AV.agg [AV.i
  IntKind.i64 (a 6), AV.i IntKind.i64 (a 7)], AV.i IntKind.i64 (Cm.gn c)] [] (AV.b (w (Cm.gn c) (a 6) (a 7))) [] ∧ w (Cm.sq c) (a 4) (a 5) = true ∧ (w (Cm.gn c) (a 6) (a 7) = true →
  True ∧ w (Cm.gn c) (a 6) (a 7) = true ∧ w (Cm.gn c) (a 6) (a 7) = true ∧ True ∧ w (Cm.gn c) (a 6) (a 7) = true ∧ w (Cm.gn c) (a 6) (a 7) = true ∧ Con Try.prog 54 [AV.agg [AV.i
  IntKind.i64 (a 8), AV.i IntKind.i64 (a 9)], AV.i IntKind.i64 (Cm.lk c)] [] (AV.b (w (Cm.lk c) (a 8) (a 9))) [] ∧ w (Cm.gn c) (a 6) (a 7) = true ∧ (w (Cm.lk c) (a 8) (a 9) = true →
  True ∧ w (Cm.lk c) (a 8) (a 9) = true ∧ w (Cm.lk c) (a 8) (a 9) = true ∧ True ∧ w (Cm.lk c) (a 8) (a 9) = true ∧ w (Cm.lk c) (a 8) (a 9) = true ∧ Con Try.prog 54 [AV.agg [AV.i
  IntKind.i64 (a 10), AV.i IntKind.i64 (a 11)], AV.i IntKind.i64 (Cm.md c)] [] (AV.b (w (Cm.md c) (a 10) (a 11))) [] ∧ w (Cm.lk c) (a 8) (a 9) = true ∧ (w (Cm.md c) (a 10) (a 11) =
  true → True ∧ w (Cm.md c) (a 10) (a 11) = true ∧ w (Cm.md c) (a 10) (a 11) = true ∧ True ∧ w (Cm.md c) (a 10) (a 11) = true ∧ w (Cm.md c) (a 10) (a 11) = true ∧ Con Try.prog 54
  [AV.agg [AV.i IntKind.i64 (a 12), AV.i IntKind.i64 (a 13)], AV.i IntKind.i64 (Cm.ot c)] [] (AV.b (w (Cm.ot c) (a 12) (a 13))) [] ∧ w (Cm.md c) (a 10) (a 11) = true ∧ (w (Cm.ot c)
  (a 12) (a 13) = true → True ∧ w (Cm.ot c) (a 12) (a 13) = true ∧ w (Cm.ot c) (a 12) (a 13) = true ∧ True ∧ w (Cm.ot c) (a 12) (a 13) = true ∧ w (Cm.ot c) (a 12) (a 13) = true ∧
  Con Try.prog 54 [AV.agg [AV.i IntKind.i64 (a 16), AV.i IntKind.i64 (a 17)], AV.i IntKind.i64 (Cm.d c)] [] (AV.b (w (Cm.d c) (a 16) (a 17))) [] ∧ w (Cm.ot c) (a 12) (a 13) = true
  ∧ (w (Cm.d c) (a 16) (a 17) = true → True ∧ w (Cm.d c) (a 16) (a 17) = true ∧ w (Cm.d c) (a 16) (a 17) = true ∧ True ∧ w (Cm.d c) (a 16) (a 17) = true ∧ w (Cm.d c) (a 16) (a 17) =
  true ∧ w (Cm.d c) (a 16) (a 17) = true ∧ Con Try.prog 54 [AV.agg [AV.i IntKind.i64 (a 14), AV.i IntKind.i64 (a 15)], AV.i IntKind.i64 (Int.ofNat (Cm.mn c))] [] (AV.b (w
  (Int.ofNat (Cm.mn c)) (a 14) (a 15))) [] ∧ w (Cm.d c) (a 16) (a 17) = true ∧ (w (Int.ofNat (Cm.mn c)) (a 14) (a 15) = true → True ∧ w (Int.ofNat (Cm.mn c)) (a 14) (a 15) = true ∧
  w (Int.ofNat (Cm.mn c)) (a 14) (a 15) = true ∧ Con Try.prog 55 [isv (Cm.mn c) (Cm.mf c), AV.fn (Fn.func 56) [] []] [] (AV.b (an (Cm.mn c) (Cm.mf c))) [] ∧ w (Int.ofNat (Cm.mn
  c)) (a 14) (a 15) = true ∧ True ∧ w (Int.ofNat (Cm.mn c)) (a 14) (a 15) = true ∧ (AV.b !an (Cm.mn c) (Cm.mf c)) = V) ∧ (w (Int.ofNat (Cm.mn c)) (a 14) (a 15) = false → w
  (Int.ofNat (Cm.mn c)) (a 14) (a 15) = false ∧ w (Int.ofNat (Cm.mn c)) (a 14) (a 15) = false ∧ w (Int.ofNat (Cm.mn c)) (a 14) (a 15) = false ∧ w (Int.ofNat (Cm.mn c)) (a 14) (a 15)
  = false ∧ (AV.b false) = V)) ∧ (w (Cm.d c) (a 16) (a 17) = false → w (Cm.d c) (a 16) (a 17) = false ∧ w (Cm.d c) (a 16) (a 17) = false ∧ w (Cm.d c) (a 16) (a 17) = false ∧ w (Cm.d
  c) (a 16) (a 17) = false ∧ w (Cm.d c) (a 16) (a 17) = false ∧ w (Cm.d c) (a 16) (a 17) = false ∧ (AV.b false) = V)) ∧ (w (Cm.ot c) (a 12) (a 13) = false → w (Cm.ot c) (a 12) (a
  13) = false ∧ w (Cm.ot c) (a 12) (a 13) = false ∧ w (Cm.ot c) (a 12) (a 13) = false ∧ w (Cm.ot c) (a 12) (a 13) = false ∧ w (Cm.ot c) (a 12) (a 13) = false ∧ (AV.b false) = V)) ∧
  (w (Cm.md c) (a 10) (a 11) = false → w (Cm.md c) (a 10) (a 11) = false ∧ w (Cm.md c) (a 10) (a 11) = false ∧ w (Cm.md c) (a 10) (a 11) = false ∧ w (Cm.md c) (a 10) (a 11) = false
  ∧ w (Cm.md c) (a 10) (a 11) = false ∧ (AV.b false) = V)) ∧ (w (Cm.lk c) (a 8) (a 9) = false → w (Cm.lk c) (a 8) (a 9) = false ∧ w (Cm.lk c) (a 8) (a 9) = false ∧ w (Cm.lk c) (a 8)
  (a 9) = false ∧ w (Cm.lk c) (a 8) (a 9) = false ∧ w (Cm.lk c) (a 8) (a 9) = false ∧ (AV.b false) = V)) ∧ (w (Cm.gn c) (a 6) (a 7) = false → w (Cm.gn c) (a 6) (a 7) = false ∧ w
  (Cm.gn c) (a 6) (a 7) = false ∧ w (Cm.gn c) (a 6) (a 7) = false ∧ w (Cm.gn c) (a 6) (a 7) = false ∧ w (Cm.gn c) (a 6) (a 7) = false ∧ (AV.b false) = V)) ∧ (w (Cm.sq c) (a 4) (a 5)
  = false → w (Cm.sq c) (a 4) (a 5) = false ∧ w (Cm.sq c) (a 4) (a 5) = false ∧ w (Cm.sq c) (a 4) (a 5) = false ∧ w (Cm.sq c) (a 4) (a 5) = false ∧ w (Cm.sq c) (a 4) (a 5) = false ∧
  (AV.b false) = V)) ∧ (w (Cm.bt c) (a 2) (a 3) = false → w (Cm.bt c) (a 2) (a 3) = false ∧ w (Cm.bt c) (a 2) (a 3) = false ∧ w (Cm.bt c) (a 2) (a 3) = false ∧ w (Cm.bt c) (a 2) (a
  3) = false ∧ w (Cm.bt c) (a 2) (a 3) = false ∧ (AV.b false) = V)) ∧ (w (Cm.sv c) (a 0) (a 1) = false → w (Cm.sv c) (a 0) (a 1) = false ∧ w (Cm.sv c) (a 0) (a 1) = false ∧ w (Cm.sv
  c) (a 0) (a 1) = false ∧ w (Cm.sv c) (a 0) (a 1) = false ∧ w (Cm.sv c) (a 0) (a 1) = false ∧ (AV.b false) = V)) := by kernel_rfl
theorem vcm_vc (a : Nat → Int) (kd : Bool) (c : Cm) (ft : Bool) (V : AV) : runK Try.prog 1000000 (.call 23 [cmV c] (mkH [])) (Orc.cal [] (AV.tup [shL a, AV.b kd]) [] (Orc.s (Orc.t
  (Orc.t (Orc.cal [] (AV.b ft) [] (Orc.t Orc.z)))) (Orc.f (Orc.f (Orc.f Orc.z))))) (fun r _ => rvIs V r) = (True ∧ Con Try.prog 43 [AV.i IntKind.i64 (Cm.k c)] [] (AV.tup [shL a,
  AV.b kd]) [] ∧ (kd = true → kd = true ∧ kd = true ∧ Con Try.prog 44 [shL a, cmV c] [] (AV.b ft) [] ∧ kd = true ∧ (AV.b ft) = V) ∧ (kd = false → kd = false ∧ kd = false ∧ kd =
  false ∧ (AV.b false) = V)) := by kernel_rfl
theorem shA_vc (k : Int) (h1 : decide (k = 1) = false) (h2 : decide (k = 2) = false) (h3 : decide (k = 3) = false) (h4 : decide (k = 4) = false) (h5 : decide (k = 5) = false) (h6 :
  decide (k = 6) = false) (h7 : decide (k = 7) = false) (h8 : decide (k = 8) = false) (V : AV) : runK Try.prog 1000000 (.call 43 [.i .i64 k] (mkH [])) (Orc.f (Orc.f (Orc.f (Orc.f
  (Orc.f (Orc.f (Orc.f (Orc.f Orc.z)))))))) (fun r _ => rvIs V r) = (decide (k = (1 : Int)) = false ∧ decide (k = (2 : Int)) = false ∧ decide (k = (3 : Int)) = false ∧ decide (k =
  (4 : Int)) = false ∧ decide (k = (5 : Int)) = false ∧ decide (k = (6 : Int)) = false ∧ decide (k = (7 : Int)) = false ∧ decide (k = (8 : Int)) = false ∧ (AV.tup [AV.agg [AV.i
  IntKind.i64 (0 : Int), AV.i IntKind.i64 (0 : Int), AV.i IntKind.i64 (0 : Int), AV.i IntKind.i64 (0 : Int), AV.i IntKind.i64 (0 : Int), AV.i IntKind.i64 (0 : Int), AV.i IntKind.i64
  (0 : Int), AV.i IntKind.i64 (0 : Int), AV.i IntKind.i64 (0 : Int), AV.i IntKind.i64 (0 : Int), AV.i IntKind.i64 (0 : Int), AV.i IntKind.i64 (0 : Int), AV.i IntKind.i64 (0 : Int),
  AV.i IntKind.i64 (0 : Int), AV.i IntKind.i64 (0 : Int), AV.i IntKind.i64 (0 : Int), AV.i IntKind.i64 (0 : Int), AV.i IntKind.i64 (0 : Int)], AV.b false]) = V) := by kernel_rfl
theorem sh1_vc (V : AV) : runK Try.prog 1000000 (.call 43 [.i .i64 1] (mkH [])) (Orc.c Orc.z) (fun r _ => rvIs V r) = (True ∧ (AV.tup [AV.agg [AV.i IntKind.i64 (0 : Int), AV.i
  IntKind.i64 (2 : Int), AV.i IntKind.i64 (1 : Int), AV.i IntKind.i64 (1099511627776 : Int), AV.i IntKind.i64 (1 : Int), AV.i IntKind.i64 (1099511627776 : Int), AV.i IntKind.i64 (0
  : Int), AV.i IntKind.i64 (0 : Int), AV.i IntKind.i64 (0 : Int), AV.i IntKind.i64 (0 : Int), AV.i IntKind.i64 (0 : Int), AV.i IntKind.i64 (0 : Int), AV.i IntKind.i64 (0 : Int),
  AV.i IntKind.i64 (0 : Int), AV.i IntKind.i64 (0 : Int), AV.i IntKind.i64 (0 : Int), AV.i IntKind.i64 (0 : Int), AV.i IntKind.i64 (1048576 : Int)], AV.b true]) = V) := by
  kernel_rfl
theorem sh2_vc (V : AV) : runK Try.prog 1000000 (.call 43 [.i .i64 2] (mkH [])) (Orc.c (Orc.c Orc.z)) (fun r _ => rvIs V r) = ((AV.tup [AV.agg [AV.i IntKind.i64 (0 : Int), AV.i
  IntKind.i64 (2 : Int), AV.i IntKind.i64 (1 : Int), AV.i IntKind.i64 (1099511627776 : Int), AV.i IntKind.i64 (1 : Int), AV.i IntKind.i64 (1099511627776 : Int), AV.i IntKind.i64 (0
  : Int), AV.i IntKind.i64 (1099511627776 : Int), AV.i IntKind.i64 (0 : Int), AV.i IntKind.i64 (0 : Int), AV.i IntKind.i64 (0 : Int), AV.i IntKind.i64 (0 : Int), AV.i IntKind.i64 (0
  : Int), AV.i IntKind.i64 (0 : Int), AV.i IntKind.i64 (0 : Int), AV.i IntKind.i64 (0 : Int), AV.i IntKind.i64 (0 : Int), AV.i IntKind.i64 (1048576 : Int)], AV.b true]) = V) := by
  kernel_rfl
theorem sh3_vc (V : AV) : runK Try.prog 1000000 (.call 43 [.i .i64 3] (mkH [])) (Orc.c (Orc.c (Orc.c Orc.z))) (fun r _ => rvIs V r) = (True ∧ True ∧ (AV.tup [AV.agg [AV.i
  IntKind.i64 (0 : Int), AV.i IntKind.i64 (2 : Int), AV.i IntKind.i64 (1 : Int), AV.i IntKind.i64 (1099511627776 : Int), AV.i IntKind.i64 (1 : Int), AV.i IntKind.i64 (1099511627776
  : Int), AV.i IntKind.i64 (0 : Int), AV.i IntKind.i64 (1099511627776 : Int), AV.i IntKind.i64 (0 : Int), AV.i IntKind.i64 (18 : Int), AV.i IntKind.i64 (1 : Int), AV.i IntKind.i64
  (2 : Int), AV.i IntKind.i64 (0 : Int), AV.i IntKind.i64 (0 : Int), AV.i IntKind.i64 (0 : Int), AV.i IntKind.i64 (0 : Int), AV.i IntKind.i64 (0 : Int), AV.i IntKind.i64 (1048576 :
  Int)], AV.b true]) = V) := by kernel_rfl
theorem sh4_vc (V : AV) : runK Try.prog 1000000 (.call 43 [.i .i64 4] (mkH [])) (Orc.c (Orc.c (Orc.c (Orc.c Orc.z)))) (fun r _ => rvIs V r) = (True ∧ (AV.tup [AV.agg [AV.i
  IntKind.i64 (0 : Int), AV.i IntKind.i64 (2 : Int), AV.i IntKind.i64 (1 : Int), AV.i IntKind.i64 (1099511627776 : Int), AV.i IntKind.i64 (1 : Int), AV.i IntKind.i64 (1099511627776
  : Int), AV.i IntKind.i64 (0 : Int), AV.i IntKind.i64 (1099511627776 : Int), AV.i IntKind.i64 (0 : Int), AV.i IntKind.i64 (18 : Int), AV.i IntKind.i64 (0 : Int), AV.i IntKind.i64
  (0 : Int), AV.i IntKind.i64 (0 : Int), AV.i IntKind.i64 (0 : Int), AV.i IntKind.i64 (0 : Int), AV.i IntKind.i64 (0 : Int), AV.i IntKind.i64 (0 : Int), AV.i IntKind.i64 (1048576 :
  Int)], AV.b true]) = V) := by kernel_rfl
theorem sh5_vc (V : AV) : runK Try.prog 1000000 (.call 43 [.i .i64 5] (mkH [])) (Orc.c (Orc.c (Orc.c (Orc.c (Orc.c (Orc.c Orc.z)))))) (fun r _ => rvIs V r) = (True ∧ (AV.tup
  [AV.agg [AV.i IntKind.i64 (0 : Int), AV.i IntKind.i64 (2 : Int), AV.i IntKind.i64 (1 : Int), AV.i IntKind.i64 (1099511627776 : Int), AV.i IntKind.i64 (1 : Int), AV.i IntKind.i64
  (1099511627776 : Int), AV.i IntKind.i64 (0 : Int), AV.i IntKind.i64 (1099511627776 : Int), AV.i IntKind.i64 (0 : Int), AV.i IntKind.i64 (0 : Int), AV.i IntKind.i64 (0 : Int), AV.i
  IntKind.i64 (0 : Int), AV.i IntKind.i64 (0 : Int), AV.i IntKind.i64 (2 : Int), AV.i IntKind.i64 (0 : Int), AV.i IntKind.i64 (0 : Int), AV.i IntKind.i64 (0 : Int), AV.i IntKind.i64
  (1048576 : Int)], AV.b true]) = V) := by kernel_rfl
theorem sh6_vc (V : AV) : runK Try.prog 1000000 (.call 43 [.i .i64 6] (mkH [])) (Orc.c (Orc.c (Orc.c (Orc.c (Orc.c (Orc.c Orc.z)))))) (fun r _ => rvIs V r) = (True ∧ (AV.tup
  [AV.agg [AV.i IntKind.i64 (0 : Int), AV.i IntKind.i64 (2 : Int), AV.i IntKind.i64 (1 : Int), AV.i IntKind.i64 (1099511627776 : Int), AV.i IntKind.i64 (1 : Int), AV.i IntKind.i64
  (1099511627776 : Int), AV.i IntKind.i64 (0 : Int), AV.i IntKind.i64 (1099511627776 : Int), AV.i IntKind.i64 (0 : Int), AV.i IntKind.i64 (0 : Int), AV.i IntKind.i64 (0 : Int), AV.i
  IntKind.i64 (0 : Int), AV.i IntKind.i64 (0 : Int), AV.i IntKind.i64 (2 : Int), AV.i IntKind.i64 (0 : Int), AV.i IntKind.i64 (0 : Int), AV.i IntKind.i64 (0 : Int), AV.i IntKind.i64
  (1048576 : Int)], AV.b true]) = V) := by kernel_rfl
theorem sh7_vc (V : AV) : runK Try.prog 1000000 (.call 43 [.i .i64 7] (mkH [])) (Orc.c (Orc.c (Orc.c (Orc.c (Orc.c (Orc.c (Orc.c Orc.z))))))) (fun r _ => rvIs V r) = (True ∧
  (AV.tup [AV.agg [AV.i IntKind.i64 (0 : Int), AV.i IntKind.i64 (2 : Int), AV.i IntKind.i64 (1 : Int), AV.i IntKind.i64 (1099511627776 : Int), AV.i IntKind.i64 (1 : Int), AV.i
  IntKind.i64 (1099511627776 : Int), AV.i IntKind.i64 (0 : Int), AV.i IntKind.i64 (1099511627776 : Int), AV.i IntKind.i64 (0 : Int), AV.i IntKind.i64 (0 : Int), AV.i IntKind.i64 (0
  : Int), AV.i IntKind.i64 (0 : Int), AV.i IntKind.i64 (0 : Int), AV.i IntKind.i64 (0 : Int), AV.i IntKind.i64 (1 : Int), AV.i IntKind.i64 (3 : Int), AV.i IntKind.i64 (0 : Int),
  AV.i IntKind.i64 (1048576 : Int)], AV.b true]) = V) := by kernel_rfl
theorem sh8_vc (V : AV) : runK Try.prog 1000000 (.call 43 [.i .i64 8] (mkH [])) (Orc.c (Orc.c (Orc.c (Orc.c (Orc.c (Orc.c (Orc.c (Orc.c Orc.z)))))))) (fun r _ => rvIs V r) =
  ((AV.tup [AV.agg [AV.i IntKind.i64 (0 : Int), AV.i IntKind.i64 (0 : Int), AV.i IntKind.i64 (0 : Int), AV.i IntKind.i64 (0 : Int), AV.i IntKind.i64 (0 : Int), AV.i IntKind.i64 (0 :
  Int), AV.i IntKind.i64 (0 : Int), AV.i IntKind.i64 (0 : Int), AV.i IntKind.i64 (0 : Int), AV.i IntKind.i64 (0 : Int), AV.i IntKind.i64 (0 : Int), AV.i IntKind.i64 (0 : Int), AV.i
  IntKind.i64 (0 : Int), AV.i IntKind.i64 (0 : Int), AV.i IntKind.i64 (0 : Int), AV.i IntKind.i64 (0 : Int), AV.i IntKind.i64 (1 : Int), AV.i IntKind.i64 (1048576 : Int)], AV.b
  true]) = V) := by kernel_rfl
def anM (n : Nat) (f : Nat → Int) : Bool := anyP (fun i => !wi (f i) 0 2) n 0
theorem fit_con (a : Nat → Int) (c : Cm) (h : c.mn ≤ 1152921504606846976) : Con Try.prog 44 [shL a, cmV c] [] (.b (fitB a c)) [] := by
  refine con_pureX (fit_vc a c wi anM _) rfl ?_
  repeat' first | exact trivial | assumption | exact has_con _ _ _ | exact ifc_con _ h _ | apply And.intro | intro _
  all_goals (simp_all [fitB, anM])
theorem sh_con (k : Int) : Con Try.prog 43 [.i .i64 k] [] (.tup [shL (shA k), .b (kdB k)]) [] := by
  by_cases h1 : k = 1
  · subst h1; exact con_pureX (sh1_vc _) (by kernel_rfl) (by repeat' first | exact trivial | kernel_rfl | apply And.intro)
  by_cases h2 : k = 2
  · subst h2; exact con_pureX (sh2_vc _) (by kernel_rfl) (by repeat' first | exact trivial | kernel_rfl | apply And.intro)
  by_cases h3 : k = 3
  · subst h3; exact con_pureX (sh3_vc _) (by kernel_rfl) (by repeat' first | exact trivial | kernel_rfl | apply And.intro)
  by_cases h4 : k = 4
  · subst h4; exact con_pureX (sh4_vc _) (by kernel_rfl) (by repeat' first | exact trivial | kernel_rfl | apply And.intro)
  by_cases h5 : k = 5
  · subst h5; exact con_pureX (sh5_vc _) (by kernel_rfl) (by repeat' first | exact trivial | kernel_rfl | apply And.intro)
  by_cases h6 : k = 6
  · subst h6; exact con_pureX (sh6_vc _) (by kernel_rfl) (by repeat' first | exact trivial | kernel_rfl | apply And.intro)
  by_cases h7 : k = 7
  · subst h7; exact con_pureX (sh7_vc _) (by kernel_rfl) (by repeat' first | exact trivial | kernel_rfl | apply And.intro)
  by_cases h8 : k = 8
  · subst h8; exact con_pureX (sh8_vc _) (by kernel_rfl) (by repeat' first | exact trivial | kernel_rfl | apply And.intro)
  have d1 := decide_eq_false h1
  have d2 := decide_eq_false h2
  have d3 := decide_eq_false h3
  have d4 := decide_eq_false h4
  have d5 := decide_eq_false h5
  have d6 := decide_eq_false h6
  have d7 := decide_eq_false h7
  have d8 := decide_eq_false h8
  refine con_pureX (shA_vc k d1 d2 d3 d4 d5 d6 d7 d8 _) rfl ?_
  have hk : kdB k = false := by
    unfold kdB wi
    by_cases q : 1 ≤ k
    · rw [show decide (k ≤ 8) = false from decide_eq_false (by omega)]; simp
    · rw [show decide (1 ≤ k) = false from decide_eq_false q]; rfl
  have hs : shT k = [0, 0, 0, 0, 0, 0, 0, 0, 0, 0, 0, 0, 0, 0, 0, 0, 0, 0] := by
    unfold shT; rw [if_neg h1, if_neg h2, if_neg h3, if_neg h4, if_neg h5, if_neg h6, if_neg h7, if_neg h8]
  repeat' first | exact trivial | assumption | (unfold shL shA; rw [hs, hk]; rfl) | apply And.intro
theorem vcm_con (c : Cm) (h : c.mn ≤ 1152921504606846976) : Con Try.prog 23 [cmV c] [] (.b (vcB c)) [] := by
  refine con_pureX (vcm_vc (shA c.k) (kdB c.k) c (fitB (shA c.k) c) _) rfl ?_
  repeat' first | exact trivial | assumption | exact sh_con _ | exact fit_con _ _ h | apply And.intro | intro _
  all_goals (simp_all [vcB])
end Go.Proofs.Sv
namespace Go.Proofs.Ck
open Go Go.Sim Go.Proofs Go.Proofs.Lk Go.Proofs.Sv Go.Proofs.Ytgggnjjhfkijfaa
noncomputable abbrev nwL (s b p : Int) : List AV := [.i .i64 s, .i .i64 b, .i .i64 p, .i .i64 0, .i .i64 0, .b false, .i .i64 0, .i .i64 0, .i .i64 0, .i .i64 0, .i .i64 0, .i .i64 0, .i .i64 0, .i .i64 0, .l0, .i .i64 0, .i .i64 0, .i .i64 0]
theorem wt_vq (n a b : Int) (h : decide (a ≤ n) = true) : VD Try.prog 26 [.i .i64 n, .i .i64 a, .i .i64 b] [] (Orc.t (Orc.t (Orc.t (Orc.t Orc.z)))) (.b (decide (n ≤ b))) [] []
  0 (fun Lf => decide (a ≤ n) = true ∧ decide (a ≤ n) = true ∧ decide (a ≤ n) = true ∧ decide (a ≤ n) = true ∧ Lf) := by unfold VD VQ; kernel_rfl
theorem wf_vq (n a b : Int) (h : decide (a ≤ n) = false) : VD Try.prog 26 [.i .i64 n, .i .i64 a, .i .i64 b] [] (Orc.f (Orc.f (Orc.f (Orc.f Orc.z)))) (.b false) [] [] 0 (fun Lf
  => decide (a ≤ n) = false ∧ decide (a ≤ n) = false ∧ decide (a ≤ n) = false ∧ decide (a ≤ n) = false ∧ Lf) := by unfold VD VQ; kernel_rfl
theorem tmA_vq (n : Int) (h : decide (0 ≤ n) = true) (h2 : decide (n ≤ 4503599627370496) = true) : VD Try.prog 45 [.i .i64 n] [] (Orc.inl (Orc.inl (oc 6 (Orc.inl (Orc.inl
  (Orc.t (Orc.t (Orc.t (Orc.t (Orc.t (Orc.inl (Orc.t (Orc.t (Orc.t (Orc.t (Orc.f (Orc.f (Orc.t (oc 3 Orc.z))))))))))))))))))) (.b true) [] [] 0 (fun Lf => decide (0 ≤ n) = true
  ∧ decide (0 ≤ n) = true ∧ decide (0 ≤ n) = true ∧ True ∧ (!!decide (n ≤ 4503599627370496)) = true ∧ (!!decide (n ≤ 4503599627370496)) = true ∧ decide (0 ≤ n) = true ∧ decide
  (0 ≤ n) = true ∧ decide (0 ≤ n) = true ∧ (!!decide (n ≤ 4503599627370496)) = true ∧ True ∧ (!decide (n ≤ 4503599627370496)) = false ∧ (!decide (n ≤ 4503599627370496)) = false
  ∧ decide (n = n) = true ∧ Lf) := by unfold VD VQ; kernel_rfl
theorem tmB_vq (n : Int) (h : decide (0 ≤ n) = true) (h2 : decide (n ≤ 4503599627370496) = false) : VD Try.prog 45 [.i .i64 n] [] (Orc.inl (Orc.inl (oc 6 (Orc.inl (Orc.inl
  (Orc.t (Orc.t (Orc.t (Orc.f (Orc.f (Orc.f (Orc.t (oc 4 Orc.z))))))))))))) (.b false) [] [] 0 (fun Lf => decide (0 ≤ n) = true ∧ decide (0 ≤ n) = true ∧ decide (0 ≤ n) = true
  ∧ True ∧ (!!decide (n ≤ 4503599627370496)) = false ∧ (!!decide (n ≤ 4503599627370496)) = false ∧ (!!decide (n ≤ 4503599627370496)) = false ∧ (!decide (n ≤ 4503599627370496))
  = true ∧ Lf) := by unfold VD VQ; kernel_rfl
theorem tmC_vq (n : Int) (h : decide (0 ≤ n) = false) : VD Try.prog 45 [.i .i64 n] [] (Orc.inl (Orc.inl (oc 6 (Orc.inl (Orc.inl (Orc.f (Orc.f (Orc.f (oc 8 Orc.z))))))))) (.b
  false) [] [] 0 (fun Lf => decide (0 ≤ n) = false ∧ decide (0 ≤ n) = false ∧ decide (0 ≤ n) = false ∧ True ∧ Lf) := by unfold VD VQ; kernel_rfl
theorem nwD_vq (w : Int → Int → Int → Bool) (s b p : Int) (h : w s 0 2 = true) (h2 : w b 1 1099511627776 = true) (h3 : w p 1 3 = true) : VD Try.prog 8 [.i .i64 s, .i .i64 b, .i
  .i64 p] [] (Orc.cal [] (.b (w s 0 2)) [] (Orc.t (Orc.t (Orc.cal [] (.b (w b 1 1099511627776)) [] (Orc.t (Orc.f (Orc.t (Orc.t (Orc.cal [] (.b (w p 1 3)) [] (Orc.t (Orc.f
  (Orc.f Orc.z)))))))))))) (.tup [.p 0 0, .i .i64 0]) [.set (cellsO 80 (nwL s b p))] [0] 1 (fun Lf => Con Try.prog 26 [.i .i64 s, .i .i64 0, .i .i64 2] [] (.b (w s 0 2)) [] ∧
  True ∧ (!!w s 0 2) = true ∧ (!!w s 0 2) = true ∧ Con Try.prog 26 [.i .i64 b, .i .i64 1, .i .i64 1099511627776] [] (.b (w b 1 1099511627776)) [] ∧ (!!w s 0 2) = true ∧ True ∧
  (!w s 0 2) = false ∧ (!!w b 1 1099511627776) = true ∧ (!!w b 1 1099511627776) = true ∧ Con Try.prog 26 [.i .i64 p, .i .i64 1, .i .i64 3] [] (.b (w p 1 3)) [] ∧ (!!w b 1
  1099511627776) = true ∧ True ∧ (!w b 1 1099511627776) = false ∧ (!w p 1 3) = false ∧ Lf) := by unfold VD VQ; kernel_rfl
theorem fa0_vq (w : Int → Int → Int → Bool) (x : Cl) (n : Int) (h : w n 0 4503599627370496 = true) : VD Try.prog 27 [.p 0 0, .i .i64 n] [some (clO x)] (Orc.c (Orc.cal [] (.b (w
  n 0 4503599627370496)) [] (Orc.f Orc.z))) (.i .i64 0) [.keep] [] 1 (fun Lf => True ∧ Con Try.prog 45 [.i .i64 n] [] (.b (w n 0 4503599627370496)) [] ∧ True ∧ (!w n 0
  4503599627370496) = false ∧ Lf) := by unfold VD VQ; kernel_rfl
theorem fa2_vq (w : Int → Int → Int → Bool) (x : Cl) (n : Int) (h : w n 0 4503599627370496 = false) : VD Try.prog 27 [.p 0 0, .i .i64 n] [some (clO x)] (Orc.c (Orc.cal [] (.b
  (w n 0 4503599627370496)) [] (Orc.t Orc.z))) (.i .i64 2) [.keep] [] 1 (fun Lf => True ∧ Con Try.prog 45 [.i .i64 n] [] (.b (w n 0 4503599627370496)) [] ∧ True ∧ (!w n 0
  4503599627370496) = true ∧ Lf) := by unfold VD VQ; kernel_rfl
theorem np1_vq (x : Cl) (h : decide (x.q + 1 < x.p) = true) : VD Try.prog 32 [.p 0 0] [some (clO x)] (Orc.t Orc.z) (.i .i64 (Cl.q x + 1)) [.keep] [] 1 (fun Lf => True ∧ rg
  (Cl.q x + 1) ∧ True ∧ decide (Cl.q x + 1 < Cl.p x) = true ∧ Lf) := by unfold VD VQ; kernel_rfl
theorem np0_vq (x : Cl) (h : decide (x.q + 1 < x.p) = false) : VD Try.prog 32 [.p 0 0] [some (clO x)] (Orc.f Orc.z) (.i .i64 0) [.keep] [] 1 (fun Lf => True ∧ rg (Cl.q x + 1) ∧
  True ∧ decide (Cl.q x + 1 < Cl.p x) = false ∧ Lf) := by unfold VD VQ; kernel_rfl
theorem mc0_vq (x : Cl) (m : Mg) (h : decide (m.k = 9) = false) : VD Try.prog 33 [.p 0 0, mgV m] [some (clO x)] (Orc.f (Orc.f (Orc.f (Orc.f (Orc.f (Orc.f (Orc.f (Orc.f (Orc.f
  (oc 9 Orc.z)))))))))) (.b false) [.keep] [] 2 (fun Lf => True ∧ decide (Mg.k m = 9) = false ∧ decide (Mg.k m = 9) = false ∧ decide (Mg.k m = 9) = false ∧ decide (Mg.k m = 9)
  = false ∧ decide (Mg.k m = 9) = false ∧ decide (Mg.k m = 9) = false ∧ decide (Mg.k m = 9) = false ∧ decide (Mg.k m = 9) = false ∧ decide (Mg.k m = 9) = false ∧ Lf)
  := by unfold VD VQ; kernel_rfl
theorem mc1_vq (x : Cl) (m : Mg) (h : decide (m.k = 9) = true) (h2 : decide (m.to = 8 + x.s) = false) : VD Try.prog 33 [.p 0 0, mgV m] [some (clO x)] (Orc.t (Orc.t (Orc.t
  (Orc.t (Orc.t (Orc.t (Orc.t (Orc.t (Orc.t (Orc.f (Orc.f (Orc.f (Orc.f (Orc.f (Orc.f (Orc.f (Orc.f (Orc.f Orc.z)))))))))))))))))) (.b false) [.keep] [] 2 (fun Lf => True ∧
  decide (Mg.k m = 9) = true ∧ True ∧ decide (Mg.k m = 9) = true ∧ decide (Mg.k m = 9) = true ∧ decide (Mg.k m = 9) = true ∧ decide (Mg.k m = 9) = true ∧ True ∧ decide (Mg.k m
  = 9) = true ∧ decide (Mg.k m = 9) = true ∧ rg (8 + Cl.s x) ∧ decide (Mg.k m = 9) = true ∧ decide (Mg.k m = 9) = true ∧ decide (Mg.to m = 8 + Cl.s x) = false ∧ decide (Mg.to m
  = 8 + Cl.s x) = false ∧ decide (Mg.to m = 8 + Cl.s x) = false ∧ decide (Mg.to m = 8 + Cl.s x) = false ∧ decide (Mg.to m = 8 + Cl.s x) = false ∧ decide (Mg.to m = 8 + Cl.s x)
  = false ∧ decide (Mg.to m = 8 + Cl.s x) = false ∧ decide (Mg.to m = 8 + Cl.s x) = false ∧ decide (Mg.to m = 8 + Cl.s x) = false ∧ Lf) := by unfold VD VQ; kernel_rfl
theorem mc2_vq (w : Int → Int → Int → Bool) (x : Cl) (m : Mg) (h : decide (m.k = 9) = true) (h2 : decide (m.to = 8 + x.s) = true) : VD Try.prog 33 [.p 0 0, mgV m] [some (clO
  x)] (Orc.t (Orc.t (Orc.t (Orc.t (Orc.t (Orc.t (Orc.t (Orc.t (Orc.t (Orc.t (Orc.t (Orc.t (Orc.t (Orc.t (Orc.t (Orc.t (Orc.t (Orc.cal [] (.b (w (Mg.fr m) 0 (Cl.p x - 1))) []
  (Orc.t Orc.z))))))))))))))))))) (.b (w (Mg.fr m) 0 (Cl.p x - 1))) [.keep] [] 2 (fun Lf => True ∧ decide (Mg.k m = 9) = true ∧ True ∧ decide (Mg.k m = 9) = true ∧ decide (Mg.k
  m = 9) = true ∧ decide (Mg.k m = 9) = true ∧ decide (Mg.k m = 9) = true ∧ True ∧ decide (Mg.k m = 9) = true ∧ decide (Mg.k m = 9) = true ∧ rg (8 + Cl.s x) ∧ decide (Mg.k m =
  9) = true ∧ decide (Mg.k m = 9) = true ∧ decide (Mg.to m = 8 + Cl.s x) = true ∧ True ∧ decide (Mg.to m = 8 + Cl.s x) = true ∧ decide (Mg.to m = 8 + Cl.s x) = true ∧ decide
  (Mg.to m = 8 + Cl.s x) = true ∧ decide (Mg.to m = 8 + Cl.s x) = true ∧ True ∧ decide (Mg.to m = 8 + Cl.s x) = true ∧ decide (Mg.to m = 8 + Cl.s x) = true ∧ rg (Cl.p x - 1) ∧
  decide (Mg.to m = 8 + Cl.s x) = true ∧ Con Try.prog 26 [.i .i64 (Mg.fr m), .i .i64 0, .i .i64 (Cl.p x - 1)] [] (.b (w (Mg.fr m) 0 (Cl.p x - 1))) [] ∧ decide (Mg.to m = 8 +
  Cl.s x) = true ∧ Lf) := by unfold VD VQ; kernel_rfl
theorem ia0_vq (x : Cl) (m : Mg) (c : Cm) (f l : Int) (h : decide (m.c.sv = c.sv) = false) : VD Try.prog 34 [.agg [.i .i64 c.k, .i .i64 c.sv, .i .i64 c.bt, .i .i64 c.sq, .i
  .i64 c.gn, .i .i64 c.lk, .i .i64 c.md, .i .i64 c.ot, isv c.mn c.mf, .i .i64 c.d, .i .i64 f, .i .i64 l], mgV m] [] (Orc.f (Orc.f (Orc.f (Orc.f (Orc.f (Orc.f (Orc.f (oc 7
  Orc.z)))))))) (.b false) [] [] 3 (fun Lf => True ∧ True ∧ True ∧ True ∧ decide (Cm.sv (Mg.c m) = Cm.sv c) = false ∧ decide (Cm.sv (Mg.c m) = Cm.sv c) = false ∧ decide (Cm.sv
  (Mg.c m) = Cm.sv c) = false ∧ decide (Cm.sv (Mg.c m) = Cm.sv c) = false ∧ decide (Cm.sv (Mg.c m) = Cm.sv c) = false ∧ decide (Cm.sv (Mg.c m) = Cm.sv c) = false ∧ decide
  (Cm.sv (Mg.c m) = Cm.sv c) = false ∧ Lf) := by unfold VD VQ; kernel_rfl
theorem ia1_vq (x : Cl) (m : Mg) (c : Cm) (f l : Int) (h : decide (m.c.sv = c.sv) = true) (h2 : decide (m.c.bt = c.bt) = false) : VD Try.prog 34 [.agg [.i .i64 c.k, .i .i64
  c.sv, .i .i64 c.bt, .i .i64 c.sq, .i .i64 c.gn, .i .i64 c.lk, .i .i64 c.md, .i .i64 c.ot, isv c.mn c.mf, .i .i64 c.d, .i .i64 f, .i .i64 l], mgV m] [] (Orc.t (Orc.t (Orc.t
  (Orc.t (Orc.t (Orc.t (Orc.t (Orc.f (Orc.f (Orc.f (Orc.f (Orc.f (Orc.f (Orc.f Orc.z)))))))))))))) (.b false) [] [] 3 (fun Lf => True ∧ True ∧ True ∧ True ∧ decide (Cm.sv (Mg.c
  m) = Cm.sv c) = true ∧ True ∧ decide (Cm.sv (Mg.c m) = Cm.sv c) = true ∧ decide (Cm.sv (Mg.c m) = Cm.sv c) = true ∧ True ∧ decide (Cm.sv (Mg.c m) = Cm.sv c) = true ∧ True ∧
  decide (Cm.sv (Mg.c m) = Cm.sv c) = true ∧ decide (Cm.sv (Mg.c m) = Cm.sv c) = true ∧ decide (Cm.sv (Mg.c m) = Cm.sv c) = true ∧ decide (Cm.bt (Mg.c m) = Cm.bt c) = false ∧
  decide (Cm.bt (Mg.c m) = Cm.bt c) = false ∧ decide (Cm.bt (Mg.c m) = Cm.bt c) = false ∧ decide (Cm.bt (Mg.c m) = Cm.bt c) = false ∧ decide (Cm.bt (Mg.c m) = Cm.bt c) = false
  ∧ decide (Cm.bt (Mg.c m) = Cm.bt c) = false ∧ decide (Cm.bt (Mg.c m) = Cm.bt c) = false ∧ Lf) := by unfold VD VQ; kernel_rfl
theorem ia2_vq (x : Cl) (m : Mg) (c : Cm) (f l : Int) (h : decide (m.c.sv = c.sv) = true) (h2 : decide (m.c.bt = c.bt) = true) : VD Try.prog 34 [.agg [.i .i64 c.k, .i .i64
  c.sv, .i .i64 c.bt, .i .i64 c.sq, .i .i64 c.gn, .i .i64 c.lk, .i .i64 c.md, .i .i64 c.ot, isv c.mn c.mf, .i .i64 c.d, .i .i64 f, .i .i64 l], mgV m] [] (Orc.t (Orc.t (Orc.t
  (Orc.t (Orc.t (Orc.t (Orc.t (Orc.t (Orc.t (Orc.t (Orc.t (Orc.t (Orc.t (Orc.t Orc.z)))))))))))))) (.b (decide (Cm.sq (Mg.c m) = Cm.sq c))) [] [] 3 (fun Lf => True ∧ True ∧
  True ∧ True ∧ decide (Cm.sv (Mg.c m) = Cm.sv c) = true ∧ True ∧ decide (Cm.sv (Mg.c m) = Cm.sv c) = true ∧ decide (Cm.sv (Mg.c m) = Cm.sv c) = true ∧ True ∧ decide (Cm.sv
  (Mg.c m) = Cm.sv c) = true ∧ True ∧ decide (Cm.sv (Mg.c m) = Cm.sv c) = true ∧ decide (Cm.sv (Mg.c m) = Cm.sv c) = true ∧ decide (Cm.sv (Mg.c m) = Cm.sv c) = true ∧ decide
  (Cm.bt (Mg.c m) = Cm.bt c) = true ∧ True ∧ decide (Cm.bt (Mg.c m) = Cm.bt c) = true ∧ decide (Cm.bt (Mg.c m) = Cm.bt c) = true ∧ True ∧ decide (Cm.bt (Mg.c m) = Cm.bt c) =
  true ∧ True ∧ decide (Cm.bt (Mg.c m) = Cm.bt c) = true ∧ decide (Cm.bt (Mg.c m) = Cm.bt c) = true ∧ decide (Cm.bt (Mg.c m) = Cm.bt c) = true ∧ Lf)
  := by unfold VD VQ; kernel_rfl
theorem ma0_vq (x : Cl) (c : Cm) (va : Bool) (h : va = false) : VD Try.prog 28 [cmV c] [] (Orc.cal [] (.b va) [] (Orc.f (Orc.f (Orc.f (Orc.f (oc 4 Orc.z)))))) (.b false) [] []
  1 (fun Lf => Con Try.prog 23 [cmV c] [] (.b va) [] ∧ va = false ∧ va = false ∧ va = false ∧ va = false ∧ Lf) := by unfold VD VQ; kernel_rfl
theorem ma1_vq (x : Cl) (c : Cm) (va : Bool) (h : va = true) (h2 : decide (c.k = 8) = true) : VD Try.prog 28 [cmV c] [] (Orc.cal [] (.b va) [] (Orc.t (Orc.t (Orc.t (Orc.t
  (Orc.f (Orc.f (Orc.f (Orc.f Orc.z))))))))) (.b false) [] [] 1 (fun Lf => Con Try.prog 23 [cmV c] [] (.b va) [] ∧ va = true ∧ True ∧ va = true ∧ va = true ∧ va = true ∧
  (!decide (Cm.k c = 8)) = false ∧ (!decide (Cm.k c = 8)) = false ∧ (!decide (Cm.k c = 8)) = false ∧ (!decide (Cm.k c = 8)) = false ∧ Lf) := by unfold VD VQ; kernel_rfl
theorem ma2_vq (x : Cl) (c : Cm) (va : Bool) (h : va = true) (h2 : decide (c.k = 8) = false) : VD Try.prog 28 [cmV c] [] (Orc.cal [] (.b va) [] (Orc.t (Orc.t (Orc.t (Orc.t
  (Orc.t (Orc.t (Orc.t (Orc.t Orc.z))))))))) (.b (decide (Cm.d c = 0))) [] [] 1 (fun Lf => Con Try.prog 23 [cmV c] [] (.b va) [] ∧ va = true ∧ True ∧ va = true ∧ va = true ∧ va
  = true ∧ (!decide (Cm.k c = 8)) = true ∧ True ∧ (!decide (Cm.k c = 8)) = true ∧ (!decide (Cm.k c = 8)) = true ∧ (!decide (Cm.k c = 8)) = true ∧ Lf)
  := by unfold VD VQ; kernel_rfl
theorem cpy_vq (x : Cl) (c : Cm) : VD Try.prog 29 [cmV c] [] (Orc.cal [] (isv (Cm.mn c) (Cm.mf c)) [] Orc.z) (.agg [.i .i64 (Cm.k c), .i .i64 (Cm.sv c), .i .i64 (Cm.bt c), .i
  .i64 (Cm.sq c), .i .i64 (Cm.gn c), .i .i64 (Cm.lk c), .i .i64 (Cm.md c), .i .i64 (Cm.ot c), .sv 1 (Cm.mn c) fun i x => CV.i .i64 (Cm.mf c i), .i .i64 (Cm.d c)]) [] [] 2 (fun
  Lf => True ∧ Con Try.prog 46 [isv (Cm.mn c) (Cm.mf c)] [] (isv (Cm.mn c) (Cm.mf c)) [] ∧ True ∧ Lf) := by unfold VD VQ; kernel_rfl
theorem nT {b : Bool} (h : b = true) : (!b) = false := by rw [h]; rfl
theorem nF {b : Bool} (h : b = false) : (!b) = true := by rw [h]; rfl
theorem nnT {b : Bool} (h : b = true) : (!!b) = true := by rw [h]; rfl
theorem nnF {b : Bool} (h : b = false) : (!!b) = false := by rw [h]; rfl
theorem w26_con (n a b : Int) : Con Try.prog 26 [.i .i64 n, .i .i64 a, .i .i64 b] [] (.b (wi n a b)) [] := by
  unfold wi
  cases h : decide (a ≤ n) with
  | true => rw [Bool.true_and]; exact con_d (wt_vq n a b h) (by repeat' first | exact trivial | assumption | exact rfl | apply And.intro)
  | false => rw [Bool.false_and]; exact con_d (wf_vq n a b h) (by repeat' first | exact trivial | assumption | exact rfl | apply And.intro)
theorem tm_con (n : Int) : Con Try.prog 45 [.i .i64 n] [] (.b (wi n 0 4503599627370496)) [] := by
  unfold wi
  cases h : decide (0 ≤ n) with
  | true =>
    rw [Bool.true_and]
    cases h2 : decide (n ≤ 4503599627370496) with
    | true => exact con_d (tmA_vq n h h2) (by repeat' first | exact trivial | assumption | exact nT h2 | exact nnT h2 | exact decide_eq_true rfl | exact rfl | apply And.intro)
    | false => exact con_d (tmB_vq n h h2) (by repeat' first | exact trivial | assumption | exact nF h2 | exact nnF h2 | exact rfl | apply And.intro)
  | false => rw [Bool.false_and]; exact con_d (tmC_vq n h) (by repeat' first | exact trivial | assumption | exact rfl | apply And.intro)
def cl0 (s b p : Int) : Cl := ⟨s, b, p, 0, 0, false, cm0, 0, 0⟩
def nwB (s b p : Int) : Bool := wi s 0 2 && (wi b 1 1099511627776 && wi p 1 3)
theorem new1_con (s b p : Int) (h : nwB s b p = true) : Con Try.prog 8 [.i .i64 s, .i .i64 b, .i .i64 p] [] (.tup [.p 0 0, .i .i64 0]) [.set (clO (cl0 s b p))] := by
  unfold nwB at h
  simp only [Bool.and_eq_true] at h
  obtain ⟨h1, h2, h3⟩ := h
  refine Con.post (con_d (nwD_vq wi s b p h1 h2 h3) (by repeat' first | exact trivial | exact w26_con _ _ _ | assumption | exact nT h1 | exact nnT h1 | exact nT h2 | exact nnT h2 | exact nT h3 | exact nnT h3 | exact rfl | apply And.intro)) (.refl _) ⟨?_, trivial⟩
  exact OV.cells (l := nwL s b p) (l' := clL (cl0 s b p)) ⟨.refl _, .refl _, .refl _, .refl _, .refl _, .refl _, .refl _, .refl _, .refl _, .refl _, .refl _, .refl _, .refl _, .refl _, .nil _ _, .refl _, .refl _, .refl _, trivial⟩
def fE (n : Int) : Int := bif wi n 0 4503599627370496 then 0 else 2
theorem fa_con (x : Cl) (n : Int) : Con Try.prog 27 [.p 0 0, .i .i64 n] [some (clO x)] (.i .i64 (fE n)) [.keep] := by
  unfold fE
  cases h : wi n 0 4503599627370496 with
  | true => exact con_d (fa0_vq wi x n h) (by repeat' first | exact trivial | exact tm_con _ | exact nT h | exact rfl | apply And.intro)
  | false => exact con_d (fa2_vq wi x n h) (by repeat' first | exact trivial | exact tm_con _ | exact nF h | exact rfl | apply And.intro)
def nqI (x : Cl) : Int := bif decide (x.q + 1 < x.p) then x.q + 1 else 0
theorem np_con (x : Cl) (r : rg (x.q + 1)) : Con Try.prog 32 [.p 0 0] [some (clO x)] (.i .i64 (nqI x)) [.keep] := by
  unfold nqI
  cases h : decide (x.q + 1 < x.p) with
  | true => exact con_d (np1_vq x h) ⟨trivial, r, trivial, h, rfl⟩
  | false => exact con_d (np0_vq x h) ⟨trivial, r, trivial, h, rfl⟩
def mcB (x : Cl) (m : Mg) : Bool := decide (m.k = 9) && (decide (m.to = 8 + x.s) && wi m.fr 0 (x.p - 1))
theorem mc_con (x : Cl) (m : Mg) (r : rg (8 + x.s)) (r2 : rg (x.p - 1)) : Con Try.prog 33 [.p 0 0, mgV m] [some (clO x)] (.b (mcB x m)) [.keep] := by
  unfold mcB
  cases h : decide (m.k = 9) with
  | false => rw [Bool.false_and]; exact con_d (mc0_vq x m h) (by repeat' first | exact trivial | assumption | exact rfl | apply And.intro)
  | true =>
    rw [Bool.true_and]
    cases h2 : decide (m.to = 8 + x.s) with
    | false => rw [Bool.false_and]; exact con_d (mc1_vq x m h h2) (by repeat' first | exact trivial | assumption | exact rfl | apply And.intro)
    | true => rw [Bool.true_and]; exact con_d (mc2_vq wi x m h h2) (by repeat' first | exact trivial | assumption | exact w26_con _ _ _ | exact rfl | apply And.intro)
noncomputable def rqV (c : Cm) (f l : Int) : AV := .agg [.i .i64 c.k, .i .i64 c.sv, .i .i64 c.bt, .i .i64 c.sq, .i .i64 c.gn, .i .i64 c.lk, .i .i64 c.md, .i .i64 c.ot, isv c.mn c.mf, .i .i64 c.d, .i .i64 f, .i .i64 l]
def iaB (c : Cm) (m : Mg) : Bool := decide (m.c.sv = c.sv) && (decide (m.c.bt = c.bt) && decide (m.c.sq = c.sq))
theorem ia_con (c : Cm) (m : Mg) (f l : Int) : Con Try.prog 34 [rqV c f l, mgV m] [] (.b (iaB c m)) [] := by
  unfold iaB rqV
  cases h : decide (m.c.sv = c.sv) with
  | false => rw [Bool.false_and]; exact con_d (ia0_vq (cl0 0 0 0) m c f l h) (by repeat' first | exact trivial | assumption | exact rfl | apply And.intro)
  | true =>
    rw [Bool.true_and]
    cases h2 : decide (m.c.bt = c.bt) with
    | false => rw [Bool.false_and]; exact con_d (ia1_vq (cl0 0 0 0) m c f l h h2) (by repeat' first | exact trivial | assumption | exact rfl | apply And.intro)
    | true => rw [Bool.true_and]; exact con_d (ia2_vq (cl0 0 0 0) m c f l h h2) (by repeat' first | exact trivial | assumption | exact rfl | apply And.intro)
def maB (c : Cm) : Bool := vcB c && (!decide (c.k = 8) && decide (c.d = 0))
theorem ma_con (c : Cm) (hm : c.mn ≤ 1152921504606846976) : Con Try.prog 28 [cmV c] [] (.b (maB c)) [] := by
  have v := vcm_con c hm
  unfold maB
  cases h : vcB c with
  | false => rw [h] at v; rw [Bool.false_and]; exact con_d (ma0_vq (cl0 0 0 0) c false rfl) (by repeat' first | exact trivial | exact v | exact rfl | apply And.intro)
  | true =>
    rw [h] at v
    rw [Bool.true_and]
    cases h2 : decide (c.k = 8) with
    | true => exact con_d (ma1_vq (cl0 0 0 0) c true rfl h2) (by repeat' first | exact trivial | exact v | assumption | exact nT h2 | exact nnT h2 | exact rfl | apply And.intro)
    | false => exact con_d (ma2_vq (cl0 0 0 0) c true rfl h2) (by repeat' first | exact trivial | exact v | assumption | exact nF h2 | exact nnF h2 | exact rfl | apply And.intro)
theorem cpy_con (c : Cm) (hm : c.mn ≤ 17592186044416) : Con Try.prog 29 [cmV c] [] (cmV c) [] := con_d (cpy_vq (cl0 0 0 0) c) (by repeat' first | exact trivial | exact cl53_con _ _ hm | exact rfl | apply And.intro)
def okB (b : Mb) : Prop := b.mn ≤ 17592186044416 ∧ b.sn ≤ 17592186044416 ∧ b.hn ≤ 5864062014805 ∧ b.dn ≤ 5864062014805
end Go.Proofs.Ck
namespace Go.Proofs.Ck
open Go Go.Sim Go.Proofs Go.Proofs.Lk Go.Proofs.Sv
def akC (x : Cl) (c : Cm) : Cm := { c with sv := x.s, bt := x.b, sq := x.n + 1 }
def tdS (x : Cl) (now : Int) : Cl := { x with q := nqI x, l := now }
def akS (x : Cl) (now : Int) (c : Cm) : Cl := ⟨x.s, x.b, x.p, x.q, x.n + 1, true, akC x c, now, now⟩
def tkS (x : Cl) (m : Mg) : Cl := ⟨x.s, x.b, x.p, m.fr, x.n, false, cm0, 0, 0⟩
noncomputable def isC (n : Nat) (f : Nat → Int) : CV := .sv 1 n fun i _ => .i .i64 (f i)
noncomputable def svC (n : Nat) (A M W : Nat → Int) : CV := .sv 3 n (qF A M W)
noncomputable def mgC (m : Mg) : List CV := [.i .i64 m.k, .i .i64 m.fr, .i .i64 m.to, .i .i64 m.bl, .i .i64 m.sl, .i .i64 m.ab, .s m.av, .s m.st,
  .i .i64 m.c.k, .i .i64 m.c.sv, .i .i64 m.c.bt, .i .i64 m.c.sq, .i .i64 m.c.gn, .i .i64 m.c.lk, .i .i64 m.c.md, .i .i64 m.c.ot, isC m.c.mn m.c.mf, .i .i64 m.c.d,
  .i .i64 (m.v.x 6), .i .i64 (m.v.x 7), .i .i64 (m.v.x 8), isC m.v.mn m.v.mf, isC m.v.sn m.v.sf, svC m.v.hn m.v.hA m.v.hM m.v.hW, svC m.v.dn m.v.dA m.v.dM m.v.dW]
noncomputable def mgF (m : Mg) (i j : Nat) : CV := (mgC m).getD j .p0
noncomputable def mg1 (m : Mg) : AV := .sv 25 1 (mgF m)
def rqM (x : Cl) : Mg := ⟨8, 8 + x.c.sv, x.q, 0, 0, 0, [], [], x.c, mb0⟩
noncomputable def mgO (m : Mg) : AObj := .cells 47 25 [] (setAll .e 0 (mgL m))
noncomputable def mzL : List AV := [.i .i64 0, .i .i64 0, .i .i64 0, .i .i64 0, .i .i64 0, .i .i64 0, .s [], .s [], .i .i64 0, .i .i64 0, .i .i64 0, .i .i64 0, .i .i64 0, .i .i64 0, .i .i64 0, .i .i64 0, .l0, .i .i64 0, .i .i64 0, .i .i64 0, .i .i64 0, .l0, .l0, .l0, .l0]
noncomputable def mgZ : AObj := .cells 47 25 mzL .e
noncomputable def moL (x : Cl) (A n : Nat) : List AV := [.i .i64 8, .i .i64 (8 + x.s), .i .i64 x.q, .i .i64 0, .i .i64 0, .i .i64 0, .s [], .s [], .i .i64 7, .i .i64 x.s, .i .i64 x.b, .i .i64 (x.n + 1), .i .i64 1, .i .i64 0, .i .i64 0, .i .i64 0, .lr A 1 0 n false, .i .i64 0, .i .i64 0, .i .i64 0, .i .i64 0, .l0, .l0, .l0, .l0]
noncomputable def moO (x : Cl) (A n : Nat) : AObj := .cells 47 25 [] (setAll .e 0 (moL x A n))
theorem cw_0 (a b : Nat) (f g : Nat → Nat → CV) : CW (.sv a 0 f) (.sv b 0 g) := by
  intro ro v h
  cases h with
  | sv0 => exact .sv0 _ _
  | svz _ _ x c => exact .svz _ _ x c
  | sv _ _ _ B o cap g' h1 h2 h3 => exact .svz _ _ _ _
end Go.Proofs.Ck
namespace Go.Proofs.Ck
open Go Go.Sim Go.Proofs Go.Proofs.Lk Go.Proofs.Sv Go.Proofs.Ytgggnjjhfkijfaa
noncomputable abbrev rqL (s q : Int) (c : Cm) (e : Nat → Nat → CV) : List CV := [.i .i64 8, .i .i64 (8 + s), .i .i64 q, .i .i64 0, .i .i64 0, .i .i64 0, .s [], .s [], .i .i64 c.k, .i .i64 c.sv, .i .i64 c.bt, .i .i64 c.sq, .i .i64 c.gn, .i .i64 c.lk, .i .i64 c.md, .i .i64 c.ot, .sv 1 c.mn fun i _ => .i .i64 (c.mf i), .i .i64 c.d, .i .i64 0, .i .i64 0, .i .i64 0, .sv 1 0 e, .sv 1 0 e, .sv 1 0 e, .sv 1 0 e]
noncomputable abbrev clD (x : Cl) (nq now : Int) : Cl := { x with q := nq, l := now }
noncomputable abbrev tkL (x : Cl) (m : Mg) : List AV := [.i .i64 x.s, .i .i64 x.b, .i .i64 x.p, .i .i64 m.fr, .i .i64 x.n, .b false, .i .i64 0, .i .i64 0, .i .i64 0, .i .i64 0, .i .i64 0, .i .i64 0, .i .i64 0, .i .i64 0, .l0, .i .i64 0, .i .i64 0, .i .i64 0]
theorem tdY_fq (x : Cl) (now : Int) (nq : Int) (h : x.o = true) (h2 : decide (now < x.l + 6) = false) : VF Try.prog 10 [.p 0 0, .i .i64 now] [some (clO x)] (Orc.cal [0] (.i
  .i64 0) [.keep] (Orc.c (Orc.t (Orc.t (Orc.t (Orc.t (Orc.t (Orc.t (Orc.t (Orc.t (Orc.f (Orc.f (Orc.cal [0] (.i .i64 nq) [.keep] (Orc.inl (Orc.inl (Orc.cal [] (.agg [.i .i64
  (Cm.k (Cl.c x)), .i .i64 (Cm.sv (Cl.c x)), .i .i64 (Cm.bt (Cl.c x)), .i .i64 (Cm.sq (Cl.c x)), .i .i64 (Cm.gn (Cl.c x)), .i .i64 (Cm.lk (Cl.c x)), .i .i64 (Cm.md (Cl.c x)),
  .i .i64 (Cm.ot (Cl.c x)), isv (Cm.mn (Cl.c x)) (Cm.mf (Cl.c x)), .i .i64 (Cm.d (Cl.c x))]) [] Orc.z)))))))))))))))) (.tup [.sv 25 1 (listF 25 (rqL x.c.sv nq x.c fun _ _ =>
  .p0) 1), .i .i64 0]) [.set (clO (clD x nq now))] [3] [] ((0 + 1 * 25 ≤ 25 ∧ (True ∧ True)) ∧ True) 4 (fun Lf => Con Try.prog 27 [.p 0 0, .i .i64 now] [some (clO x)] (.i .i64
  0) [.keep] ∧ True ∧ True ∧ (!!Cl.o x) = true ∧ (!!Cl.o x) = true ∧ (!!Cl.o x) = true ∧ (!!Cl.o x) = true ∧ True ∧ (!!Cl.o x) = true ∧ True ∧ (!!Cl.o x) = true ∧ (!!Cl.o x) =
  true ∧ rg (Cl.l x + 6) ∧ (!!Cl.o x) = true ∧ (!Cl.o x) = false ∧ decide (now < Cl.l x + 6) = false ∧ Con Try.prog 32 [.p 0 0] [some (clO x)] (.i .i64 nq) [.keep] ∧ True ∧
  True ∧ True ∧ True ∧ True ∧ True ∧ True ∧ rg (8 + Cm.sv (Cl.c x)) ∧ True ∧ Con Try.prog 29 [.agg [.i .i64 (Cm.k (Cl.c x)), .i .i64 (Cm.sv (Cl.c x)), .i .i64 (Cm.bt (Cl.c x)),
  .i .i64 (Cm.sq (Cl.c x)), .i .i64 (Cm.gn (Cl.c x)), .i .i64 (Cm.lk (Cl.c x)), .i .i64 (Cm.md (Cl.c x)), .i .i64 (Cm.ot (Cl.c x)), isv (Cm.mn (Cl.c x)) (Cm.mf (Cl.c x)), .i
  .i64 (Cm.d (Cl.c x))]] [] (.agg [.i .i64 (Cm.k (Cl.c x)), .i .i64 (Cm.sv (Cl.c x)), .i .i64 (Cm.bt (Cl.c x)), .i .i64 (Cm.sq (Cl.c x)), .i .i64 (Cm.gn (Cl.c x)), .i .i64
  (Cm.lk (Cl.c x)), .i .i64 (Cm.md (Cl.c x)), .i .i64 (Cm.ot (Cl.c x)), isv (Cm.mn (Cl.c x)) (Cm.mf (Cl.c x)), .i .i64 (Cm.d (Cl.c x))]) [] ∧ Lf) := by unfold VF; kernel_rfl
def tdB (x : Cl) (now : Int) : Bool := decide (fE now = 0) && (x.o && !decide (now < x.l + 6))
theorem mg1_of (s q : Int) (c : Cm) (e : Nat → Nat → CV) (x : Cl) (h1 : s = x.c.sv) (h2 : q = x.q) (h3 : c = x.c) : VW (.sv 25 1 (listF 25 (rqL s q c e) 1)) (mg1 (rqM x)) := by
  subst h1 h2 h3
  refine VW.svW fun i j hi hj => ?_
  rw [listF_1]
  match j, hj with
  | 0, _ | 1, _ | 2, _ | 3, _ | 4, _ | 5, _ | 6, _ | 7, _ | 8, _ | 9, _ | 10, _ | 11, _ | 12, _ | 13, _ | 14, _ | 15, _ | 16, _ | 17, _ | 18, _ | 19, _ | 20, _ => exact CW.refl _
  | 21, _ | 22, _ | 23, _ | 24, _ => exact cw_0 _ _ _ _
  | n + 25, h => exact absurd h (by omega)
theorem frp1 : ((0 : Nat) + 1 * 25 ≤ 25 ∧ (True ∧ True)) ∧ True := ⟨⟨by decide, trivial, trivial⟩, trivial⟩
theorem tdY_con (x : Cl) (now : Int) (h : tdB x now = true) (r : rg (x.l + 6)) (r2 : rg (x.q + 1)) (r3 : rg (8 + x.c.sv)) (hm : x.c.mn ≤ 17592186044416) : Con Try.prog 10 [.p 0 0, .i .i64 now] [some (clO x)] (.tup [mg1 (rqM (tdS x now)), .i .i64 0]) [.set (clO (tdS x now))] := by
  have f := fa_con x now
  have np := np_con x r2
  have cp := cpy_con x.c hm
  unfold tdB at h
  simp only [Bool.and_eq_true, Bool.not_eq_true', decide_eq_true_eq] at h
  obtain ⟨e, ho, h2⟩ := h
  rw [e] at f
  refine Con.post (con_f (tdY_fq x now (nqI x) ho h2) frp1 (by repeat' first | exact trivial | exact f | exact np | exact cp | exact r | exact r3 | exact h2 | exact nT ho | exact nnT ho | exact rfl | apply And.intro)) (.tup ⟨mg1_of _ _ _ _ (tdS x now) rfl rfl rfl, .refl _, trivial⟩) (.refl _)
end Go.Proofs.Ck
namespace Go.Proofs.Ck
open Go Go.Sim Go.Proofs Go.Proofs.Ytgggnjjhfkijfaa
theorem awake_con : Con Try.prog 13 [] [] (.b true) [] := closed_con (fuel := 100000000) (by kernel_rfl)
end Go.Proofs.Ck
namespace Go.Proofs.Sv
open Go Go.Sim Go.Proofs Go.Proofs.Lk Go.Proofs.Ytgggnjjhfkijfaa
theorem boT {b : Bool} (h : b = false) : (!b) = true := by rw [h]; rfl
theorem boF {b : Bool} (h : b = true) : (!b) = false := by rw [h]; rfl
end Go.Proofs.Sv
