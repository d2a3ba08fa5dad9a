/- Runs over unknown values, told by the kernel: part RvA. -/
import Derived.Test.YtafknnedagolhaaDoorRnB
set_option linter.unusedSimpArgs false
set_option linter.unusedVariables false
set_option maxRecDepth 20000
namespace Go.Proofs.Cl
open Go Go.Sim Go.Proofs Go.Proofs.Cd Go.Proofs.St Go.Proofs.YtafknnedagolhaaDoor
theorem play1_vc (c : CS) (rd : Bool) (s : SS) (C : CS) (D : Bool) (S : SS) (E : Int) (kk n q : Int) (d : List Nat) (v g : Int) (tt : Bool) (g1 : decide (kk = 1) = true) (K : Res → Orc → Prop) : runK Tryd.prog 1000000 (.call 37 [.p 0 0, .agg [.i .i64 kk, .i .i64 n, .i .i64 q, .s d, .i .i64 v, .i .i64 g, .b tt]] (mkH [some (c.ro rd), some s.o])) (Orc.t (Orc.cal [0, 1] (AV.i .i64 E) [Upd.set (CS.ro C D), Upd.set (SS.o S)] Orc.z)) K = (True ∧ decide (kk = 1) = true ∧ True ∧ True ∧ Con Tryd.prog 30 [AV.p 0 0, AV.i .i64 n, AV.agg [AV.i .i64 q, AV.s d]] [some (CS.ro c rd), some (SS.o s)] (AV.i .i64 E) [Upd.set (CS.ro C D), Upd.set (SS.o S)] ∧ K (Res.rv (AV.tup []) ⟨z1 (CS.ro C D) (zl (SS.o S)) (zl (AObj.cells 65 7 [] (z1 (AV.i .i64 kk) (z1 (AV.i .i64 n) (zl (AV.s d)) (zl (AV.i .i64 g))) (z1 (AV.i .i64 q) (zl (AV.i .i64 v)) (zl (AV.b tt)))))), 3, [1, 0, 2]⟩) Orc.z) := by kernel_rfl
theorem play2_vc (c : CS) (rd : Bool) (s : SS) (C : CS) (D : Bool) (S : SS) (E : Int) (kk n q : Int) (d : List Nat) (v g : Int) (tt : Bool) (g1 : decide (kk = 1) = false) (g2 : decide (kk = 2) = true) (K : Res → Orc → Prop) : runK Tryd.prog 1000000 (.call 37 [.p 0 0, .agg [.i .i64 kk, .i .i64 n, .i .i64 q, .s d, .i .i64 v, .i .i64 g, .b tt]] (mkH [some (c.ro rd), some s.o])) (Orc.f (Orc.t (Orc.cal [0, 1] (AV.i .i64 E) [Upd.set (CS.ro C D), Upd.set (SS.o S)] Orc.z))) K = (True ∧ decide (kk = 1) = false ∧ decide (kk = 2) = true ∧ True ∧ True ∧ Con Tryd.prog 31 [AV.p 0 0, AV.i .i64 v, AV.i .i64 g] [some (CS.ro c rd), some (SS.o s)] (AV.i .i64 E) [Upd.set (CS.ro C D), Upd.set (SS.o S)] ∧ K (Res.rv (AV.tup []) ⟨z1 (CS.ro C D) (zl (SS.o S)) (zl (AObj.cells 65 7 [] (z1 (AV.i .i64 kk) (z1 (AV.i .i64 n) (zl (AV.s d)) (zl (AV.i .i64 g))) (z1 (AV.i .i64 q) (zl (AV.i .i64 v)) (zl (AV.b tt)))))), 3,
  [1, 0, 2]⟩) Orc.z) := by kernel_rfl
theorem play3_vc (c : CS) (rd : Bool) (s : SS) (C : CS) (D : Bool) (S : SS) (E : Int) (kk n q : Int) (d : List Nat) (v g : Int) (tt : Bool) (g1 : decide (kk = 1) = false) (g2 : decide (kk = 2) = false) (g3 : decide (kk = 3) = true) (K : Res → Orc → Prop) : runK Tryd.prog 1000000 (.call 37 [.p 0 0, .agg [.i .i64 kk, .i .i64 n, .i .i64 q, .s d, .i .i64 v, .i .i64 g, .b tt]] (mkH [some (c.ro rd), some s.o])) (Orc.f (Orc.f (Orc.t (Orc.cal [0, 1] (AV.i .i64 E) [Upd.set (CS.ro C D), Upd.set (SS.o S)] Orc.z)))) K = (True ∧ decide (kk = 1) = false ∧ decide (kk = 2) = false ∧ decide (kk = 3) = true ∧ True ∧ Con Tryd.prog 32 [AV.p 0 0, AV.i .i64 n] [some (CS.ro c rd), some (SS.o s)] (AV.i .i64 E) [Upd.set (CS.ro C D), Upd.set (SS.o S)] ∧ K (Res.rv (AV.tup []) ⟨z1 (CS.ro C D) (zl (SS.o S)) (zl (AObj.cells 65 7 [] (z1 (AV.i .i64 kk) (z1 (AV.i .i64 n) (zl (AV.s d)) (zl (AV.i .i64 g))) (z1 (AV.i .i64
  q) (zl (AV.i .i64 v)) (zl (AV.b tt)))))), 3, [1, 0, 2]⟩) Orc.z) := by kernel_rfl
theorem play4_vc (c : CS) (rd : Bool) (s : SS) (C : CS) (D : Bool) (S : SS) (E : Int) (kk n q : Int) (d : List Nat) (v g : Int) (tt : Bool) (g1 : decide (kk = 1) = false) (g2 : decide (kk = 2) = false) (g3 : decide (kk = 3) = false) (g4 : decide (kk = 4) = true) (K : Res → Orc → Prop) : runK Tryd.prog 1000000 (.call 37 [.p 0 0, .agg [.i .i64 kk, .i .i64 n, .i .i64 q, .s d, .i .i64 v, .i .i64 g, .b tt]] (mkH [some (c.ro rd), some s.o])) (Orc.f (Orc.f (Orc.f (Orc.t (Orc.cal [0, 1] (AV.i .i64 E) [Upd.set (CS.ro C D), Upd.set (SS.o S)] Orc.z))))) K = (True ∧ decide (kk = 1) = false ∧ decide (kk = 2) = false ∧ decide (kk = 3) = false ∧ decide (kk = 4) = true ∧ True ∧ Con Tryd.prog 55 [AV.p 0 0, AV.i .i64 n] [some (CS.ro c rd), some (SS.o s)] (AV.i .i64 E) [Upd.set (CS.ro C D), Upd.set (SS.o S)] ∧ K (Res.rv (AV.tup []) ⟨z1 (CS.ro C D) (zl (SS.o S)) (zl (AObj.cells 65 7 [] (z1 (AV.i .i64 kk)
  (z1 (AV.i .i64 n) (zl (AV.s d)) (zl (AV.i .i64 g))) (z1 (AV.i .i64 q) (zl (AV.i .i64 v)) (zl (AV.b tt)))))), 3, [1, 0, 2]⟩) Orc.z) := by kernel_rfl
theorem play0_vc (c : CS) (rd : Bool) (s : SS) (C : CS) (D : Bool) (S : SS) (E : Int) (kk n q : Int) (d : List Nat) (v g : Int) (tt : Bool) (g1 : decide (kk = 1) = false) (g2 : decide (kk = 2) = false) (g3 : decide (kk = 3) = false) (g4 : decide (kk = 4) = false) (K : Res → Orc → Prop) : runK Tryd.prog 1000000 (.call 37 [.p 0 0, .agg [.i .i64 kk, .i .i64 n, .i .i64 q, .s d, .i .i64 v, .i .i64 g, .b tt]] (mkH [some (c.ro rd), some s.o])) (Orc.f (Orc.f (Orc.f (Orc.f (Orc.cal [0, 1] (AV.i .i64 E) [Upd.set (CS.ro C D), Upd.set (SS.o S)] Orc.z))))) K = (True ∧ decide (kk = 1) = false ∧ decide (kk = 2) = false ∧ decide (kk = 3) = false ∧ decide (kk = 4) = false ∧ True ∧ True ∧ True ∧ True ∧ Con Tryd.prog 35 [AV.p 0 0, AV.i .i64 n, AV.agg [AV.i .i64 q, AV.s d], AV.i .i64 v, AV.i .i64 g] [some (CS.ro c rd), some (SS.o s)] (AV.i .i64 E) [Upd.set (CS.ro C D), Upd.set (SS.o S)] ∧ K (Res.rv (AV.tup
  []) ⟨z1 (CS.ro C D) (zl (SS.o S)) (zl (AObj.cells 65 7 [] (z1 (AV.i .i64 kk) (z1 (AV.i .i64 n) (zl (AV.s d)) (zl (AV.i .i64 g))) (z1 (AV.i .i64 q) (zl (AV.i .i64 v)) (zl (AV.b tt)))))), 3, [1, 0, 2]⟩) Orc.z) := by kernel_rfl
noncomputable def plW (c : CS) (rd : Bool) (kk n q : Int) (d : List Nat) (v g : Int) : Int :=
  bif decide (kk = 1) then loadW c rd n q d else bif decide (kk = 2) then fenceW c rd v g else bif decide (kk = 3) then adoptI c rd n else bif decide (kk = 4) then joinI c rd n else applyW c rd n q d v g
noncomputable def plI (kk n : Int) : Int :=
  bif decide (kk = 1) then n else bif decide (kk = 2) then 128 else bif decide (kk = 3) then 128 else bif decide (kk = 4) then 128 else n
noncomputable def plX (c : CS) (kk n q : Int) (d : List Nat) (v g : Int) : List Nat :=
  bif decide (kk = 1) then btx q.toNat d else bif decide (kk = 2) then fenceT c v g else bif decide (kk = 3) then adoptT c n.toNat else bif decide (kk = 4) then joinT c n.toNat else btx q.toNat d
def Play (F : FuncId) (args : List AV) (w : Int) (c : CS) (rd : Bool) (s : SS) (i : Int) (x : List Nat) : Prop :=
  Con Tryd.prog F args [some (c.ro rd), some s.o] (.tup []) [.set ((actC w c s i x).ro (actD w rd c s i x)), .set (actS w c s i x).o]
theorem play_con {c : CS} {s : SS} {m : Nat} (h : Inv c s m) (ht : Txt c) (hm : m < 1073741823) (rd : Bool) (kk n q : Int) (d : List Nat) (v g : Int) (tt : Bool) (hd : ∀ y ∈ d, y < 256) :
    Play 37 [.p 0 0, .agg [.i .i64 kk, .i .i64 n, .i .i64 q, .s d, .i .i64 v, .i .i64 g, .b tt]] (plW c rd kk n q d v g) c rd s (plI kk n) (plX c kk n q d v g) := by
  unfold plW plI plX
  cases g1 : decide (kk = (1 : Int)) with
  | true => exact con_of_run [] [] ((play1_vc c rd s _ _ _ _ kk n q d v g tt g1 _).mpr ⟨trivial, g1, trivial, trivial, load_con h ht hm rd n q d hd, _, _, rfl, ret_k (by kernel_rfl)⟩)
  | false =>
  cases g2 : decide (kk = (2 : Int)) with
  | true => exact con_of_run [] [] ((play2_vc c rd s _ _ _ _ kk n q d v g tt g1 g2 _).mpr ⟨trivial, g1, g2, trivial, trivial, fence_con h ht hm rd v g, _, _, rfl, ret_k (by kernel_rfl)⟩)
  | false =>
  cases g3 : decide (kk = (3 : Int)) with
  | true => exact con_of_run [] [] ((play3_vc c rd s _ _ _ _ kk n q d v g tt g1 g2 g3 _).mpr ⟨trivial, g1, g2, g3, trivial, adoptI_con h ht hm rd n, _, _, rfl, ret_k (by kernel_rfl)⟩)
  | false =>
  cases g4 : decide (kk = (4 : Int)) with
  | true => exact con_of_run [] [] ((play4_vc c rd s _ _ _ _ kk n q d v g tt g1 g2 g3 g4 _).mpr ⟨trivial, g1, g2, g3, g4, trivial, joinI_con h ht hm rd n, _, _, rfl, ret_k (by kernel_rfl)⟩)
  | false => exact con_of_run [] [] ((play0_vc c rd s _ _ _ _ kk n q d v g tt g1 g2 g3 g4 _).mpr ⟨trivial, g1, g2, g3, g4, trivial, trivial, trivial, trivial, apply_con h ht hm rd n q d v g hd, _, _, rfl, ret_k (by kernel_rfl)⟩)
theorem join_put {c : CS} {rd : Bool} {n : Int} (h : joinI c rd n = -1) : rd = false ∧ n.toNat ≤ 1099511627776 := by
  unfold joinI at h
  cases h0 : decide ((0 : Int) ≤ n) with
  | false =>
    rw [h0] at h
    cases rd with
    | true => exact absurd (show (13 : Int) = -1 from h) (by decide)
    | false => exact absurd (show (2 : Int) = -1 from h) (by decide)
  | true =>
    rw [h0] at h
    have h : joinW c rd n.toNat = -1 := h
    unfold joinW at h
    cases rd with
    | true => exact absurd (show (13 : Int) = -1 from h) (by decide)
    | false =>
      cases h1 : decide (Int.ofNat n.toNat ≤ (1099511627776 : Int)) with
      | false => rw [h1] at h; exact absurd (show (2 : Int) = -1 from h) (by decide)
      | true => have := of_decide_eq_true h1; exact ⟨rfl, by simp at this; omega⟩
theorem pl_put {c : CS} {rd : Bool} {kk n q : Int} {d : List Nat} {v g : Int} (hd : ∀ y ∈ d, y < 256) (h : plW c rd kk n q d v g = -1) : rd = false ∧ ∀ y ∈ plX c kk n q d v g, y < 256 := by
  unfold plW at h
  unfold plX
  cases g1 : decide (kk = (1 : Int)) with
  | true =>
    rw [g1] at h
    have h : loadW c rd n q d = -1 := h
    exact ⟨(load_put h).1, btx_lt' (mayL_bd (load_put h).2).2 hd⟩
  | false =>
  rw [g1] at h
  cases g2 : decide (kk = (2 : Int)) with
  | true =>
    rw [g2] at h
    have h : fenceW c rd v g = -1 := h
    have hg := (fence_may (fence_put h).2.1).2.2
    exact ⟨(fence_put h).1, mtx_lt (mV_le c 0 (by decide)) (mV_le c 1 (by decide)) (fv_le hg (by decide)) (fv_le hg (by decide)) (fv_le hg (by decide))⟩
  | false =>
  rw [g2] at h
  cases g3 : decide (kk = (3 : Int)) with
  | true =>
    rw [g3] at h
    have h : adoptI c rd n = -1 := h
    exact ⟨(adopt_put h).1, mtx_lt (by have := (adopt_put h).2.1; omega) (mV_le c 1 (by decide)) (mV_le c 2 (by decide)) (mV_le c 3 (by decide)) (mV_le c 4 (by decide))⟩
  | false =>
  rw [g3] at h
  cases g4 : decide (kk = (4 : Int)) with
  | true =>
    rw [g4] at h
    have h : joinI c rd n = -1 := h
    exact ⟨(join_put h).1, mtx_lt (mV_le c 0 (by decide)) (join_put h).2 (mV_le c 2 (by decide)) (mV_le c 3 (by decide)) (mV_le c 4 (by decide))⟩
  | false =>
    rw [g4] at h
    have h : applyW c rd n q d v g = -1 := h
    exact ⟨(apply_put h).1, btx_lt' (apply_may (apply_put h).2.1).2.1.2 hd⟩
theorem wrS_un {s : SS} (ho : s.off = false) (ha : s.armed = false) (a : Int) (L : Nat) (bs : Nat → Int) : (s.wrS a L bs).armed = false ∧ (s.wrS a L bs).off = false := by
  unfold SS.wrS
  rw [ho]
  cases decide (0 ≤ a ∧ a < Int.ofNat s.n ∧ L = 64) with
  | false => exact ⟨ha, ho⟩
  | true =>
    show ((s.wrote a.toNat bs).pay).armed = false ∧ ((s.wrote a.toNat bs).pay).off = false
    unfold SS.pay
    rw [show (s.wrote a.toNat bs).armed = false from ha]
    exact ⟨ha, ho⟩
theorem bar_un {s : SS} (ho : s.off = false) (ha : s.armed = false) : s.bar.armed = false ∧ s.bar.off = false := by
  unfold SS.bar
  rw [ho]
  exact ⟨ha, ho⟩
theorem cm_un {s : SS} (ho : s.off = false) (ha : s.armed = false) (a q : Int) (d : List Nat) : (cmS s a q d).armed = false ∧ (cmS s a q d).off = false := by
  have w := wrS_un ho ha a 64 (fun k => Int.ofNat (sectB q.toNat d k))
  unfold cmS
  cases decide (s.wrE a 64 = 0) with
  | true => exact bar_un w.2 w.1
  | false => exact w
theorem putS_un {c : CS} {s : SS} (ho : s.off = false) (ha : s.armed = false) (i : Int) (x : List Nat) : (c.putS s i x).armed = false ∧ (c.putS s i x).off = false := by
  unfold CS.putS
  cases decide (c.no i x = 0) with
  | false => exact ⟨ha, ho⟩
  | true => exact cm_un ho ha _ _ _
structure LI (k : Nat) (c : CS) (s : SS) : Prop where
  R : RvI k c s
  T : Txt c
  A : s.armed = false
theorem LI.mono {k m : Nat} {c : CS} {s : SS} (h : LI k c s) (hm : k ≤ m) (h1 : m ≤ 1001) : LI m c s := ⟨h.R.mono hm h1, h.T, h.A⟩
theorem LI.act {k : Nat} {c : CS} {s : SS} (h : LI k c s) (hk : k < 1001) (w i : Int) (x : List Nat) (hx : w = -1 → ∀ b ∈ x, b < 256) :
    LI (k + 1) (actC w c s i x) (actS w c s i x) ∧ actD w false c s i x = false := by
  by_cases hw : w = -1
  · subst hw
    have X := hx rfl
    obtain ⟨e1, e2, e3, e4⟩ := act_yes c false s i x
    have un := putS_un (c := c) h.R.off h.A i x
    rw [e2, e3, e4]
    rcases h.R.put hk i x X with ⟨p1, p2, p3⟩ | ⟨hi, p1, p2, p3⟩ | ⟨p1, p2, _⟩
    · rw [p1, p2, p3]; exact ⟨h.mono (Nat.le_succ k) hk, rfl⟩
    · rw [p1]; exact ⟨⟨p2, h.T.put s i X, un.1⟩, rfl⟩
    · rw [un.2] at p2; cases p2
  · obtain ⟨e1, e2, e3, e4⟩ := act_no hw c false s i x
    rw [e2, e3, e4]
    exact ⟨h.mono (Nat.le_succ k) hk, rfl⟩
end Go.Proofs.Cl
namespace Go.Proofs.Cl
open Go Go.Sim Go.Proofs Go.Proofs.Cd Go.Proofs.St
noncomputable def CS.rp (c : CS) (rd : Bool) (a : Nat) : AObj :=
  .segs 126 772 [⟨1, 1, 1, oneF (.i .i64 (Int.ofNat c.n))⟩, ⟨2, 3, 256, cellF c.q c.d c.sp⟩, ⟨770, 1, 1, oneF (.b c.dead)⟩, ⟨771, 1, 1, oneF (.b rd)⟩] [(0, .p a 0)]
noncomputable def CS.rq (c : CS) (rd : Bool) : AObj := c.rp rd 2
noncomputable def CS.rr (c : CS) (rd : Bool) : AObj := c.rp rd 3
noncomputable def laO (kk n q : Int) (d : List Nat) (v g : Int) (tt : Bool) : AObj :=
  .cells 65 7 [] (.n (some (.i .i64 kk)) (.n (some (.i .i64 n)) (.n (some (.s d)) .e .e) (.n (some (.i .i64 g)) .e .e)) (.n (some (.i .i64 q)) (.n (some (.i .i64 v)) .e .e) (.n (some (.b tt)) .e .e)))
end Go.Proofs.Cl
namespace Go.Proofs.Cl
open Go Go.Sim Go.Proofs Go.Proofs.Cd Go.Proofs.St Go.Proofs.YtafknnedagolhaaDoor
theorem nv0E_vc (c : CS) (s : SS) (C : CS) (S : SS) (L k : Nat) (KK NN QQ : Nat → Int) (XX : Nat → List Nat) (VV GG : Nat → Int) (TT : Nat → Bool) (kk n q : Int) (d : List Nat) (v g : Int) (tt : Bool) (hl : decide (Int.ofNat k < Int.ofNat L) = false) (K : Res → Orc → Prop) : runK Tryd.prog 1000000 (.code (loopAt Tryd.prog 6 0) 127 (mkT [(0, .sv 7 L (opF7 KK NN QQ XX VV GG TT)), (1, .agg [.i .i64 kk, .i .i64 n, .i .i64 q, .s d, .i .i64 v, .i .i64 g, .b tt]), (3, .p 0 0), (5, .p 1 0), (6, .p 2 0), (7, .p 3 0), (8, .p 4 0), (29, .sv 7 L (opF7 KK NN QQ XX VV GG TT)), (30, .i .i64 (Int.ofNat L)), (31, .i .i64 (Int.ofNat k))]) (mkH [some (laO kk n q d v g tt), some s.o, some (c.ro false), some s.o, some (c.rr false)])) (Orc.f Orc.z) K = (decide (Int.ofNat k < Int.ofNat L) = false ∧ K (Res.st (XO.exit 0) (z1 (AV.sv 7 L (opF7 KK NN QQ XX VV GG TT)) (z1 (AV.agg [AV.i .i64 kk, AV.i .i64 n, AV.i
  .i64 q, AV.s d, AV.i .i64 v, AV.i .i64 g, AV.b tt]) (z1 (AV.p 0 0) (z1 (AV.p 3 0) (z0 (zl (AV.i .i64 (Int.ofNat k))) T.e) T.e) T.e) (z1 (AV.p 1 0) T.e (z0 T.e (zl (AV.sv 7 L (opF7 KK NN QQ XX VV GG TT)))))) (z0 (z0 (z1 (AV.p 4 0) (z0 (zl (AV.b (decide (Int.ofNat k < Int.ofNat L)))) T.e) T.e) T.e) (z1 (AV.p 2 0) T.e (z0 T.e (zl (AV.i .i64 (Int.ofNat L))))))) ⟨z1 (AObj.cells 65 7 [] (z1 (AV.i .i64 kk) (z1 (AV.i .i64 n) (zl (AV.s d)) (zl (AV.i .i64 g))) (z1 (AV.i .i64 q) (zl (AV.i .i64 v)) (zl (AV.b tt))))) (z1 (SS.o s) (zl (SS.o s)) T.e) (z1 (CS.ro c false) (zl (AObj.segs 126 772 [⟨1, 1, 1, oneF (CV.i .i64 (Int.ofNat (CS.n c)))⟩, ⟨2, 3, 256, cellF (CS.q c) (CS.d c) (CS.sp c)⟩, ⟨770, 1, 1, oneF (CV.b (CS.dead c))⟩, ⟨771, 1, 1, oneF (CV.b false)⟩] [(0, AV.p 3 0)])) T.e), 5, []⟩) Orc.z) := by kernel_rfl
theorem nv0B_vc (c : CS) (s : SS) (C : CS) (S : SS) (L k : Nat) (KK NN QQ : Nat → Int) (XX : Nat → List Nat) (VV GG : Nat → Int) (TT : Nat → Bool) (kk n q : Int) (d : List Nat) (v g : Int) (tt : Bool) (hl : decide (Int.ofNat k < Int.ofNat L) = true) (hk : decide (100 < Int.ofNat k) = true) (K : Res → Orc → Prop) : runK Tryd.prog 1000000 (.code (loopAt Tryd.prog 6 0) 127 (mkT [(0, .sv 7 L (opF7 KK NN QQ XX VV GG TT)), (1, .agg [.i .i64 kk, .i .i64 n, .i .i64 q, .s d, .i .i64 v, .i .i64 g, .b tt]), (3, .p 0 0), (5, .p 1 0), (6, .p 2 0), (7, .p 3 0), (8, .p 4 0), (29, .sv 7 L (opF7 KK NN QQ XX VV GG TT)), (30, .i .i64 (Int.ofNat L)), (31, .i .i64 (Int.ofNat k))]) (mkH [some (laO kk n q d v g tt), some s.o, some (c.ro false), some s.o, some (c.rr false)])) (Orc.t (Orc.t Orc.z)) K = (decide (Int.ofNat k < Int.ofNat L) = true ∧ (0 ≤ Int.ofNat k ∧ Int.ofNat k < ↑L) ∧ True ∧ decide (100 <
  Int.ofNat k) = true ∧ K (Res.st (XO.exit 0) (z1 (AV.sv 7 L (opF7 KK NN QQ XX VV GG TT)) (z1 (AV.agg [AV.i .i64 kk, AV.i .i64 n, AV.i .i64 q, AV.s d, AV.i .i64 v, AV.i .i64 g, AV.b tt]) (z1 (AV.p 0 0) (z1 (AV.p 3 0) (z0 (zl (AV.i .i64 (Int.ofNat k))) T.e) T.e) (z0 (z0 (zl (AV.agg [AV.i .i64 (KK k), AV.i .i64 (NN k), AV.i .i64 (QQ k), AV.s (XX k), AV.i .i64 (VV k), AV.i .i64 (GG k), AV.b (TT k)])) T.e) T.e)) (z1 (AV.p 1 0) (z1 (AV.i .i64 (Int.ofNat k)) (z0 (zl (AV.i .i64 (Int.ofNat k))) T.e) T.e) (z0 (z0 (zl (AV.b (decide (100 < Int.ofNat k)))) T.e) (zl (AV.sv 7 L (opF7 KK NN QQ XX VV GG TT)))))) (z0 (z0 (z1 (AV.p 4 0) (z0 (zl (AV.b (decide (Int.ofNat k < Int.ofNat L)))) T.e) T.e) (z0 (z0 (zl (AV.i .i64 (Int.ofNat k))) T.e) T.e)) (z1 (AV.p 2 0) (z1 (AV.p 5 0) (z0 (zl (AV.pv 7 (opF7 KK NN QQ XX VV GG TT k))) T.e) T.e) (z0 T.e (zl (AV.i .i64 (Int.ofNat L))))))) ⟨z1 (AObj.cells 65 7 [] (z1
  (AV.i .i64 kk) (z1 (AV.i .i64 n) (zl (AV.s d)) (zl (AV.i .i64 g))) (z1 (AV.i .i64 q) (zl (AV.i .i64 v)) (zl (AV.b tt))))) (z1 (SS.o s) (zl (SS.o s)) (zl (AObj.cells 65 7 [AV.i .i64 0, AV.i .i64 0, AV.i .i64 0, AV.s [], AV.i .i64 0, AV.i .i64 0, AV.b false] (z1 (AV.i .i64 (KK k)) (z1 (AV.i .i64 (NN k)) (zl (AV.s (XX k))) (zl (AV.i .i64 (GG k)))) (z1 (AV.i .i64 (QQ k)) (zl (AV.i .i64 (VV k))) (zl (AV.b (TT k)))))))) (z1 (CS.ro c false) (zl (AObj.segs 126 772 [⟨1, 1, 1, oneF (CV.i .i64 (Int.ofNat (CS.n c)))⟩, ⟨2, 3, 256, cellF (CS.q c) (CS.d c) (CS.sp c)⟩, ⟨770, 1, 1, oneF (CV.b (CS.dead c))⟩, ⟨771, 1, 1, oneF (CV.b false)⟩] [(0, AV.p 3 0)])) T.e), 6, [5, 5]⟩) Orc.z) := by kernel_rfl
theorem nv05_vc (c : CS) (s : SS) (C : CS) (S : SS) (L k : Nat) (KK NN QQ : Nat → Int) (XX : Nat → List Nat) (VV GG : Nat → Int) (TT : Nat → Bool) (kk n q : Int) (d : List Nat) (v g : Int) (tt : Bool) (hl : decide (Int.ofNat k < Int.ofNat L) = true) (hk : decide (100 < Int.ofNat k) = false) (k5 : decide (KK k = 5) = true) (K : Res → Orc → Prop) : runK Tryd.prog 1000000 (.code (loopAt Tryd.prog 6 0) 127 (mkT [(0, .sv 7 L (opF7 KK NN QQ XX VV GG TT)), (1, .agg [.i .i64 kk, .i .i64 n, .i .i64 q, .s d, .i .i64 v, .i .i64 g, .b tt]), (3, .p 0 0), (5, .p 1 0), (6, .p 2 0), (7, .p 3 0), (8, .p 4 0), (29, .sv 7 L (opF7 KK NN QQ XX VV GG TT)), (30, .i .i64 (Int.ofNat L)), (31, .i .i64 (Int.ofNat k))]) (mkH [some (laO kk n q d v g tt), some s.o, some (c.ro false), some s.o, some (c.rr false)])) (Orc.t (Orc.f (Orc.f (Orc.f (Orc.f (Orc.f (Orc.c Orc.z))))))) K = (decide (Int.ofNat k < Int.ofNat L) =
  true ∧ (0 ≤ Int.ofNat k ∧ Int.ofNat k < ↑L) ∧ True ∧ decide (100 < Int.ofNat k) = false ∧ True ∧ (!decide (KK k = 5)) = false ∧ (!decide (KK k = 5)) = false ∧ (!decide (KK k = 5)) = false ∧ (!decide (KK k = 5)) = false ∧ ((-9223372036854775808) ≤ Int.ofNat k + 1 ∧ Int.ofNat k + (1 : Int) ≤ (9223372036854775807 : Int)) ∧ K (Res.st XO.nrm (z1 (AV.sv 7 L (opF7 KK NN QQ XX VV GG TT)) (z1 (AV.agg [AV.i .i64 kk, AV.i .i64 n, AV.i .i64 q, AV.s d, AV.i .i64 v, AV.i .i64 g, AV.b tt]) (z1 (AV.p 0 0) (z1 (AV.p 3 0) (z0 (zl (AV.i .i64 (Int.ofNat k + 1))) T.e) (z0 (zl (AV.i .i64 (KK k))) T.e)) (z0 (z0 (zl (AV.agg [AV.i .i64 (KK k), AV.i .i64 (NN k), AV.i .i64 (QQ k), AV.s (XX k), AV.i .i64 (VV k), AV.i .i64 (GG k), AV.b (TT k)])) T.e) (z0 (zl (AV.tup [])) T.e))) (z1 (AV.p 1 0) (z1 (AV.i .i64 (Int.ofNat k)) (z0 (zl (AV.i .i64 (Int.ofNat k))) T.e) (z0 (zl (AV.b !decide (KK k = 5))) T.e)) (z0 (z0 (zl
  (AV.b (decide (100 < Int.ofNat k)))) T.e) (z1 (AV.sv 7 L (opF7 KK NN QQ XX VV GG TT)) (zl (AV.b false)) T.e)))) (z0 (z0 (z1 (AV.p 4 0) (z0 (zl (AV.b (decide (Int.ofNat k < Int.ofNat L)))) T.e) (z0 (zl (AV.b !decide (KK k = 5))) T.e)) (z0 (z0 (zl (AV.i .i64 (Int.ofNat k))) (zl (AV.i .i64 (Int.ofNat k + 1)))) (z0 (zl (AV.tup [])) T.e))) (z1 (AV.p 2 0) (z1 (AV.p 5 0) (z0 (zl (AV.pv 7 (opF7 KK NN QQ XX VV GG TT k))) T.e) (z0 (zl (AV.tup [])) T.e)) (z0 (z0 (zl (AV.p 5 0)) T.e) (zl (AV.i .i64 (Int.ofNat L))))))) ⟨z1 (AObj.cells 65 7 [] (z1 (AV.i .i64 kk) (z1 (AV.i .i64 n) (zl (AV.s d)) (zl (AV.i .i64 g))) (z1 (AV.i .i64 q) (zl (AV.i .i64 v)) (zl (AV.b tt))))) (z1 (SS.o s) (zl (SS.o s)) (zl (AObj.cells 65 7 [AV.i .i64 0, AV.i .i64 0, AV.i .i64 0, AV.s [], AV.i .i64 0, AV.i .i64 0, AV.b false] (z1 (AV.i .i64 (KK k)) (z1 (AV.i .i64 (NN k)) (zl (AV.s (XX k))) (zl (AV.i .i64 (GG k)))) (z1 (AV.i
  .i64 (QQ k)) (zl (AV.i .i64 (VV k))) (zl (AV.b (TT k)))))))) (z1 (CS.ro c false) (zl (AObj.segs 126 772 [⟨1, 1, 1, oneF (CV.i .i64 (Int.ofNat (CS.n c)))⟩, ⟨2, 3, 256, cellF (CS.q c) (CS.d c) (CS.sp c)⟩, ⟨770, 1, 1, oneF (CV.b (CS.dead c))⟩, ⟨771, 1, 1, oneF (CV.b false)⟩] [(0, AV.p 3 0)])) T.e), 6, [5, 5]⟩) Orc.z) := by kernel_rfl
theorem nv06_vc (c : CS) (s : SS) (C : CS) (S : SS) (L k : Nat) (KK NN QQ : Nat → Int) (XX : Nat → List Nat) (VV GG : Nat → Int) (TT : Nat → Bool) (kk n q : Int) (d : List Nat) (v g : Int) (tt : Bool) (hl : decide (Int.ofNat k < Int.ofNat L) = true) (hk : decide (100 < Int.ofNat k) = false) (k5 : decide (KK k = 5) = false) (k6 : decide (KK k = 6) = true) (K : Res → Orc → Prop) : runK Tryd.prog 1000000 (.code (loopAt Tryd.prog 6 0) 127 (mkT [(0, .sv 7 L (opF7 KK NN QQ XX VV GG TT)), (1, .agg [.i .i64 kk, .i .i64 n, .i .i64 q, .s d, .i .i64 v, .i .i64 g, .b tt]), (3, .p 0 0), (5, .p 1 0), (6, .p 2 0), (7, .p 3 0), (8, .p 4 0), (29, .sv 7 L (opF7 KK NN QQ XX VV GG TT)), (30, .i .i64 (Int.ofNat L)), (31, .i .i64 (Int.ofNat k))]) (mkH [some (laO kk n q d v g tt), some s.o, some (c.ro false), some s.o, some (c.rr false)])) (Orc.t (Orc.f (Orc.t (Orc.t (Orc.t (Orc.t (Orc.f Orc.z))))))) K =
  (decide (Int.ofNat k < Int.ofNat L) = true ∧ (0 ≤ Int.ofNat k ∧ Int.ofNat k < ↑L) ∧ True ∧ decide (100 < Int.ofNat k) = false ∧ True ∧ (!decide (KK k = 5)) = true ∧ True ∧ (!decide (KK k = 5)) = true ∧ (!decide (KK k = 5)) = true ∧ (!decide (KK k = 5)) = true ∧ (!decide (KK k = 6)) = false ∧ ((-9223372036854775808) ≤ Int.ofNat k + 1 ∧ Int.ofNat k + (1 : Int) ≤ (9223372036854775807 : Int)) ∧ K (Res.st XO.nrm (z1 (AV.sv 7 L (opF7 KK NN QQ XX VV GG TT)) (z1 (AV.agg [AV.i .i64 kk, AV.i .i64 n, AV.i .i64 q, AV.s d, AV.i .i64 v, AV.i .i64 g, AV.b tt]) (z1 (AV.p 0 0) (z1 (AV.p 3 0) (z0 (zl (AV.i .i64 (Int.ofNat k + 1))) T.e) (z0 (zl (AV.i .i64 (KK k))) T.e)) (z0 (z0 (zl (AV.agg [AV.i .i64 (KK k), AV.i .i64 (NN k), AV.i .i64 (QQ k), AV.s (XX k), AV.i .i64 (VV k), AV.i .i64 (GG k), AV.b (TT k)])) T.e) (z0 (zl (AV.i .i64 (KK k))) T.e))) (z1 (AV.p 1 0) (z1 (AV.i .i64 (Int.ofNat k)) (z0 (zl (AV.i
  .i64 (Int.ofNat k))) T.e) (z0 (zl (AV.b !decide (KK k = 5))) T.e)) (z0 (z0 (zl (AV.b (decide (100 < Int.ofNat k)))) T.e) (z1 (AV.sv 7 L (opF7 KK NN QQ XX VV GG TT)) (zl (AV.b !decide (KK k = 6))) T.e)))) (z0 (z0 (z1 (AV.p 4 0) (z0 (zl (AV.b (decide (Int.ofNat k < Int.ofNat L)))) T.e) (z0 (zl (AV.b !decide (KK k = 5))) T.e)) (z0 (z0 (zl (AV.i .i64 (Int.ofNat k))) (zl (AV.i .i64 (Int.ofNat k + 1)))) (z0 (zl (AV.b !decide (KK k = 6))) T.e))) (z1 (AV.p 2 0) (z1 (AV.p 5 0) (z0 (zl (AV.pv 7 (opF7 KK NN QQ XX VV GG TT k))) T.e) (z0 (zl (AV.p 5 0)) T.e)) (z0 (z0 (zl (AV.p 5 0)) T.e) (zl (AV.i .i64 (Int.ofNat L))))))) ⟨z1 (AObj.cells 65 7 [] (z1 (AV.i .i64 kk) (z1 (AV.i .i64 n) (zl (AV.s d)) (zl (AV.i .i64 g))) (z1 (AV.i .i64 q) (zl (AV.i .i64 v)) (zl (AV.b tt))))) (z1 (SS.o s) (zl (SS.o s)) (zl (AObj.cells 65 7 [AV.i .i64 0, AV.i .i64 0, AV.i .i64 0, AV.s [], AV.i .i64 0, AV.i .i64 0, AV.b
  false] (z1 (AV.i .i64 (KK k)) (z1 (AV.i .i64 (NN k)) (zl (AV.s (XX k))) (zl (AV.i .i64 (GG k)))) (z1 (AV.i .i64 (QQ k)) (zl (AV.i .i64 (VV k))) (zl (AV.b (TT k)))))))) (z1 (CS.ro c false) (zl (AObj.segs 126 772 [⟨1, 1, 1, oneF (CV.i .i64 (Int.ofNat (CS.n c)))⟩, ⟨2, 3, 256, cellF (CS.q c) (CS.d c) (CS.sp c)⟩, ⟨770, 1, 1, oneF (CV.b (CS.dead c))⟩, ⟨771, 1, 1, oneF (CV.b false)⟩] [(0, AV.p 3 0)])) T.e), 6, [5, 5]⟩) Orc.z) := by kernel_rfl
theorem nv0P_vc (c : CS) (s : SS) (C : CS) (S : SS) (L k : Nat) (KK NN QQ : Nat → Int) (XX : Nat → List Nat) (VV GG : Nat → Int) (TT : Nat → Bool) (kk n q : Int) (d : List Nat) (v g : Int) (tt : Bool) (hl : decide (Int.ofNat k < Int.ofNat L) = true) (hk : decide (100 < Int.ofNat k) = false) (k5 : decide (KK k = 5) = false) (k6 : decide (KK k = 6) = false) (K : Res → Orc → Prop) : runK Tryd.prog 1000000 (.code (loopAt Tryd.prog 6 0) 127 (mkT [(0, .sv 7 L (opF7 KK NN QQ XX VV GG TT)), (1, .agg [.i .i64 kk, .i .i64 n, .i .i64 q, .s d, .i .i64 v, .i .i64 g, .b tt]), (3, .p 0 0), (5, .p 1 0), (6, .p 2 0), (7, .p 3 0), (8, .p 4 0), (29, .sv 7 L (opF7 KK NN QQ XX VV GG TT)), (30, .i .i64 (Int.ofNat L)), (31, .i .i64 (Int.ofNat k))]) (mkH [some (laO kk n q d v g tt), some s.o, some (c.ro false), some s.o, some (c.rr false)])) (Orc.t (Orc.f (Orc.t (Orc.t (Orc.t (Orc.t (Orc.t (Orc.cal [2, 1]
  (AV.tup []) [Upd.set (CS.ro C false), Upd.set (SS.o S)] (Orc.cal [4, 3] (AV.tup []) [Upd.set (CS.ro C false), Upd.set (SS.o S)] Orc.z))))))))) K = (decide (Int.ofNat k < Int.ofNat L) = true ∧ (0 ≤ Int.ofNat k ∧ Int.ofNat k < ↑L) ∧ True ∧ decide (100 < Int.ofNat k) = false ∧ True ∧ (!decide (KK k = 5)) = true ∧ True ∧ (!decide (KK k = 5)) = true ∧ (!decide (KK k = 5)) = true ∧ (!decide (KK k = 5)) = true ∧ (!decide (KK k = 6)) = true ∧ Con Tryd.prog 37 [AV.p 0 0, AV.agg [AV.i .i64 (KK k), AV.i .i64 (NN k), AV.i .i64 (QQ k), AV.s (XX k), AV.i .i64 (VV k), AV.i .i64 (GG k), AV.b (TT k)]] [some (CS.ro c false), some (SS.o s)] (AV.tup []) [Upd.set (CS.ro C false), Upd.set (SS.o S)] ∧ Con Tryd.prog 37 [AV.p 0 0, AV.agg [AV.i .i64 (KK k), AV.i .i64 (NN k), AV.i .i64 (QQ k), AV.s (XX k), AV.i .i64 (VV k), AV.i .i64 (GG k), AV.b (TT k)]] [some (CS.ro c false), some (SS.o s)] (AV.tup []) [Upd.set
  (CS.ro C false), Upd.set (SS.o S)] ∧ ((-9223372036854775808) ≤ Int.ofNat k + 1 ∧ Int.ofNat k + (1 : Int) ≤ (9223372036854775807 : Int)) ∧ K (Res.st XO.nrm (z1 (AV.sv 7 L (opF7 KK NN QQ XX VV GG TT)) (z1 (AV.agg [AV.i .i64 kk, AV.i .i64 n, AV.i .i64 q, AV.s d, AV.i .i64 v, AV.i .i64 g, AV.b tt]) (z1 (AV.p 0 0) (z1 (AV.p 3 0) (z0 (zl (AV.i .i64 (Int.ofNat k + 1))) (zl (AV.agg [AV.i .i64 (KK k), AV.i .i64 (NN k), AV.i .i64 (QQ k), AV.s (XX k), AV.i .i64 (VV k), AV.i .i64 (GG k), AV.b (TT k)]))) (z0 (zl (AV.i .i64 (KK k))) T.e)) (z0 (z0 (zl (AV.agg [AV.i .i64 (KK k), AV.i .i64 (NN k), AV.i .i64 (QQ k), AV.s (XX k), AV.i .i64 (VV k), AV.i .i64 (GG k), AV.b (TT k)])) (zl (AV.tup []))) (z0 (zl (AV.i .i64 (KK k))) T.e))) (z1 (AV.p 1 0) (z1 (AV.i .i64 (Int.ofNat k)) (z0 (zl (AV.i .i64 (Int.ofNat k))) (zl (AV.p 4 0))) (z0 (zl (AV.b !decide (KK k = 5))) T.e)) (z0 (z0 (zl (AV.b (decide (100 <
  Int.ofNat k)))) T.e) (z1 (AV.sv 7 L (opF7 KK NN QQ XX VV GG TT)) (zl (AV.b !decide (KK k = 6))) T.e)))) (z0 (z0 (z1 (AV.p 4 0) (z0 (zl (AV.b (decide (Int.ofNat k < Int.ofNat L)))) (zl (AV.tup []))) (z0 (zl (AV.b !decide (KK k = 5))) T.e)) (z0 (z0 (zl (AV.i .i64 (Int.ofNat k))) (zl (AV.i .i64 (Int.ofNat k + 1)))) (z0 (zl (AV.b !decide (KK k = 6))) T.e))) (z1 (AV.p 2 0) (z1 (AV.p 5 0) (z0 (zl (AV.pv 7 (opF7 KK NN QQ XX VV GG TT k))) (zl (AV.agg [AV.i .i64 (KK k), AV.i .i64 (NN k), AV.i .i64 (QQ k), AV.s (XX k), AV.i .i64 (VV k), AV.i .i64 (GG k), AV.b (TT k)]))) (z0 (zl (AV.p 5 0)) T.e)) (z0 (z0 (zl (AV.p 5 0)) T.e) (z1 (AV.i .i64 (Int.ofNat L)) (zl (AV.p 2 0)) T.e))))) ⟨z1 (AObj.cells 65 7 [] (z1 (AV.i .i64 kk) (z1 (AV.i .i64 n) (zl (AV.s d)) (zl (AV.i .i64 g))) (z1 (AV.i .i64 q) (zl (AV.i .i64 v)) (zl (AV.b tt))))) (z1 (SS.o S) (zl (SS.o S)) (zl (AObj.cells 65 7 [AV.i .i64 0, AV.i .i64
  0, AV.i .i64 0, AV.s [], AV.i .i64 0, AV.i .i64 0, AV.b false] (z1 (AV.i .i64 (KK k)) (z1 (AV.i .i64 (NN k)) (zl (AV.s (XX k))) (zl (AV.i .i64 (GG k)))) (z1 (AV.i .i64 (QQ k)) (zl (AV.i .i64 (VV k))) (zl (AV.b (TT k)))))))) (z1 (CS.ro C false) (zl (AObj.segs 126 772 [⟨1, 1, 1, oneF (CV.i .i64 (Int.ofNat (CS.n C)))⟩, ⟨2, 3, 256, cellF (CS.q C) (CS.d C) (CS.sp C)⟩, ⟨770, 1, 1, oneF (CV.b (CS.dead C))⟩, ⟨771, 1, 1, oneF (CV.b false)⟩] [(0, AV.p 3 0)])) T.e), 6, [3, 4, 1, 2, 5, 5]⟩) Orc.z) := by kernel_rfl
theorem nv1E_vc (c x y : CS) (s u w : SS) (C : CS) (S : SS) (L k : Nat) (KK NN QQ : Nat → Int) (XX : Nat → List Nat) (VV GG : Nat → Int) (TT : Nat → Bool) (hl : decide (Int.ofNat k < Int.ofNat L) = false) (K : Res → Orc → Prop) : runK Tryd.prog 1000000 (.code (loopAt Tryd.prog 6 1) 127 (mkT [(11, .p 5 0), (13, .p 3 0), (16, .p 1 0), (98, .sv 7 L (opF7 KK NN QQ XX VV GG TT)), (99, .i .i64 (Int.ofNat L)), (100, .i .i64 (Int.ofNat k))]) (mkH [some s.o, some (c.roa false), some u.o, some (x.rq false), some w.o, some (y.rp false 4)])) (Orc.f Orc.z) K = (decide (Int.ofNat k < Int.ofNat L) = false ∧ K (Res.st (XO.exit 2) (z0 (z0 (z0 T.e (z1 (AV.p 5 0) (z0 (z0 T.e (zl (AV.i .i64 (Int.ofNat L)))) T.e) T.e)) (z0 T.e (z1 (AV.p 3 0) (z0 (z0 T.e (zl (AV.b (decide (Int.ofNat k < Int.ofNat L))))) T.e) T.e))) (z0 (z0 (z0 (zl (AV.p 1 0)) T.e) (z0 (z0 (z0 T.e (zl (AV.i .i64 (Int.ofNat k)))) T.e) T.e)) (z0
  (z0 (z0 (z0 T.e (zl (AV.sv 7 L (opF7 KK NN QQ XX VV GG TT)))) T.e) T.e) T.e))) ⟨z1 (SS.o s) (z1 (CS.roa c false) (zl (AObj.segs 126 772 [⟨1, 1, 1, oneF (CV.i .i64 (Int.ofNat (CS.n x)))⟩, ⟨2, 3, 256, cellF (CS.q x) (CS.d x) (CS.sp x)⟩, ⟨770, 1, 1, oneF (CV.b (CS.dead x))⟩, ⟨771, 1, 1, oneF (CV.b false)⟩] [(0, AV.p 2 0)])) (zl (AObj.segs 126 772 [⟨1, 1, 1, oneF (CV.i .i64 (Int.ofNat (CS.n y)))⟩, ⟨2, 3, 256, cellF (CS.q y) (CS.d y) (CS.sp y)⟩, ⟨770, 1, 1, oneF (CV.b (CS.dead y))⟩, ⟨771, 1, 1, oneF (CV.b false)⟩] [(0, AV.p 4 0)]))) (z1 (SS.o u) (zl (SS.o w)) T.e), 6, []⟩) Orc.z) := by kernel_rfl
theorem nv1B_vc (c x y : CS) (s u w : SS) (C : CS) (S : SS) (L k : Nat) (KK NN QQ : Nat → Int) (XX : Nat → List Nat) (VV GG : Nat → Int) (TT : Nat → Bool) (hl : decide (Int.ofNat k < Int.ofNat L) = true) (hk : decide (100 < Int.ofNat k) = true) (K : Res → Orc → Prop) : runK Tryd.prog 1000000 (.code (loopAt Tryd.prog 6 1) 127 (mkT [(11, .p 5 0), (13, .p 3 0), (16, .p 1 0), (98, .sv 7 L (opF7 KK NN QQ XX VV GG TT)), (99, .i .i64 (Int.ofNat L)), (100, .i .i64 (Int.ofNat k))]) (mkH [some s.o, some (c.roa false), some u.o, some (x.rq false), some w.o, some (y.rp false 4)])) (Orc.t (Orc.t Orc.z)) K = (decide (Int.ofNat k < Int.ofNat L) = true ∧ (0 ≤ Int.ofNat k ∧ Int.ofNat k < ↑L) ∧ True ∧ decide (100 < Int.ofNat k) = true ∧ K (Res.st (XO.exit 2) (z0 (z0 (z0 (z0 T.e (z0 (z0 T.e (zl (AV.pv 7 (opF7 KK NN QQ XX VV GG TT k)))) T.e)) (z1 (AV.p 5 0) (z0 (z0 T.e (zl (AV.i .i64 (Int.ofNat L)))) T.e)
  T.e)) (z0 (z0 (zl (AV.i .i64 (Int.ofNat k))) (z0 (z0 T.e (zl (AV.i .i64 (Int.ofNat k)))) T.e)) (z1 (AV.p 3 0) (z0 (z0 T.e (zl (AV.b (decide (Int.ofNat k < Int.ofNat L))))) T.e) T.e))) (z0 (z0 (z0 (zl (AV.p 1 0)) (z0 (z0 T.e (zl (AV.agg [AV.i .i64 (KK k), AV.i .i64 (NN k), AV.i .i64 (QQ k), AV.s (XX k), AV.i .i64 (VV k), AV.i .i64 (GG k), AV.b (TT k)]))) T.e)) (z0 (z0 (z0 T.e (zl (AV.i .i64 (Int.ofNat k)))) T.e) T.e)) (z0 (z0 (z1 (AV.p 6 0) (z0 T.e (zl (AV.sv 7 L (opF7 KK NN QQ XX VV GG TT)))) T.e) (z0 (z0 T.e (zl (AV.b (decide (100 < Int.ofNat k))))) T.e)) (z0 (z0 (z0 T.e (zl (AV.i .i64 (Int.ofNat k)))) T.e) T.e)))) ⟨z1 (SS.o s) (z1 (CS.roa c false) (zl (AObj.segs 126 772 [⟨1, 1, 1, oneF (CV.i .i64 (Int.ofNat (CS.n x)))⟩, ⟨2, 3, 256, cellF (CS.q x) (CS.d x) (CS.sp x)⟩, ⟨770, 1, 1, oneF (CV.b (CS.dead x))⟩, ⟨771, 1, 1, oneF (CV.b false)⟩] [(0, AV.p 2 0)])) (zl (AObj.segs 126 772 [⟨1, 1,
  1, oneF (CV.i .i64 (Int.ofNat (CS.n y)))⟩, ⟨2, 3, 256, cellF (CS.q y) (CS.d y) (CS.sp y)⟩, ⟨770, 1, 1, oneF (CV.b (CS.dead y))⟩, ⟨771, 1, 1, oneF (CV.b false)⟩] [(0, AV.p 4 0)]))) (z1 (SS.o u) (zl (SS.o w)) (zl (AObj.cells 65 7 [AV.i .i64 0, AV.i .i64 0, AV.i .i64 0, AV.s [], AV.i .i64 0, AV.i .i64 0, AV.b false] (z1 (AV.i .i64 (KK k)) (z1 (AV.i .i64 (NN k)) (zl (AV.s (XX k))) (zl (AV.i .i64 (GG k)))) (z1 (AV.i .i64 (QQ k)) (zl (AV.i .i64 (VV k))) (zl (AV.b (TT k)))))))), 7, [6, 6]⟩) Orc.z) := by kernel_rfl
theorem nv15_vc (c x y : CS) (s u w : SS) (C : CS) (S : SS) (L k : Nat) (KK NN QQ : Nat → Int) (XX : Nat → List Nat) (VV GG : Nat → Int) (TT : Nat → Bool) (hl : decide (Int.ofNat k < Int.ofNat L) = true) (hk : decide (100 < Int.ofNat k) = false) (k5 : decide (KK k = 5) = true) (K : Res → Orc → Prop) : runK Tryd.prog 1000000 (.code (loopAt Tryd.prog 6 1) 127 (mkT [(11, .p 5 0), (13, .p 3 0), (16, .p 1 0), (98, .sv 7 L (opF7 KK NN QQ XX VV GG TT)), (99, .i .i64 (Int.ofNat L)), (100, .i .i64 (Int.ofNat k))]) (mkH [some s.o, some (c.roa false), some u.o, some (x.rq false), some w.o, some (y.rp false 4)])) (Orc.t (Orc.f (Orc.f (Orc.f (Orc.f (Orc.f (Orc.c Orc.z))))))) K = (decide (Int.ofNat k < Int.ofNat L) = true ∧ (0 ≤ Int.ofNat k ∧ Int.ofNat k < ↑L) ∧ True ∧ decide (100 < Int.ofNat k) = false ∧ True ∧ (!decide (KK k = 5)) = false ∧ (!decide (KK k = 5)) = false ∧ (!decide (KK k = 5)) = false
  ∧ (!decide (KK k = 5)) = false ∧ ((-9223372036854775808) ≤ Int.ofNat k + 1 ∧ Int.ofNat k + (1 : Int) ≤ (9223372036854775807 : Int)) ∧ K (Res.st XO.nrm (z0 (z0 (z0 (z0 (z0 T.e (z0 T.e (zl (AV.tup [])))) (z0 (z0 T.e (zl (AV.pv 7 (opF7 KK NN QQ XX VV GG TT k)))) T.e)) (z1 (AV.p 5 0) (z0 (z0 T.e (zl (AV.i .i64 (Int.ofNat L)))) T.e) (z0 (z0 T.e (zl (AV.p 6 0))) T.e))) (z0 (z0 (z1 (AV.i .i64 (Int.ofNat k)) T.e (z0 T.e (zl (AV.tup [])))) (z0 (z0 T.e (zl (AV.i .i64 (Int.ofNat k)))) T.e)) (z1 (AV.p 3 0) (z0 (z0 T.e (zl (AV.b (decide (Int.ofNat k < Int.ofNat L))))) T.e) (z0 (z0 T.e (zl (AV.b !decide (KK k = 5)))) T.e)))) (z0 (z0 (z0 (z1 (AV.p 1 0) T.e (z0 T.e (zl (AV.tup [])))) (z0 (z0 T.e (zl (AV.agg [AV.i .i64 (KK k), AV.i .i64 (NN k), AV.i .i64 (QQ k), AV.s (XX k), AV.i .i64 (VV k), AV.i .i64 (GG k), AV.b (TT k)]))) T.e)) (z0 (z0 (z0 T.e (zl (AV.i .i64 (Int.ofNat k + 1)))) T.e) (z0 (z0 T.e (zl
  (AV.i .i64 (KK k)))) T.e))) (z0 (z0 (z1 (AV.p 6 0) (z0 T.e (zl (AV.sv 7 L (opF7 KK NN QQ XX VV GG TT)))) (z0 T.e (zl (AV.b false)))) (z0 (z0 T.e (zl (AV.b (decide (100 < Int.ofNat k))))) T.e)) (z0 (z0 (z0 T.e (zl (AV.i .i64 (Int.ofNat k)))) (z0 T.e (zl (AV.i .i64 (Int.ofNat k + 1))))) (z0 (z0 T.e (zl (AV.b !decide (KK k = 5)))) T.e))))) ⟨z1 (SS.o s) (z1 (CS.roa c false) (zl (AObj.segs 126 772 [⟨1, 1, 1, oneF (CV.i .i64 (Int.ofNat (CS.n x)))⟩, ⟨2, 3, 256, cellF (CS.q x) (CS.d x) (CS.sp x)⟩, ⟨770, 1, 1, oneF (CV.b (CS.dead x))⟩, ⟨771, 1, 1, oneF (CV.b false)⟩] [(0, AV.p 2 0)])) (zl (AObj.segs 126 772 [⟨1, 1, 1, oneF (CV.i .i64 (Int.ofNat (CS.n y)))⟩, ⟨2, 3, 256, cellF (CS.q y) (CS.d y) (CS.sp y)⟩, ⟨770, 1, 1, oneF (CV.b (CS.dead y))⟩, ⟨771, 1, 1, oneF (CV.b false)⟩] [(0, AV.p 4 0)]))) (z1 (SS.o u) (zl (SS.o w)) (zl (AObj.cells 65 7 [AV.i .i64 0, AV.i .i64 0, AV.i .i64 0, AV.s [], AV.i
  .i64 0, AV.i .i64 0, AV.b false] (z1 (AV.i .i64 (KK k)) (z1 (AV.i .i64 (NN k)) (zl (AV.s (XX k))) (zl (AV.i .i64 (GG k)))) (z1 (AV.i .i64 (QQ k)) (zl (AV.i .i64 (VV k))) (zl (AV.b (TT k)))))))), 7, [6, 6]⟩) Orc.z) := by kernel_rfl
theorem nv16_vc (c x y : CS) (s u w : SS) (C : CS) (S : SS) (L k : Nat) (KK NN QQ : Nat → Int) (XX : Nat → List Nat) (VV GG : Nat → Int) (TT : Nat → Bool) (hl : decide (Int.ofNat k < Int.ofNat L) = true) (hk : decide (100 < Int.ofNat k) = false) (k5 : decide (KK k = 5) = false) (k6 : decide (KK k = 6) = true) (K : Res → Orc → Prop) : runK Tryd.prog 1000000 (.code (loopAt Tryd.prog 6 1) 127 (mkT [(11, .p 5 0), (13, .p 3 0), (16, .p 1 0), (98, .sv 7 L (opF7 KK NN QQ XX VV GG TT)), (99, .i .i64 (Int.ofNat L)), (100, .i .i64 (Int.ofNat k))]) (mkH [some s.o, some (c.roa false), some u.o, some (x.rq false), some w.o, some (y.rp false 4)])) (Orc.t (Orc.f (Orc.t (Orc.t (Orc.t (Orc.t (Orc.f Orc.z))))))) K = (decide (Int.ofNat k < Int.ofNat L) = true ∧ (0 ≤ Int.ofNat k ∧ Int.ofNat k < ↑L) ∧ True ∧ decide (100 < Int.ofNat k) = false ∧ True ∧ (!decide (KK k = 5)) = true ∧ True ∧ (!decide (KK k = 5))
  = true ∧ (!decide (KK k = 5)) = true ∧ (!decide (KK k = 5)) = true ∧ (!decide (KK k = 6)) = false ∧ ((-9223372036854775808) ≤ Int.ofNat k + 1 ∧ Int.ofNat k + (1 : Int) ≤ (9223372036854775807 : Int)) ∧ K (Res.st XO.nrm (z0 (z0 (z0 (z0 (z0 T.e (z0 T.e (zl (AV.p 6 0)))) (z0 (z0 T.e (zl (AV.pv 7 (opF7 KK NN QQ XX VV GG TT k)))) T.e)) (z1 (AV.p 5 0) (z0 (z0 T.e (zl (AV.i .i64 (Int.ofNat L)))) T.e) (z0 (z0 T.e (zl (AV.p 6 0))) T.e))) (z0 (z0 (z1 (AV.i .i64 (Int.ofNat k)) T.e (z0 T.e (zl (AV.b !decide (KK k = 6))))) (z0 (z0 T.e (zl (AV.i .i64 (Int.ofNat k)))) T.e)) (z1 (AV.p 3 0) (z0 (z0 T.e (zl (AV.b (decide (Int.ofNat k < Int.ofNat L))))) T.e) (z0 (z0 T.e (zl (AV.b !decide (KK k = 5)))) T.e)))) (z0 (z0 (z0 (z1 (AV.p 1 0) T.e (z0 T.e (zl (AV.i .i64 (KK k))))) (z0 (z0 T.e (zl (AV.agg [AV.i .i64 (KK k), AV.i .i64 (NN k), AV.i .i64 (QQ k), AV.s (XX k), AV.i .i64 (VV k), AV.i .i64 (GG k), AV.b
  (TT k)]))) T.e)) (z0 (z0 (z0 T.e (zl (AV.i .i64 (Int.ofNat k + 1)))) T.e) (z0 (z0 T.e (zl (AV.i .i64 (KK k)))) T.e))) (z0 (z0 (z1 (AV.p 6 0) (z0 T.e (zl (AV.sv 7 L (opF7 KK NN QQ XX VV GG TT)))) (z0 T.e (zl (AV.b !decide (KK k = 6))))) (z0 (z0 T.e (zl (AV.b (decide (100 < Int.ofNat k))))) T.e)) (z0 (z0 (z0 T.e (zl (AV.i .i64 (Int.ofNat k)))) (z0 T.e (zl (AV.i .i64 (Int.ofNat k + 1))))) (z0 (z0 T.e (zl (AV.b !decide (KK k = 5)))) T.e))))) ⟨z1 (SS.o s) (z1 (CS.roa c false) (zl (AObj.segs 126 772 [⟨1, 1, 1, oneF (CV.i .i64 (Int.ofNat (CS.n x)))⟩, ⟨2, 3, 256, cellF (CS.q x) (CS.d x) (CS.sp x)⟩, ⟨770, 1, 1, oneF (CV.b (CS.dead x))⟩, ⟨771, 1, 1, oneF (CV.b false)⟩] [(0, AV.p 2 0)])) (zl (AObj.segs 126 772 [⟨1, 1, 1, oneF (CV.i .i64 (Int.ofNat (CS.n y)))⟩, ⟨2, 3, 256, cellF (CS.q y) (CS.d y) (CS.sp y)⟩, ⟨770, 1, 1, oneF (CV.b (CS.dead y))⟩, ⟨771, 1, 1, oneF (CV.b false)⟩] [(0, AV.p 4 0)])))
  (z1 (SS.o u) (zl (SS.o w)) (zl (AObj.cells 65 7 [AV.i .i64 0, AV.i .i64 0, AV.i .i64 0, AV.s [], AV.i .i64 0, AV.i .i64 0, AV.b false] (z1 (AV.i .i64 (KK k)) (z1 (AV.i .i64 (NN k)) (zl (AV.s (XX k))) (zl (AV.i .i64 (GG k)))) (z1 (AV.i .i64 (QQ k)) (zl (AV.i .i64 (VV k))) (zl (AV.b (TT k)))))))), 7, [6, 6]⟩) Orc.z) := by kernel_rfl
theorem nv1P_vc (c x y : CS) (s u w : SS) (C : CS) (S : SS) (L k : Nat) (KK NN QQ : Nat → Int) (XX : Nat → List Nat) (VV GG : Nat → Int) (TT : Nat → Bool) (hl : decide (Int.ofNat k < Int.ofNat L) = true) (hk : decide (100 < Int.ofNat k) = false) (k5 : decide (KK k = 5) = false) (k6 : decide (KK k = 6) = false) (K : Res → Orc → Prop) : runK Tryd.prog 1000000 (.code (loopAt Tryd.prog 6 1) 127 (mkT [(11, .p 5 0), (13, .p 3 0), (16, .p 1 0), (98, .sv 7 L (opF7 KK NN QQ XX VV GG TT)), (99, .i .i64 (Int.ofNat L)), (100, .i .i64 (Int.ofNat k))]) (mkH [some s.o, some (c.roa false), some u.o, some (x.rq false), some w.o, some (y.rp false 4)])) (Orc.t (Orc.f (Orc.t (Orc.t (Orc.t (Orc.t (Orc.t (Orc.cal [1, 0] (AV.tup []) [Upd.set (CS.ro C false), Upd.set (SS.o S)] Orc.z)))))))) K = (decide (Int.ofNat k < Int.ofNat L) = true ∧ (0 ≤ Int.ofNat k ∧ Int.ofNat k < ↑L) ∧ True ∧ decide (100 < Int.ofNat k)
  = false ∧ True ∧ (!decide (KK k = 5)) = true ∧ True ∧ (!decide (KK k = 5)) = true ∧ (!decide (KK k = 5)) = true ∧ (!decide (KK k = 5)) = true ∧ (!decide (KK k = 6)) = true ∧ Con Tryd.prog 37 [AV.p 0 0, AV.agg [AV.i .i64 (KK k), AV.i .i64 (NN k), AV.i .i64 (QQ k), AV.s (XX k), AV.i .i64 (VV k), AV.i .i64 (GG k), AV.b (TT k)]] [some (CS.ro c false), some (SS.o s)] (AV.tup []) [Upd.set (CS.ro C false), Upd.set (SS.o S)] ∧ ((-9223372036854775808) ≤ Int.ofNat k + 1 ∧ Int.ofNat k + (1 : Int) ≤ (9223372036854775807 : Int)) ∧ K (Res.st XO.nrm (z0 (z0 (z0 (z0 (z0 T.e (z0 T.e (zl (AV.p 6 0)))) (z0 (z0 T.e (zl (AV.pv 7 (opF7 KK NN QQ XX VV GG TT k)))) T.e)) (z1 (AV.p 5 0) (z0 (z0 T.e (zl (AV.i .i64 (Int.ofNat L)))) (z0 T.e (zl (AV.p 1 0)))) (z0 (z0 T.e (zl (AV.p 6 0))) T.e))) (z0 (z0 (z1 (AV.i .i64 (Int.ofNat k)) T.e (z0 T.e (zl (AV.b !decide (KK k = 6))))) (z0 (z0 T.e (zl (AV.i .i64 (Int.ofNat
  k)))) T.e)) (z1 (AV.p 3 0) (z0 (z0 T.e (zl (AV.b (decide (Int.ofNat k < Int.ofNat L))))) (z0 T.e (zl (AV.tup [])))) (z0 (z0 T.e (zl (AV.b !decide (KK k = 5)))) T.e)))) (z0 (z0 (z0 (z1 (AV.p 1 0) T.e (z0 T.e (zl (AV.i .i64 (KK k))))) (z0 (z0 T.e (zl (AV.agg [AV.i .i64 (KK k), AV.i .i64 (NN k), AV.i .i64 (QQ k), AV.s (XX k), AV.i .i64 (VV k), AV.i .i64 (GG k), AV.b (TT k)]))) T.e)) (z0 (z0 (z0 T.e (zl (AV.i .i64 (Int.ofNat k + 1)))) (z0 T.e (zl (AV.agg [AV.i .i64 (KK k), AV.i .i64 (NN k), AV.i .i64 (QQ k), AV.s (XX k), AV.i .i64 (VV k), AV.i .i64 (GG k), AV.b (TT k)])))) (z0 (z0 T.e (zl (AV.i .i64 (KK k)))) T.e))) (z0 (z0 (z1 (AV.p 6 0) (z0 T.e (zl (AV.sv 7 L (opF7 KK NN QQ XX VV GG TT)))) (z0 T.e (zl (AV.b !decide (KK k = 6))))) (z0 (z0 T.e (zl (AV.b (decide (100 < Int.ofNat k))))) T.e)) (z0 (z0 (z0 T.e (zl (AV.i .i64 (Int.ofNat k)))) (z0 T.e (zl (AV.i .i64 (Int.ofNat k + 1))))) (z0 (z0
  T.e (zl (AV.b !decide (KK k = 5)))) T.e))))) ⟨z1 (SS.o S) (z1 (CS.roa C false) (zl (AObj.segs 126 772 [⟨1, 1, 1, oneF (CV.i .i64 (Int.ofNat (CS.n x)))⟩, ⟨2, 3, 256, cellF (CS.q x) (CS.d x) (CS.sp x)⟩, ⟨770, 1, 1, oneF (CV.b (CS.dead x))⟩, ⟨771, 1, 1, oneF (CV.b false)⟩] [(0, AV.p 2 0)])) (zl (AObj.segs 126 772 [⟨1, 1, 1, oneF (CV.i .i64 (Int.ofNat (CS.n y)))⟩, ⟨2, 3, 256, cellF (CS.q y) (CS.d y) (CS.sp y)⟩, ⟨770, 1, 1, oneF (CV.b (CS.dead y))⟩, ⟨771, 1, 1, oneF (CV.b false)⟩] [(0, AV.p 4 0)]))) (z1 (SS.o u) (zl (SS.o w)) (zl (AObj.cells 65 7 [AV.i .i64 0, AV.i .i64 0, AV.i .i64 0, AV.s [], AV.i .i64 0, AV.i .i64 0, AV.b false] (z1 (AV.i .i64 (KK k)) (z1 (AV.i .i64 (NN k)) (zl (AV.s (XX k))) (zl (AV.i .i64 (GG k)))) (z1 (AV.i .i64 (QQ k)) (zl (AV.i .i64 (VV k))) (zl (AV.b (TT k)))))))), 7, [0, 1, 6, 6]⟩) Orc.z) := by kernel_rfl
theorem alE_vc (c1 c2 : CS) (s1 s2 : SS) (qc1 qc2 : Int) (dc1 dc2 : List Nat) (m10 m11 m12 m13 m14 m20 m21 m22 m23 m24 : Int) (k : Nat) (hl : decide (Int.ofNat k < 128) = false) (K : Res → Orc → Prop) : runK Tryd.prog 1000000 (.code (loopAt Tryd.prog 38 0) 22 (mkT [(0, .p 0 0), (1, .p 2 0), (5, .i .i64 (Int.ofNat k))]) (mkH [some (c1.ro false), some s1.o, some (c2.rr false), some s2.o])) (Orc.f Orc.z) K = (decide (Int.ofNat k < 128) = false ∧ K (Res.st (XO.exit 0) (z1 (AV.p 0 0) (z1 (AV.p 2 0) (z0 (zl (AV.b (decide (Int.ofNat k < 128)))) T.e) (zl (AV.i .i64 (Int.ofNat k)))) (z0 T.e (zl (AV.i .i64 (Int.ofNat k))))) ⟨z1 (CS.ro c1 false) (z1 (SS.o s1) (zl (SS.o s2)) T.e) (zl (AObj.segs 126 772 [⟨1, 1, 1, oneF (CV.i .i64 (Int.ofNat (CS.n c2)))⟩, ⟨2, 3, 256, cellF (CS.q c2) (CS.d c2) (CS.sp c2)⟩, ⟨770, 1, 1, oneF (CV.b (CS.dead c2))⟩, ⟨771, 1, 1, oneF (CV.b false)⟩] [(0, AV.p 3 0)])), 4, []⟩)
  Orc.z) := by kernel_rfl
theorem alS_vc (c1 c2 : CS) (s1 s2 : SS) (qc1 qc2 : Int) (dc1 dc2 : List Nat) (m10 m11 m12 m13 m14 m20 m21 m22 m23 m24 : Int) (k : Nat) (hl : decide (Int.ofNat k < 128) = true) (hb : (decide (qc1 = qc2) && (natsEq dc1 dc2 && true)) = true) (K : Res → Orc → Prop) : runK Tryd.prog 1000000 (.code (loopAt Tryd.prog 38 0) 22 (mkT [(0, .p 0 0), (1, .p 2 0), (5, .i .i64 (Int.ofNat k))]) (mkH [some (c1.ro false), some s1.o, some (c2.rr false), some s2.o])) (Orc.t (Orc.cal [0, 1] (AV.agg [AV.i .i64 qc1, AV.s dc1]) [Upd.keep, Upd.keep] (Orc.cal [2, 3] (AV.agg [AV.i .i64 qc2, AV.s dc2]) [Upd.keep, Upd.keep] (Orc.f Orc.z)))) K = (decide (Int.ofNat k < 128) = true ∧ Con Tryd.prog 34 [AV.p 0 0, AV.i .i64 (Int.ofNat k)] [some (CS.ro c1 false), some (SS.o s1)] (AV.agg [AV.i .i64 qc1, AV.s dc1]) [Upd.keep, Upd.keep] ∧ Con Tryd.prog 34 [AV.p 0 0, AV.i .i64 (Int.ofNat k)] [some (CS.ro c2 false), some (SS.o
  s2)] (AV.agg [AV.i .i64 qc2, AV.s dc2]) [Upd.keep, Upd.keep] ∧ True ∧ (!(decide (qc1 = qc2) && (natsEq dc1 dc2 && true))) = false ∧ ((-9223372036854775808) ≤ Int.ofNat k + 1 ∧ Int.ofNat k + (1 : Int) ≤ (9223372036854775807 : Int)) ∧ K (Res.st XO.nrm (z1 (AV.p 0 0) (z1 (AV.p 2 0) (z0 (z1 (AV.b (decide (Int.ofNat k < 128))) (zl (AV.agg [AV.i .i64 qc2, AV.s dc2])) T.e) (zl (AV.i .i64 (Int.ofNat k)))) (z1 (AV.i .i64 (Int.ofNat k + 1)) (zl (AV.i .i64 (Int.ofNat k + 1))) (zl (AV.p 2 0)))) (z0 (z0 (z1 (AV.i .i64 (Int.ofNat k)) (zl (AV.b !(decide (qc1 = qc2) && (natsEq dc1 dc2 && true)))) T.e) (zl (AV.agg [AV.i .i64 qc1, AV.s dc1]))) (z1 (AV.i .i64 (Int.ofNat k)) (zl (AV.p 0 0)) (zl (AV.i .i64 (Int.ofNat k)))))) ⟨z1 (CS.ro c1 false) (z1 (SS.o s1) (zl (SS.o s2)) T.e) (zl (AObj.segs 126 772 [⟨1, 1, 1, oneF (CV.i .i64 (Int.ofNat (CS.n c2)))⟩, ⟨2, 3, 256, cellF (CS.q c2) (CS.d c2) (CS.sp c2)⟩,
  ⟨770, 1, 1, oneF (CV.b (CS.dead c2))⟩, ⟨771, 1, 1, oneF (CV.b false)⟩] [(0, AV.p 3 0)])), 4, []⟩) Orc.z) := by kernel_rfl
theorem alD_vc (c1 c2 : CS) (s1 s2 : SS) (qc1 qc2 : Int) (dc1 dc2 : List Nat) (m10 m11 m12 m13 m14 m20 m21 m22 m23 m24 : Int) (k : Nat) (hl : decide (Int.ofNat k < 128) = true) (hb : (decide (qc1 = qc2) && (natsEq dc1 dc2 && true)) = false) (K : Res → Orc → Prop) : runK Tryd.prog 1000000 (.code (loopAt Tryd.prog 38 0) 22 (mkT [(0, .p 0 0), (1, .p 2 0), (5, .i .i64 (Int.ofNat k))]) (mkH [some (c1.ro false), some s1.o, some (c2.rr false), some s2.o])) (Orc.t (Orc.cal [0, 1] (AV.agg [AV.i .i64 qc1, AV.s dc1]) [Upd.keep, Upd.keep] (Orc.cal [2, 3] (AV.agg [AV.i .i64 qc2, AV.s dc2]) [Upd.keep, Upd.keep] (Orc.t Orc.z)))) K = (decide (Int.ofNat k < 128) = true ∧ Con Tryd.prog 34 [AV.p 0 0, AV.i .i64 (Int.ofNat k)] [some (CS.ro c1 false), some (SS.o s1)] (AV.agg [AV.i .i64 qc1, AV.s dc1]) [Upd.keep, Upd.keep] ∧ Con Tryd.prog 34 [AV.p 0 0, AV.i .i64 (Int.ofNat k)] [some (CS.ro c2 false), some
  (SS.o s2)] (AV.agg [AV.i .i64 qc2, AV.s dc2]) [Upd.keep, Upd.keep] ∧ True ∧ (!(decide (qc1 = qc2) && (natsEq dc1 dc2 && true))) = true ∧ K (Res.st XO.ret (z1 (AV.p 0 0) (z1 (AV.p 2 0) (z0 (z1 (AV.b (decide (Int.ofNat k < 128))) (zl (AV.agg [AV.i .i64 qc2, AV.s dc2])) T.e) (zl (AV.i .i64 (Int.ofNat k)))) (z1 (AV.i .i64 (Int.ofNat k)) T.e (zl (AV.p 2 0)))) (z0 (z1 (AV.b false) (z0 (zl (AV.b !(decide (qc1 = qc2) && (natsEq dc1 dc2 && true)))) T.e) (zl (AV.agg [AV.i .i64 qc1, AV.s dc1]))) (z1 (AV.i .i64 (Int.ofNat k)) (zl (AV.p 0 0)) (zl (AV.i .i64 (Int.ofNat k)))))) ⟨z1 (CS.ro c1 false) (z1 (SS.o s1) (zl (SS.o s2)) T.e) (zl (AObj.segs 126 772 [⟨1, 1, 1, oneF (CV.i .i64 (Int.ofNat (CS.n c2)))⟩, ⟨2, 3, 256, cellF (CS.q c2) (CS.d c2) (CS.sp c2)⟩, ⟨770, 1, 1, oneF (CV.b (CS.dead c2))⟩, ⟨771, 1, 1, oneF (CV.b false)⟩] [(0, AV.p 3 0)])), 4, []⟩) Orc.z) := by kernel_rfl
theorem alikeT_vc (c1 c2 : CS) (s1 s2 : SS) (qc1 qc2 : Int) (dc1 dc2 : List Nat) (m10 m11 m12 m13 m14 m20 m21 m22 m23 m24 : Int) (K : Res → Orc → Prop) : runK Tryd.prog 1000000 (.call 38 [.p 0 0, .p 2 0] (mkH [some (c1.ro false), some s1.o, some (c2.rr false), some s2.o])) (Orc.lop [0, 1, 2, 3] [0, 1, 5] 4 (XO.exit 0) [(0, AV.p 0 0), (1, AV.p 2 0)] [some (CS.ro c1 false), some (SS.o s1), some (CS.rr c2 false), some (SS.o s2)] (Orc.cal [0, 1] (AV.agg [AV.i .i64 m10, AV.i .i64 m11, AV.i .i64 m12, AV.i .i64 m13, AV.i .i64 m14]) [Upd.keep, Upd.keep] (Orc.cal [2, 3] (AV.agg [AV.i .i64 m20, AV.i .i64 m21, AV.i .i64 m22, AV.i .i64 m23, AV.i .i64 m24]) [Upd.keep, Upd.keep] Orc.z))) K = (LDoes Tryd.prog (loopAt Tryd.prog 38 0) 22 4 (mkT [(0, AV.p 0 0), (1, AV.p 2 0), (5, AV.i .i64 0)]) [some (CS.ro c1 false), some (SS.o s1), some (CS.rr c2 false), some (SS.o s2)] (XO.exit 0) (mkT [(0, AV.p 0 0),
  (1, AV.p 2 0)]) [some (CS.ro c1 false), some (SS.o s1), some (CS.rr c2 false), some (SS.o s2)] ∧ Con Tryd.prog 36 [AV.p 0 0] [some (CS.ro c1 false), some (SS.o s1)] (AV.agg [AV.i .i64 m10, AV.i .i64 m11, AV.i .i64 m12, AV.i .i64 m13, AV.i .i64 m14]) [Upd.keep, Upd.keep] ∧ Con Tryd.prog 36 [AV.p 0 0] [some (CS.ro c2 false), some (SS.o s2)] (AV.agg [AV.i .i64 m20, AV.i .i64 m21, AV.i .i64 m22, AV.i .i64 m23, AV.i .i64 m24]) [Upd.keep, Upd.keep] ∧ True ∧ K (Res.rv (AV.b (decide (m10 = m20) && (decide (m11 = m21) && (decide (m12 = m22) && (decide (m13 = m23) && (decide (m14 = m24) && true)) && true)))) ⟨z1 (CS.ro c1 false) (z1 (SS.o s1) (zl (SS.o s2)) T.e) (zl (AObj.segs 126 772 [⟨1, 1, 1, oneF (CV.i .i64 (Int.ofNat (CS.n c2)))⟩, ⟨2, 3, 256, cellF (CS.q c2) (CS.d c2) (CS.sp c2)⟩, ⟨770, 1, 1, oneF (CV.b (CS.dead c2))⟩, ⟨771, 1, 1, oneF (CV.b false)⟩] [(0, AV.p 3 0)])), 4, [3, 2, 1, 0]⟩)
  Orc.z) := by kernel_rfl
theorem alikeF_vc (c1 c2 : CS) (s1 s2 : SS) (qc1 qc2 : Int) (dc1 dc2 : List Nat) (m10 m11 m12 m13 m14 m20 m21 m22 m23 m24 : Int) (K : Res → Orc → Prop) : runK Tryd.prog 1000000 (.call 38 [.p 0 0, .p 2 0] (mkH [some (c1.ro false), some s1.o, some (c2.rr false), some s2.o])) (Orc.lop [0, 1, 2, 3] [0, 1, 5] 4 XO.ret [(4, AV.b false)] [some (CS.ro c1 false), some (SS.o s1), some (CS.rr c2 false), some (SS.o s2)] Orc.z) K = (LDoes Tryd.prog (loopAt Tryd.prog 38 0) 22 4 (mkT [(0, AV.p 0 0), (1, AV.p 2 0), (5, AV.i .i64 0)]) [some (CS.ro c1 false), some (SS.o s1), some (CS.rr c2 false), some (SS.o s2)] XO.ret (mkT [(4, AV.b false)]) [some (CS.ro c1 false), some (SS.o s1), some (CS.rr c2 false), some (SS.o s2)] ∧ K (Res.rv (AV.b false) ⟨z1 (CS.ro c1 false) (z1 (SS.o s1) (zl (SS.o s2)) T.e) (zl (AObj.segs 126 772 [⟨1, 1, 1, oneF (CV.i .i64 (Int.ofNat (CS.n c2)))⟩, ⟨2, 3, 256, cellF (CS.q c2)
  (CS.d c2) (CS.sp c2)⟩, ⟨770, 1, 1, oneF (CV.b (CS.dead c2))⟩, ⟨771, 1, 1, oneF (CV.b false)⟩] [(0, AV.p 3 0)])), 4, [3, 2, 1, 0]⟩) Orc.z) := by kernel_rfl
theorem nev_vc (nk0 cK c1 c2 t1 n1 : CS) (nw0 sK sA s1 s2 s3 s4 : SS) (rd2 b1 b2 : Bool) (L : Nat) (KK NN QQ : Nat → Int) (XX : Nat → List Nat) (VV GG : Nat → Int) (TT : Nat → Bool) (kk n q : Int) (d : List Nat) (v g : Int) (tt : Bool) (K : Res → Orc → Prop) : runK Tryd.prog 1000000 (.call 6 [.sv 7 L (opF7 KK NN QQ XX VV GG TT), .agg [.i .i64 kk, .i .i64 n, .i .i64 q, .s d, .i .i64 v, .i .i64 g, .b tt]] (mkH [])) (Orc.cal [] (AV.b true) [] (Orc.c (Orc.cal [] (AV.tup [AV.p 0 0, AV.p 1 0]) [Upd.set (SS.o nw0), Upd.set (CS.roa nk0 false)] (Orc.cal [] (AV.tup [AV.p 0 0, AV.p 1 0]) [Upd.set (SS.o nw0), Upd.set (CS.roa nk0 false)] (Orc.lop [0, 1, 2, 3, 4] [0, 1, 3, 5, 6, 7, 8, 29, 30, 31] 5 (XO.exit 0) [(0, AV.sv 7 L (opF7 KK NN QQ XX VV GG TT)), (1, AV.agg [AV.i .i64 kk, AV.i .i64 n, AV.i .i64 q, AV.s d, AV.i .i64 v, AV.i .i64 g, AV.b tt]), (3, AV.p 0 0), (5, AV.p 1 0), (6, AV.p 2 0), (7,
  AV.p 3 0), (8, AV.p 4 0)] [some (laO kk n q d v g tt), some (SS.o sK), some (CS.ro cK false), some (SS.o sK), some (CS.rr cK false)] (Orc.cal [1] (AV.tup []) [Upd.set (SS.o sA)] (Orc.cal [4, 3] (AV.tup []) [Upd.set (CS.ro c1 false), Upd.set (SS.o s1)] (Orc.cal [2, 1] (AV.tup []) [Upd.set (CS.ro c2 rd2), Upd.set (SS.o s2)] (Orc.cal [1] (AV.tup []) [Upd.set (SS.o s3)] (Orc.cal [3] (AV.tup [AV.p 1 0, AV.i .i64 0]) [Upd.keep, Upd.set (CS.roa t1 false)] (Orc.cal [1] (AV.i .i64 0) [Upd.set (SS.o s4)] (Orc.c (Orc.cal [1] (AV.tup [AV.p 1 0, AV.i .i64 0]) [Upd.keep, Upd.set (CS.roa n1 false)] (oc 10 (Orc.cal [] (AV.tup [AV.p 0 0, AV.p 1 0]) [Upd.set (SS.o nw0), Upd.set (CS.roa nk0 false)] (Orc.lop [7, 8, 1, 6, 3, 5] [11, 13, 16, 98, 99, 100] 6 (XO.exit 2) [(11, AV.p 5 0), (13, AV.p 3 0), (16, AV.p 1 0)] [some (SS.o sK), some (CS.roa cK false), some (SS.o s4), some (CS.rq n1 false), some (SS.o
  s1), some (CS.rp t1 false 4)] (Orc.cal [6, 1, 8, 7] (AV.b b1) [Upd.keep, Upd.keep, Upd.keep, Upd.keep] (Orc.s (Orc.t (Orc.t (Orc.cal [6, 1, 5, 3] (AV.b b2) [Upd.keep, Upd.keep, Upd.keep, Upd.keep] (Orc.f Orc.z)))) (Orc.f (Orc.f (Orc.t Orc.z))))))))))))))))))))) K = (Con Tryd.prog 28 [] [] (AV.b true) [] ∧ True ∧ Con Tryd.prog 29 [] [] (AV.tup [AV.p 0 0, AV.p 1 0]) [Upd.set (SS.o nw0), Upd.set (CS.roa nk0 false)] ∧ Con Tryd.prog 29 [] [] (AV.tup [AV.p 0 0, AV.p 1 0]) [Upd.set (SS.o nw0), Upd.set (CS.roa nk0 false)] ∧ LDoes Tryd.prog (loopAt Tryd.prog 6 0) 127 5 (mkT [(0, AV.sv 7 L (opF7 KK NN QQ XX VV GG TT)), (1, AV.agg [AV.i .i64 kk, AV.i .i64 n, AV.i .i64 q, AV.s d, AV.i .i64 v, AV.i .i64 g, AV.b tt]), (3, AV.p 0 0), (5, AV.p 1 0), (6, AV.p 2 0), (7, AV.p 3 0), (8, AV.p 4 0), (29, AV.sv 7 L (opF7 KK NN QQ XX VV GG TT)), (30, AV.i .i64 (Int.ofNat L)), (31, AV.i .i64 0)]) [some (laO kk
  n q d v g tt), some (SS.o nw0), some (CS.ro nk0 false), some (SS.o nw0), some (CS.rr nk0 false)] (XO.exit 0) (mkT [(0, AV.sv 7 L (opF7 KK NN QQ XX VV GG TT)), (1, AV.agg [AV.i .i64 kk, AV.i .i64 n, AV.i .i64 q, AV.s d, AV.i .i64 v, AV.i .i64 g, AV.b tt]), (3, AV.p 0 0), (5, AV.p 1 0), (6, AV.p 2 0), (7, AV.p 3 0), (8, AV.p 4 0)]) [some (laO kk n q d v g tt), some (SS.o sK), some (CS.ro cK false), some (SS.o sK), some (CS.rr cK false)] ∧ Con Tryd.prog 12 [AV.p 0 0, AV.i .i64 0] [some (SS.o sK)] (AV.tup []) [Upd.set (SS.o sA)] ∧ Con Tryd.prog 37 [AV.p 0 0, AV.agg [AV.i .i64 kk, AV.i .i64 n, AV.i .i64 q, AV.s d, AV.i .i64 v, AV.i .i64 g, AV.b tt]] [some (CS.ro cK false), some (SS.o sK)] (AV.tup []) [Upd.set (CS.ro c1 false), Upd.set (SS.o s1)] ∧ Con Tryd.prog 37 [AV.p 0 0, AV.agg [AV.i .i64 kk, AV.i .i64 n, AV.i .i64 q, AV.s d, AV.i .i64 v, AV.i .i64 g, AV.b tt]] [some (CS.ro cK false),
  some (SS.o sA)] (AV.tup []) [Upd.set (CS.ro c2 rd2), Upd.set (SS.o s2)] ∧ Con Tryd.prog 14 [AV.p 0 0] [some (SS.o s2)] (AV.tup []) [Upd.set (SS.o s3)] ∧ Con Tryd.prog 33 [AV.p 0 0] [some (SS.o s1)] (AV.tup [AV.p 1 0, AV.i .i64 0]) [Upd.keep, Upd.set (CS.roa t1 false)] ∧ True ∧ True ∧ Con Tryd.prog 16 [AV.p 0 0, AV.i .i64 n, AV.b tt] [some (SS.o s3)] (AV.i .i64 0) [Upd.set (SS.o s4)] ∧ Con Tryd.prog 33 [AV.p 0 0] [some (SS.o s4)] (AV.tup [AV.p 1 0, AV.i .i64 0]) [Upd.keep, Upd.set (CS.roa n1 false)] ∧ True ∧ True ∧ Con Tryd.prog 29 [] [] (AV.tup [AV.p 0 0, AV.p 1 0]) [Upd.set (SS.o nw0), Upd.set (CS.roa nk0 false)] ∧ LDoes Tryd.prog (loopAt Tryd.prog 6 1) 127 6 (mkT [(11, AV.p 5 0), (13, AV.p 3 0), (16, AV.p 1 0), (98, AV.sv 7 L (opF7 KK NN QQ XX VV GG TT)), (99, AV.i .i64 (Int.ofNat L)), (100, AV.i .i64 0)]) [some (SS.o nw0), some (CS.roa nk0 false), some (SS.o s4), some (CS.rq n1
  false), some (SS.o s1), some (CS.rp t1 false 4)] (XO.exit 2) (mkT [(11, AV.p 5 0), (13, AV.p 3 0), (16, AV.p 1 0)]) [some (SS.o sK), some (CS.roa cK false), some (SS.o s4), some (CS.rq n1 false), some (SS.o s1), some (CS.rp t1 false 4)] ∧ Con Tryd.prog 38 [AV.p 0 0, AV.p 2 0] [some (CS.ro n1 false), some (SS.o s4), some (CS.rr cK false), some (SS.o sK)] (AV.b b1) [Upd.keep, Upd.keep, Upd.keep, Upd.keep] ∧ ((!b1) = true → (!b1) = true ∧ (!b1) = true ∧ Con Tryd.prog 38 [AV.p 0 0, AV.p 2 0] [some (CS.ro n1 false), some (SS.o s4), some (CS.rr t1 false), some (SS.o s1)] (AV.b b2) [Upd.keep, Upd.keep, Upd.keep, Upd.keep] ∧ b1 = false ∧ K (Res.rv (AV.b b2) ⟨z1 (AObj.cells 65 7 [] (z1 (AV.i .i64 kk) (z1 (AV.i .i64 n) (zl (AV.s d)) (zl (AV.i .i64 g))) (z1 (AV.i .i64 q) (zl (AV.i .i64 v)) (zl (AV.b tt))))) (z1 (SS.o s4) (z1 (SS.o s1) (zl (SS.o sK)) T.e) (zl (AObj.segs 126 772 [⟨1, 1, 1, oneF
  (CV.i .i64 (Int.ofNat (CS.n t1)))⟩, ⟨2, 3, 256, cellF (CS.q t1) (CS.d t1) (CS.sp t1)⟩, ⟨770, 1, 1, oneF (CV.b (CS.dead t1))⟩, ⟨771, 1, 1, oneF (CV.b false)⟩] [(0, AV.p 3 0)]))) (z1 (CS.ro c2 rd2) (z1 (AObj.segs 126 772 [⟨1, 1, 1, oneF (CV.i .i64 (Int.ofNat (CS.n c1)))⟩, ⟨2, 3, 256, cellF (CS.q c1) (CS.d c1) (CS.sp c1)⟩, ⟨770, 1, 1, oneF (CV.b (CS.dead c1))⟩, ⟨771, 1, 1, oneF (CV.b false)⟩] [(0, AV.p 3 0)]) (zl (AObj.segs 126 772 [⟨1, 1, 1, oneF (CV.i .i64 (Int.ofNat (CS.n cK)))⟩, ⟨2, 3, 256, cellF (CS.q cK) (CS.d cK) (CS.sp cK)⟩, ⟨770, 1, 1, oneF (CV.b (CS.dead cK))⟩, ⟨771, 1, 1, oneF (CV.b false)⟩] [(0, AV.p 7 0)])) T.e) (zl (CS.ro n1 false))), 9, [5, 3, 6, 1, 8, 7, 8, 7, 6, 1, 5, 1, 1, 2, 3, 4, 1, 4, 3, 2, 1, 0, 4, 3, 2, 1, 0]⟩) Orc.z) ∧ ((!b1) = false → (!b1) = false ∧ (!b1) = false ∧ b1 = true ∧ K (Res.rv (AV.b true) ⟨z1 (AObj.cells 65 7 [] (z1 (AV.i .i64 kk) (z1 (AV.i .i64 n) (zl
  (AV.s d)) (zl (AV.i .i64 g))) (z1 (AV.i .i64 q) (zl (AV.i .i64 v)) (zl (AV.b tt))))) (z1 (SS.o s4) (z1 (SS.o s1) (zl (SS.o sK)) T.e) (zl (AObj.segs 126 772 [⟨1, 1, 1, oneF (CV.i .i64 (Int.ofNat (CS.n t1)))⟩, ⟨2, 3, 256, cellF (CS.q t1) (CS.d t1) (CS.sp t1)⟩, ⟨770, 1, 1, oneF (CV.b (CS.dead t1))⟩, ⟨771, 1, 1, oneF (CV.b false)⟩] [(0, AV.p 3 0)]))) (z1 (CS.ro c2 rd2) (z1 (AObj.segs 126 772 [⟨1, 1, 1, oneF (CV.i .i64 (Int.ofNat (CS.n c1)))⟩, ⟨2, 3, 256, cellF (CS.q c1) (CS.d c1) (CS.sp c1)⟩, ⟨770, 1, 1, oneF (CV.b (CS.dead c1))⟩, ⟨771, 1, 1, oneF (CV.b false)⟩] [(0, AV.p 3 0)]) (zl (AObj.segs 126 772 [⟨1, 1, 1, oneF (CV.i .i64 (Int.ofNat (CS.n cK)))⟩, ⟨2, 3, 256, cellF (CS.q cK) (CS.d cK) (CS.sp cK)⟩, ⟨770, 1, 1, oneF (CV.b (CS.dead cK))⟩, ⟨771, 1, 1, oneF (CV.b false)⟩] [(0, AV.p 7 0)])) T.e) (zl (CS.ro n1 false))), 9, [5, 3, 6, 1, 8, 7, 8, 7, 6, 1, 5, 1, 1, 2, 3, 4, 1, 4, 3, 2, 1, 0, 4,
  3, 2, 1, 0]⟩) Orc.z)) := by kernel_rfl
noncomputable def blkEq (c1 c2 : CS) (k : Nat) : Bool := decide (Int.ofNat (bQ c1 (Int.ofNat k)) = Int.ofNat (bQ c2 (Int.ofNat k))) && (natsEq (bD c1 (Int.ofNat k)) (bD c2 (Int.ofNat k)) && true)
theorem al_rg {k : Nat} (h : k < 128) : (-9223372036854775808 : Int) ≤ Int.ofNat k + (1 : Int) ∧ Int.ofNat k + (1 : Int) ≤ (9223372036854775807 : Int) := by simp <;> omega
theorem al_lp (c1 c2 : CS) (s1 s2 : SS) (h1 : Txt c1) (h2 : Txt c2) (x : XO) (l' : List (Nat × AV)) (m : Nat) (hm : m ≤ 128) (he : ∀ k, k < m → blkEq c1 c2 k = true)
    (hx : x ≠ .nrm) (hend : ∀ Q : Res → Orc → Prop, (∀ tm1 H1 o', StIs 4 [0, 1, 2, 3] [] tm1 H1 l' [some (c1.ro false), some s1.o, some (c2.rr false), some s2.o] → Q (.st x tm1 H1) o') →
      ∃ o, runK Tryd.prog 1000000 (.code (loopAt Tryd.prog 38 0) 22 (mkT [(0, .p 0 0), (1, .p 2 0), (5, .i .i64 (Int.ofNat m))]) (mkH [some (c1.ro false), some s1.o, some (c2.rr false), some s2.o])) o Q) :
    LDoes Tryd.prog (loopAt Tryd.prog 38 0) 22 4 (mkT [(0, .p 0 0), (1, .p 2 0), (5, .i .i64 0)]) [some (c1.ro false), some s1.o, some (c2.rr false), some s2.o] x (mkT l') [some (c1.ro false), some s1.o, some (c2.rr false), some s2.o] := by
  refine loop_ind (D := Nat) (fun k => ([(0, .p 0 0), (1, .p 2 0), (5, .i .i64 (Int.ofNat k))], [some (c1.ro false), some s1.o, some (c2.rr false), some s2.o])) (fun k => 200 - k) (fun k => k ≤ m) ?_ 0 (Nat.zero_le m)
  intro k hk
  have hk : k ≤ m := hk
  refine ⟨Nat.le_refl 4, 1000000, ?_⟩
  by_cases e : k = m
  · subst e
    exact hend _ fun tm1 H1 o' h => .inr ⟨[0, 1, 2, 3], [], tm1, H1, rfl, hx, h⟩
  · have hlt : k < 128 := by omega
    have hl : decide (Int.ofNat k < (128 : Int)) = true := decide_eq_true (by simp; omega)
    have hb := he k (by omega)
    exact ⟨_, (alS_vc c1 c2 s1 s2 _ _ _ _ 0 0 0 0 0 0 0 0 0 0 k hl hb _).mpr ⟨hl, block_con c1 false s1 (Int.ofNat k) h1, block_con c2 false s2 (Int.ofNat k) h2, trivial, (by unfold blkEq at hb; rw [hb]; rfl), al_rg hlt,
      .inl ⟨k + 1, [0, 1, 2, 3], [], _, _, by simp only; omega, by simp only; omega, rfl, st_k [0, 1, 2, 3] (by kernel_rfl)⟩⟩⟩
theorem first_no (P : Nat → Bool) : ∀ n, (∀ k, k < n → P k = true) ∨ ∃ m, m < n ∧ P m = false ∧ ∀ k, k < m → P k = true
  | 0 => .inl fun k hk => absurd hk (Nat.not_lt_zero k)
  | n + 1 => by
    rcases first_no P n with h | ⟨m, h1, h2, h3⟩
    · cases hp : P n with
      | true => exact .inl fun k hk => (by rcases Nat.lt_succ_iff_lt_or_eq.1 hk with g | g; exact h k g; rw [g]; exact hp)
      | false => exact .inr ⟨n, Nat.lt_succ_self n, hp, h⟩
    · exact .inr ⟨m, Nat.lt_succ_of_lt h1, h2, h3⟩
theorem blkEq_of {c1 c2 : CS} (n1 : c1.n = 129) (n2 : c2.n = 129) (h : ∀ j, j < 129 → c1.d j = c2.d j) (k : Nat) : blkEq c1 c2 k = true := by
  obtain ⟨e1, e2⟩ := bQ_of (c := c2) (c' := c1) (b := Int.ofNat k) n2 n1 (fun a b => h _ (by omega))
  unfold blkEq
  rw [e1, e2, decide_eq_true (rfl : Int.ofNat (bQ c2 (Int.ofNat k)) = Int.ofNat (bQ c2 (Int.ofNat k))), natsEq_same]
  rfl
theorem alike_ex (c1 c2 : CS) (s1 s2 : SS) (h1 : Txt c1) (h2 : Txt c2) (n1 : c1.n = 129) (n2 : c2.n = 129) :
    ∃ b : Bool, Con Tryd.prog 38 [.p 0 0, .p 2 0] [some (c1.ro false), some s1.o, some (c2.rr false), some s2.o] (.b b) [.keep, .keep, .keep, .keep] ∧ ((∀ j, j < 129 → c1.d j = c2.d j) → b = true) := by
  rcases first_no (blkEq c1 c2) 128 with he | ⟨m, hm, hd, he⟩
  · have lp := al_lp c1 c2 s1 s2 h1 h2 (.exit 0) [(0, .p 0 0), (1, .p 2 0)] 128 (Nat.le_refl _) he (by simp) fun Q hQ => ⟨_, (alE_vc c1 c2 s1 s2 0 0 [] [] 0 0 0 0 0 0 0 0 0 0 128 rfl Q).mpr ⟨rfl, hQ _ _ _ (st_k [0, 1, 2, 3] (by kernel_rfl))⟩⟩
    refine ⟨decide (Int.ofNat (mV c1 0) = Int.ofNat (mV c2 0)) && (decide (Int.ofNat (mV c1 1) = Int.ofNat (mV c2 1)) && (decide (Int.ofNat (mV c1 2) = Int.ofNat (mV c2 2)) && (decide (Int.ofNat (mV c1 3) = Int.ofNat (mV c2 3)) && (decide (Int.ofNat (mV c1 4) = Int.ofNat (mV c2 4)) && true)) && true)), con_of_run [] [] ((alikeT_vc c1 c2 s1 s2 0 0 [] [] _ _ _ _ _ _ _ _ _ _ _).mpr ⟨lp, meta_con c1 false s1 h1, meta_con c2 false s2 h2, trivial, _, _, rfl, ret_k (by kernel_rfl)⟩), fun h => ?_⟩
    have e := mV_of (c := c2) (c' := c1) n2 n1 (h 128 (by decide))
    rw [e 0, e 1, e 2, e 3, e 4]
    simp
  · have hl : decide (Int.ofNat m < (128 : Int)) = true := decide_eq_true (by simp; omega)
    have lp := al_lp c1 c2 s1 s2 h1 h2 .ret [(4, .b false)] m (Nat.le_of_lt hm) he (by simp) fun Q hQ => ⟨_, (alD_vc c1 c2 s1 s2 _ _ _ _ 0 0 0 0 0 0 0 0 0 0 m hl hd Q).mpr ⟨hl, block_con c1 false s1 (Int.ofNat m) h1, block_con c2 false s2 (Int.ofNat m) h2, trivial, (by unfold blkEq at hd; rw [hd]; rfl), hQ _ _ _ (st_k [0, 1, 2, 3] (by kernel_rfl))⟩⟩
    exact ⟨false, con_of_run [] [] ((alikeF_vc c1 c2 s1 s2 0 0 [] [] 0 0 0 0 0 0 0 0 0 0 _).mpr ⟨lp, _, _, rfl, ret_k (by kernel_rfl)⟩), fun h => (by rw [blkEq_of n1 n2 h m] at hd; cases hd)⟩
noncomputable def pC (c : CS) (s : SS) (kk n q : Int) (d : List Nat) (v g : Int) : CS := actC (plW c false kk n q d v g) c s (plI kk n) (plX c kk n q d v g)
noncomputable def pS (c : CS) (s : SS) (kk n q : Int) (d : List Nat) (v g : Int) : SS := actS (plW c false kk n q d v g) c s (plI kk n) (plX c kk n q d v g)
theorem LI.play {k : Nat} {c : CS} {s : SS} (h : LI k c s) (hk : k < 1001) (kk n q : Int) (d : List Nat) (v g : Int) (tt : Bool) (hd : ∀ y ∈ d, y < 256) :
    LI (k + 1) (pC c s kk n q d v g) (pS c s kk n q d v g) ∧
    Con Tryd.prog 37 [.p 0 0, .agg [.i .i64 kk, .i .i64 n, .i .i64 q, .s d, .i .i64 v, .i .i64 g, .b tt]] [some (c.ro false), some s.o] (.tup []) [.set ((pC c s kk n q d v g).ro false), .set (pS c s kk n q d v g).o] := by
  obtain ⟨G, D⟩ := h.act hk (plW c false kk n q d v g) (plI kk n) (plX c kk n q d v g) (fun e => (pl_put hd e).2)
  have p := play_con h.R.inv h.T (show k < 1073741823 by omega) false kk n q d v g tt hd
  unfold Play at p
  rw [D] at p
  exact ⟨G, p⟩
noncomputable def itS (KK NN QQ : Nat → Int) (XX : Nat → List Nat) (VV GG : Nat → Int) : Nat → CS × SS
  | 0 => (nk0, nw0)
  | k + 1 => bif decide (KK k = 5) then itS KK NN QQ XX VV GG k else bif decide (KK k = 6) then itS KK NN QQ XX VV GG k else
      (pC (itS KK NN QQ XX VV GG k).1 (itS KK NN QQ XX VV GG k).2 (KK k) (NN k) (QQ k) (XX k) (VV k) (GG k), pS (itS KK NN QQ XX VV GG k).1 (itS KK NN QQ XX VV GG k).2 (KK k) (NN k) (QQ k) (XX k) (VV k) (GG k))
section
variable {KK NN QQ : Nat → Int} {XX : Nat → List Nat} {VV GG : Nat → Int}
theorem it_5 {k : Nat} (h : decide (KK k = (5 : Int)) = true) : itS KK NN QQ XX VV GG (k + 1) = itS KK NN QQ XX VV GG k := by
  show (bif decide (KK k = 5) then _ else _) = _
  rw [h]; rfl
theorem it_6 {k : Nat} (h5 : decide (KK k = (5 : Int)) = false) (h : decide (KK k = (6 : Int)) = true) : itS KK NN QQ XX VV GG (k + 1) = itS KK NN QQ XX VV GG k := by
  show (bif decide (KK k = 5) then _ else _) = _
  rw [h5, h]; rfl
theorem it_p {k : Nat} (h5 : decide (KK k = (5 : Int)) = false) (h : decide (KK k = (6 : Int)) = false) : itS KK NN QQ XX VV GG (k + 1) =
    (pC (itS KK NN QQ XX VV GG k).1 (itS KK NN QQ XX VV GG k).2 (KK k) (NN k) (QQ k) (XX k) (VV k) (GG k), pS (itS KK NN QQ XX VV GG k).1 (itS KK NN QQ XX VV GG k).2 (KK k) (NN k) (QQ k) (XX k) (VV k) (GG k)) := by
  show (bif decide (KK k = 5) then _ else _) = _
  rw [h5, h]; rfl
theorem it_LI (hX : ∀ i, ∀ b ∈ XX i, b < 256) : ∀ k, k ≤ 1001 → LI k (itS KK NN QQ XX VV GG k).1 (itS KK NN QQ XX VV GG k).2
  | 0, _ => ⟨FI.new.live rfl, FI.new.txt, rfl⟩
  | k + 1, hk => by
    have h := it_LI hX k (by omega)
    cases h5 : decide (KK k = (5 : Int)) with
    | true => rw [it_5 h5]; exact h.mono (Nat.le_succ k) hk
    | false =>
      cases h6 : decide (KK k = (6 : Int)) with
      | true => rw [it_6 h5 h6]; exact h.mono (Nat.le_succ k) hk
      | false => rw [it_p h5 h6]; exact (h.play (by omega) _ _ _ _ _ _ false (hX k)).1
end
theorem nrg {k : Nat} (h : k ≤ 101) : (-9223372036854775808 : Int) ≤ Int.ofNat k + (1 : Int) ∧ Int.ofNat k + (1 : Int) ≤ (9223372036854775807 : Int) := by simp <;> omega
theorem nkr {k L : Nat} (h : decide (Int.ofNat k < Int.ofNat L) = true) : (0 : Int) ≤ Int.ofNat k ∧ Int.ofNat k < ↑L := by
  have := of_decide_eq_true h
  exact ⟨by simp, by simp at this ⊢; omega⟩
theorem nlL {k L : Nat} (h : decide (Int.ofNat k < Int.ofNat L) = true) : k < L := by have := of_decide_eq_true h; simp at this; omega
theorem nlG {k L : Nat} (h : decide (Int.ofNat k < Int.ofNat L) = false) : L ≤ k := by have := of_decide_eq_false h; simp at this; omega
theorem nl1 {k : Nat} (h : decide ((100 : Int) < Int.ofNat k) = true) : 100 < k := by have := of_decide_eq_true h; simp at this; omega
theorem nl0 {k : Nat} (h : decide ((100 : Int) < Int.ofNat k) = false) : k ≤ 100 := by have := of_decide_eq_false h; simp at this; omega
theorem nv0_lp (L : Nat) (KK NN QQ : Nat → Int) (XX : Nat → List Nat) (VV GG : Nat → Int) (TT : Nat → Bool) (kk n q : Int) (d : List Nat) (v g : Int) (tt : Bool) (hX : ∀ i, ∀ b ∈ XX i, b < 256) :
    LDoes Tryd.prog (loopAt Tryd.prog 6 0) 127 5 (mkT [(0, .sv 7 L (opF7 KK NN QQ XX VV GG TT)), (1, .agg [.i .i64 kk, .i .i64 n, .i .i64 q, .s d, .i .i64 v, .i .i64 g, .b tt]), (3, .p 0 0), (5, .p 1 0), (6, .p 2 0), (7, .p 3 0), (8, .p 4 0), (29, .sv 7 L (opF7 KK NN QQ XX VV GG TT)), (30, .i .i64 (Int.ofNat L)), (31, .i .i64 0)])
      [some (laO kk n q d v g tt), some nw0.o, some (nk0.ro false), some nw0.o, some (nk0.rr false)] (.exit 0)
      (mkT [(0, .sv 7 L (opF7 KK NN QQ XX VV GG TT)), (1, .agg [.i .i64 kk, .i .i64 n, .i .i64 q, .s d, .i .i64 v, .i .i64 g, .b tt]), (3, .p 0 0), (5, .p 1 0), (6, .p 2 0), (7, .p 3 0), (8, .p 4 0)])
      [some (laO kk n q d v g tt), some (itS KK NN QQ XX VV GG (min L 101)).2.o, some ((itS KK NN QQ XX VV GG (min L 101)).1.ro false), some (itS KK NN QQ XX VV GG (min L 101)).2.o, some ((itS KK NN QQ XX VV GG (min L 101)).1.rr false)] := by
  refine loop_ind (D := Nat) (fun k => ([(0, .sv 7 L (opF7 KK NN QQ XX VV GG TT)), (1, .agg [.i .i64 kk, .i .i64 n, .i .i64 q, .s d, .i .i64 v, .i .i64 g, .b tt]), (3, .p 0 0), (5, .p 1 0), (6, .p 2 0), (7, .p 3 0), (8, .p 4 0), (29, .sv 7 L (opF7 KK NN QQ XX VV GG TT)), (30, .i .i64 (Int.ofNat L)), (31, .i .i64 (Int.ofNat k))],
      [some (laO kk n q d v g tt), some (itS KK NN QQ XX VV GG k).2.o, some ((itS KK NN QQ XX VV GG k).1.ro false), some (itS KK NN QQ XX VV GG k).2.o, some ((itS KK NN QQ XX VV GG k).1.rr false)])) (fun k => 200 - k) (fun k => k ≤ L ∧ k ≤ 101) ?_ 0 ⟨Nat.zero_le _, by decide⟩
  rintro k ⟨hkL, hk1⟩
  refine ⟨Nat.le_refl 5, 1000000, ?_⟩
  have h := it_LI (KK := KK) (NN := NN) (QQ := QQ) (VV := VV) (GG := GG) hX k (by omega)
  cases hl : decide (Int.ofNat k < Int.ofNat L) with
  | false =>
    have := nlG hl
    have e : min L 101 = k := by omega
    rw [e]
    exact ⟨_, (nv0E_vc _ _ nk0 nw0 L k KK NN QQ XX VV GG TT kk n q d v g tt hl _).mpr ⟨hl, .inr ⟨[0, 1, 2, 3, 4], [], _, _, rfl, by simp, st_k [0, 1, 2, 3, 4] (by kernel_rfl)⟩⟩⟩
  | true =>
  have hlt := nlL hl
  cases hk : decide ((100 : Int) < Int.ofNat k) with
  | true =>
    have := nl1 hk
    have e : min L 101 = k := by omega
    rw [e]
    exact ⟨_, (nv0B_vc _ _ nk0 nw0 L k KK NN QQ XX VV GG TT kk n q d v g tt hl hk _).mpr ⟨hl, nkr hl, trivial, hk, .inr ⟨[0, 1, 2, 3, 4], [], _, _, rfl, by simp, st_k [0, 1, 2, 3, 4] (by kernel_rfl)⟩⟩⟩
  | false =>
  have hk0 := nl0 hk
  have rg := nrg hk1
  have kr := nkr hl
  have nx : (fun k => k ≤ L ∧ k ≤ 101) (k + 1) := ⟨hlt, by show k + 1 ≤ 101; omega⟩
  have mu : (fun k => 200 - k) (k + 1) < (fun k => 200 - k) k := by show 200 - (k + 1) < 200 - k; omega
  cases k5 : decide (KK k = (5 : Int)) with
  | true =>
    have e := it_5 (NN := NN) (QQ := QQ) (XX := XX) (VV := VV) (GG := GG) k5
    exact ⟨_, (nv05_vc _ _ nk0 nw0 L k KK NN QQ XX VV GG TT kk n q d v g tt hl hk k5 _).mpr ⟨hl, kr, trivial, hk, trivial, (by rw [k5]; rfl), (by rw [k5]; rfl), (by rw [k5]; rfl), (by rw [k5]; rfl), rg,
      .inl ⟨k + 1, [0, 1, 2, 3, 4], [], _, _, nx, mu, rfl, by simp only [e]; exact st_k [0, 1, 2, 3, 4] (by kernel_rfl)⟩⟩⟩
  | false =>
  cases k6 : decide (KK k = (6 : Int)) with
  | true =>
    have e := it_6 (NN := NN) (QQ := QQ) (XX := XX) (VV := VV) (GG := GG) k5 k6
    refine ⟨_, (nv06_vc _ _ nk0 nw0 L k KK NN QQ XX VV GG TT kk n q d v g tt hl hk k5 k6 _).mpr ?_⟩
    simp only [k5, k6, hl, hk, Bool.not_true, Bool.not_false, true_and, and_true]
    exact ⟨kr, rg, .inl ⟨k + 1, [0, 1, 2, 3, 4], [], _, _, nx, mu, rfl, by simp only [e]; exact st_k [0, 1, 2, 3, 4] (by kernel_rfl)⟩⟩
  | false =>
    have e := it_p (NN := NN) (QQ := QQ) (XX := XX) (VV := VV) (GG := GG) k5 k6
    have p := (h.play (by omega) (KK k) (NN k) (QQ k) (XX k) (VV k) (GG k) (TT k) (hX k)).2
    exact ⟨_, (nv0P_vc _ _ (pC (itS KK NN QQ XX VV GG k).1 (itS KK NN QQ XX VV GG k).2 (KK k) (NN k) (QQ k) (XX k) (VV k) (GG k)) (pS (itS KK NN QQ XX VV GG k).1 (itS KK NN QQ XX VV GG k).2 (KK k) (NN k) (QQ k) (XX k) (VV k) (GG k)) L k KK NN QQ XX VV GG TT kk n q d v g tt hl hk k5 k6 _).mpr
      ⟨hl, kr, trivial, hk, trivial, (by rw [k5]; rfl), trivial, (by rw [k5]; rfl), (by rw [k5]; rfl), (by rw [k5]; rfl), (by rw [k6]; rfl), p, p, rg,
      .inl ⟨k + 1, [0, 1, 2, 3, 4], [], _, _, nx, mu, rfl, by simp only [e]; exact st_k [0, 1, 2, 3, 4] (by kernel_rfl)⟩⟩⟩
theorem nv1_lp (L : Nat) (KK NN QQ : Nat → Int) (XX : Nat → List Nat) (VV GG : Nat → Int) (TT : Nat → Bool) (x y : CS) (u w : SS) (hX : ∀ i, ∀ b ∈ XX i, b < 256) :
    LDoes Tryd.prog (loopAt Tryd.prog 6 1) 127 6 (mkT [(11, .p 5 0), (13, .p 3 0), (16, .p 1 0), (98, .sv 7 L (opF7 KK NN QQ XX VV GG TT)), (99, .i .i64 (Int.ofNat L)), (100, .i .i64 0)])
      [some nw0.o, some (nk0.roa false), some u.o, some (x.rq false), some w.o, some (y.rp false 4)] (.exit 2) (mkT [(11, .p 5 0), (13, .p 3 0), (16, .p 1 0)])
      [some (itS KK NN QQ XX VV GG (min L 101)).2.o, some ((itS KK NN QQ XX VV GG (min L 101)).1.roa false), some u.o, some (x.rq false), some w.o, some (y.rp false 4)] := by
  refine loop_ind (D := Nat) (fun k => ([(11, .p 5 0), (13, .p 3 0), (16, .p 1 0), (98, .sv 7 L (opF7 KK NN QQ XX VV GG TT)), (99, .i .i64 (Int.ofNat L)), (100, .i .i64 (Int.ofNat k))],
      [some (itS KK NN QQ XX VV GG k).2.o, some ((itS KK NN QQ XX VV GG k).1.roa false), some u.o, some (x.rq false), some w.o, some (y.rp false 4)])) (fun k => 200 - k) (fun k => k ≤ L ∧ k ≤ 101) ?_ 0 ⟨Nat.zero_le _, by decide⟩
  rintro k ⟨hkL, hk1⟩
  refine ⟨Nat.le_refl 6, 1000000, ?_⟩
  have h := it_LI (KK := KK) (NN := NN) (QQ := QQ) (VV := VV) (GG := GG) hX k (by omega)
  cases hl : decide (Int.ofNat k < Int.ofNat L) with
  | false =>
    have := nlG hl
    have e : min L 101 = k := by omega
    rw [e]
    exact ⟨_, (nv1E_vc _ x y _ u w nk0 nw0 L k KK NN QQ XX VV GG TT hl _).mpr ⟨hl, .inr ⟨[0, 1, 2, 3, 4, 5], [], _, _, rfl, by simp, st_k [0, 1, 2, 3, 4, 5] (by kernel_rfl)⟩⟩⟩
  | true =>
  have hlt := nlL hl
  cases hk : decide ((100 : Int) < Int.ofNat k) with
  | true =>
    have := nl1 hk
    have e : min L 101 = k := by omega
    rw [e]
    exact ⟨_, (nv1B_vc _ x y _ u w nk0 nw0 L k KK NN QQ XX VV GG TT hl hk _).mpr ⟨hl, nkr hl, trivial, hk, .inr ⟨[0, 1, 2, 3, 4, 5], [], _, _, rfl, by simp, st_k [0, 1, 2, 3, 4, 5] (by kernel_rfl)⟩⟩⟩
  | false =>
  have hk0 := nl0 hk
  have rg := nrg hk1
  have kr := nkr hl
  have nx : (fun k => k ≤ L ∧ k ≤ 101) (k + 1) := ⟨hlt, by show k + 1 ≤ 101; omega⟩
  have mu : (fun k => 200 - k) (k + 1) < (fun k => 200 - k) k := by show 200 - (k + 1) < 200 - k; omega
  cases k5 : decide (KK k = (5 : Int)) with
  | true =>
    have e := it_5 (NN := NN) (QQ := QQ) (XX := XX) (VV := VV) (GG := GG) k5
    refine ⟨_, (nv15_vc _ x y _ u w nk0 nw0 L k KK NN QQ XX VV GG TT hl hk k5 _).mpr ?_⟩
    simp only [k5, hl, hk, Bool.not_true, Bool.not_false, true_and, and_true]
    exact ⟨kr, rg, .inl ⟨k + 1, [0, 1, 2, 3, 4, 5], [], _, _, nx, mu, rfl, by simp only [e]; exact st_k [0, 1, 2, 3, 4, 5] (by kernel_rfl)⟩⟩
  | false =>
  cases k6 : decide (KK k = (6 : Int)) with
  | true =>
    have e := it_6 (NN := NN) (QQ := QQ) (XX := XX) (VV := VV) (GG := GG) k5 k6
    refine ⟨_, (nv16_vc _ x y _ u w nk0 nw0 L k KK NN QQ XX VV GG TT hl hk k5 k6 _).mpr ?_⟩
    simp only [k5, k6, hl, hk, Bool.not_true, Bool.not_false, true_and, and_true]
    exact ⟨kr, rg, .inl ⟨k + 1, [0, 1, 2, 3, 4, 5], [], _, _, nx, mu, rfl, by simp only [e]; exact st_k [0, 1, 2, 3, 4, 5] (by kernel_rfl)⟩⟩
  | false =>
    have e := it_p (NN := NN) (QQ := QQ) (XX := XX) (VV := VV) (GG := GG) k5 k6
    have p := (h.play (by omega) (KK k) (NN k) (QQ k) (XX k) (VV k) (GG k) (TT k) (hX k)).2
    exact ⟨_, (nv1P_vc _ x y _ u w (pC (itS KK NN QQ XX VV GG k).1 (itS KK NN QQ XX VV GG k).2 (KK k) (NN k) (QQ k) (XX k) (VV k) (GG k)) (pS (itS KK NN QQ XX VV GG k).1 (itS KK NN QQ XX VV GG k).2 (KK k) (NN k) (QQ k) (XX k) (VV k) (GG k)) L k KK NN QQ XX VV GG TT hl hk k5 k6 _).mpr
      ⟨hl, kr, trivial, hk, trivial, (by rw [k5]; rfl), trivial, (by rw [k5]; rfl), (by rw [k5]; rfl), (by rw [k5]; rfl), (by rw [k6]; rfl), p, rg,
      .inl ⟨k + 1, [0, 1, 2, 3, 4, 5], [], _, _, nx, mu, rfl, by simp only [e]; exact st_k [0, 1, 2, 3, 4, 5] (by kernel_rfl)⟩⟩⟩
theorem never_key {k : Nat} {c : CS} {s : SS} (h : LI k c s) (hk : k + 2 < 1001) (w i : Int) (x : List Nat) (hx : w = -1 → ∀ b ∈ x, b < 256) (nn : Int) (tt : Bool) :
    OkM (actS w c (s.arm 0) i x) (k + 2) ∧ (∀ q ∈ (actS w c (s.arm 0) i x).P, q.1 < 512) ∧
    (((actS w c (s.arm 0) i x).fail.revived nn tt).n = 258 ∧ ((actS w c (s.arm 0) i x).fail.revived nn tt).off = false ∧ Byt ((actS w c (s.arm 0) i x).fail.revived nn tt)) ∧
    ((∀ j, j < 129 → opD ((actS w c (s.arm 0) i x).fail.revived nn tt) j = c.d j) ∨ (∀ j, j < 129 → opD ((actS w c (s.arm 0) i x).fail.revived nn tt) j = (actC w c s i x).d j)) := by
  have RA := h.R.arm (by omega : k < 1001) (i := 0) (by decide)
  have p512 : ∀ {S : SS}, OkM S (k + 2) → ∀ q ∈ S.P, q.1 < 512 := fun o q hq => Nat.lt_of_lt_of_le (o.at_ q hq) o.n
  have flat : ∀ {C : CS} {S : SS}, RvI (k + 1) C S → (S.fail.revived nn tt).n = 258 ∧ (S.fail.revived nn tt).off = false ∧ Byt (S.fail.revived nn tt) ∧ ∀ j, j < 129 → opD (S.fail.revived nn tt) j = C.d j := fun R => by
    obtain ⟨G, e⟩ := R.flat (by omega) nn tt
    exact ⟨G.sn, G.off, G.inv.byt, e⟩
  by_cases hw : w = -1
  · subst hw
    have X := hx rfl
    obtain ⟨_, _, _, e4⟩ := act_yes c false (s.arm 0) i x
    obtain ⟨_, f2, _, _⟩ := act_yes c false s i x
    rw [e4, f2]
    by_cases hb : ¬ (0 ≤ i ∧ i < Int.ofNat c.n) ∨ 51 < x.length
    · obtain ⟨_, _, b3⟩ := put_bad (c := c) (s.arm 0) h.R.dead hb
      rw [b3]
      obtain ⟨g1, g2, g3, g4⟩ := flat RA
      exact ⟨RA.inv.ok.mono (Nat.le_succ _), p512 (RA.inv.ok.mono (Nat.le_succ _)), ⟨g1, g2, g3⟩, .inl g4⟩
    have hi : 0 ≤ i ∧ i < Int.ofNat c.n := Classical.byContradiction fun g => hb (.inl g)
    have hi4 : 0 ≤ i ∧ i < 129 := by rw [h.R.n] at hi; exact hi
    have it : i.toNat < 129 := by omega
    have hl : x.length ≤ 51 := Nat.not_lt.mp fun g => hb (.inr g)
    -- the other replica's put is done
    have done : ∀ j, (c.putC s i x).d j = tookD c.d i.toNat x j := by
      rcases h.R.put (by omega) i x X with ⟨p1, _, _⟩ | ⟨_, _, _, p3⟩ | ⟨p1, p2, _⟩
      · have hq := h.R.q i.toNat it
        have hq' : c.q i.toNat < 1099511627776 := Nat.lt_of_le_of_lt hq (by omega)
        rcases put_or h.R.inv h.R.dead h.R.off h.R.P hi hl hq' X with ⟨e, _⟩ | ⟨e, _⟩ <;> rw [p1] at e <;> exact absurd e (by decide)
      · exact p3
      · rw [(putS_un h.R.off h.A i x).2] at p2; cases p2
    rcases RA.put (show k + 1 < 1001 by omega) i x X with ⟨p1, p2, p3⟩ | ⟨_, p1, p2, p3⟩ | ⟨p1, p2, p3, p4⟩
    · rw [p3]
      obtain ⟨g1, g2, g3, g4⟩ := flat RA
      exact ⟨RA.inv.ok.mono (Nat.le_succ _), p512 (RA.inv.ok.mono (Nat.le_succ _)), ⟨g1, g2, g3⟩, .inl g4⟩
    · obtain ⟨G, e⟩ := p2.flat (by omega) nn tt
      exact ⟨p2.inv.ok, p512 p2.inv.ok, ⟨G.sn, G.off, G.inv.byt⟩, .inr fun j hj => by rw [e j hj, p3, done]⟩
    · have iv := RA.inv.put i x X
      have ef : (c.putS (s.arm 0) i x).fail = { c.putS (s.arm 0) i x with armed := false, left := (c.putS (s.arm 0) i x).left } := by
        generalize c.putS (s.arm 0) i x = S at p2
        obtain ⟨n, dur, torn, P, wr, off, armed, left⟩ := S
        simp only at p2
        subst p2
        rfl
      obtain ⟨G, e⟩ := p4 nn tt
      have er := rev_of p2 false (c.putS (s.arm 0) i x).left nn tt
      rw [← ef] at er
      have op := fun j (hj : j < 129) => op_eq (s := (c.putS (s.arm 0) i x).revived nn tt) (s' := (c.putS (s.arm 0) i x).fail.revived nn tt) G.P G.off G.sn (by rw [er]; exact G.P) (by rw [er]; exact G.off) (by rw [er]; exact G.sn) (by rw [er]) (by rw [er]) hj
      refine ⟨p3, p512 p3, ⟨by rw [er]; exact G.sn, by rw [er]; exact G.off, by rw [er]; exact ⟨G.inv.byt.dur, G.inv.byt.P⟩⟩, ?_⟩
      have ei : Int.ofNat i.toNat = i := by simp; omega
      rcases e i.toNat it with m | ⟨_, m⟩
      · refine .inl fun j hj => ?_
        rw [(op j hj).2.1]
        rcases e j hj with m' | ⟨m1, m2⟩
        · exact m'
        · have : j = i.toNat := by rw [← ei] at m1; simp at m1; omega
          rw [this]; exact m
      · refine .inr fun j hj => ?_
        rw [(op j hj).2.1, done]
        show _ = (bif Nat.beq j i.toNat then x else c.d j)
        by_cases ej : j = i.toNat
        · rw [ej, Nat.beq_refl, cond_true]; exact m
        · rw [Cl.ef ej, cond_false]
          rcases e j hj with m' | ⟨m1, _⟩
          · exact m'
          · exact absurd (by rw [← ei] at m1; simp at m1; omega) ej
  · obtain ⟨_, _, _, e4⟩ := act_no hw c false (s.arm 0) i x
    rw [e4]
    obtain ⟨g1, g2, g3, g4⟩ := flat RA
    exact ⟨RA.inv.ok.mono (Nat.le_succ _), p512 (RA.inv.ok.mono (Nat.le_succ _)), ⟨g1, g2, g3⟩, .inl g4⟩
theorem nev_con (L : Nat) (KK NN QQ : Nat → Int) (XX : Nat → List Nat) (VV GG : Nat → Int) (TT : Nat → Bool) (kk n q : Int) (d : List Nat) (v g : Int) (tt : Bool) (hX : ∀ i, ∀ b ∈ XX i, b < 256) (hd : ∀ y ∈ d, y < 256) :
    Con Tryd.prog 6 [.sv 7 L (opF7 KK NN QQ XX VV GG TT), .agg [.i .i64 kk, .i .i64 n, .i .i64 q, .s d, .i .i64 v, .i .i64 g, .b tt]] [] (.b true) [] := by
  have l0 := nv0_lp L KK NN QQ XX VV GG TT kk n q d v g tt hX
  have hK := it_LI (KK := KK) (NN := NN) (QQ := QQ) (VV := VV) (GG := GG) hX (min L 101) (by omega)
  have hK3 : min L 101 + 2 < 1001 := by omega
  have l1 := fun x y u w => nv1_lp L KK NN QQ XX VV GG TT x y u w hX
  generalize (itS KK NN QQ XX VV GG (min L 101)).1 = c at l0 l1 hK
  generalize (itS KK NN QQ XX VV GG (min L 101)).2 = s at l0 l1 hK
  generalize min L 101 = k at hK hK3
  obtain ⟨G1, pq⟩ := hK.play (by omega) kk n q d v g tt hd
  have pr := play_con (hK.R.arm (by omega : k < 1001) (i := 0) (by decide)).inv hK.T (show k + 1 < 1073741823 by omega) false kk n q d v g tt hd
  unfold Play at pr
  obtain ⟨okm, p512, ⟨n4, o4, b4⟩, txt⟩ := never_key hK hK3 (plW c false kk n q d v g) (plI kk n) (plX c kk n q d v g) (fun e => (pl_put hd e).2) n tt
  have key : ∀ j, j < 129 → opD (actS (plW c false kk n q d v g) c (s.arm 0) (plI kk n) (plX c kk n q d v g) |>.fail.revived n tt) j = opD (actS (plW c false kk n q d v g) c (s.arm 0) (plI kk n) (plX c kk n q d v g) |>.fail.revived n tt) j := fun _ _ => rfl
  generalize actC (plW c false kk n q d v g) c (s.arm 0) (plI kk n) (plX c kk n q d v g) = c2 at pr
  generalize actD (plW c false kk n q d v g) false c (s.arm 0) (plI kk n) (plX c kk n q d v g) = rd2 at pr
  generalize actS (plW c false kk n q d v g) c (s.arm 0) (plI kk n) (plX c kk n q d v g) = s2 at pr okm p512 n4 o4 b4 txt key
  have rv : Con Tryd.prog 16 [.p 0 0, .i .i64 n, .b tt] [some s2.fail.o] (.i .i64 0) [.set (s2.fail.revived n tt).o] :=
    revive_con s2.fail n tt (by have := okm.P; show s2.P.length ≤ _; omega) p512
  have ot := ropen_con (pS c s kk n q d v g) (by rw [G1.R.sn]; decide) (by rw [G1.R.sn]; decide) G1.R.off G1.R.inv.byt
  have os := ropen_con (s2.fail.revived n tt) (by rw [n4]; decide) (by rw [n4]; decide) o4 b4
  have T1 : ∀ j, j < 129 → opD (pS c s kk n q d v g) j = (pC c s kk n q d v g).d j := fun j hj => (G1.R.f j hj).2.1.symm
  have bd1 : ∀ j, j < 129 → (∀ b ∈ (pC c s kk n q d v g).d j, b < 256) ∧ ((pC c s kk n q d v g).d j).length ≤ 51 := fun j hj => ⟨G1.T.b j (by rw [G1.R.n]; exact hj), G1.T.l j (by rw [G1.R.n]; exact hj)⟩
  have bd0 : ∀ j, j < 129 → (∀ b ∈ c.d j, b < 256) ∧ (c.d j).length ≤ 51 := fun j hj => ⟨hK.T.b j (by rw [hK.R.n]; exact hj), hK.T.l j (by rw [hK.R.n]; exact hj)⟩
  have tt1 : Txt (opened (pS c s kk n q d v g) 129) := .opened fun j hj => by rw [T1 j hj]; exact bd1 j hj
  have tn1 : Txt (opened (s2.fail.revived n tt) 129) := .opened fun j hj => by
    rcases txt with e | e
    · rw [e j hj]; exact bd0 j hj
    · rw [e j hj]; exact bd1 j hj
  obtain ⟨b1, a1, e1⟩ := alike_ex (opened (s2.fail.revived n tt) 129) c (s2.fail.revived n tt) s tn1 hK.T rfl hK.R.n
  obtain ⟨b2, a2, e2⟩ := alike_ex (opened (s2.fail.revived n tt) 129) (opened (pS c s kk n q d v g) 129) (s2.fail.revived n tt) (pS c s kk n q d v g) tn1 tt1 rfl rfl
  have hor : b1 = true ∨ b2 = true := by
    rcases txt with e | e
    · exact .inl (e1 fun j hj => by rw [(opened_at _ hj).2.1]; exact e j hj)
    · exact .inr (e2 fun j hj => by rw [(opened_at _ hj).2.1, (opened_at _ hj).2.1, T1 j hj]; exact e j hj)
  exact con_plain rfl ((nev_vc nk0 c (pC c s kk n q d v g) c2 (opened (pS c s kk n q d v g) 129) (opened (s2.fail.revived n tt) 129) nw0 s (s.arm 0) (pS c s kk n q d v g) s2 s2.fail (s2.fail.revived n tt) rd2 b1 b2 L KK NN QQ XX VV GG TT kk n q d v g tt _).mpr
    ⟨rawake_con, trivial, begin_con, begin_con, l0, arm2_con s 0, pq, pr, fail2_con s2, ot, trivial, trivial, rv, os, trivial, trivial, begin_con, l1 _ _ _ _, a1,
      fun h => ⟨h, h, a2, by simpa using h, _, _, rfl, by
        rcases hor with e | e
        · rw [e] at h; cases h
        · rw [e]⟩,
      fun h => ⟨h, h, by simpa using h, _, _, rfl, rfl⟩⟩)
end Go.Proofs.Cl
