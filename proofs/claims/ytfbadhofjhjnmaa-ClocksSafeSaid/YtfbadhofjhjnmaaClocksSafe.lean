/- 'ClocksSafe' returns true, whatever the input. -/
import Derived.Test.YtfbadhofjhjnmaaClk
namespace Go.Proofs.Ytfbadhofjhjnmaa.clocksSafe
open Go.ChangeShapes Go.WideShapes Go.ChangeAt Go.RowKit Go.Sim
set_option linter.unusedVariables false

theorem own : ownKnob Try.prog.godebug = none := by kernel_rfl
theorem kids : Kids Try.prog (· < Try.prog.types.size) := kids_rows (by kernel_rfl) (by kernel_rfl)
theorem full : ∀ t e, t < Try.prog.types.size → Try.prog.underlying t = some (.slice e) → 0 < Try.prog.cellsOf e := slices_full_of Try.prog (by kernel_rfl)
theorem rowed : ∀ t ∈ [3, 3, 88], t < Try.prog.types.size := by
  have h : ([3, 3, 88].all fun t => decide (t < Try.prog.types.size)) = true := by kernel_rfl
  intro t ht
  simpa using List.all_eq_true.1 h t ht

theorem shape {f : Nat → CV} (h : Shp Try.prog 4 88 f) : ∃ d0 a0 d1 a1 : Int, argAV Try.prog 88 f = .agg [.i .i64 d0, .i .i64 a0, .i .i64 d1, .i .i64 a1] := by
  have u88 : Try.prog.underlying 88 = some (.array 2 87) := by kernel_rfl
  have u3 : Try.prog.underlying 3 = some (.int .i64) := by kernel_rfl
  have f0 : fld Try.prog 87 0 = some (3, 0) := by kernel_rfl
  have f1 : fld Try.prog 87 1 = some (3, 1) := by kernel_rfl
  have c87 : Try.prog.cellsOf 87 = 2 := by kernel_rfl
  have c88 : Try.prog.cellsOf 88 = 4 := by kernel_rfl
  have e0 := Shp.elem 3 rfl h u88 (i := 0) (by decide)
  have e1 := Shp.elem 3 rfl h u88 (i := 1) (by decide)
  rw [c87] at e0 e1
  obtain ⟨d0, h0, _⟩ := Shp.int 1 rfl (Shp.field 2 rfl e0 f0) u3
  obtain ⟨a0, h1, _⟩ := Shp.int 1 rfl (Shp.field 2 rfl e0 f1) u3
  obtain ⟨d1, h2, _⟩ := Shp.int 1 rfl (Shp.field 2 rfl e1 f0) u3
  obtain ⟨a1, h3, _⟩ := Shp.int 1 rfl (Shp.field 2 rfl e1 f1) u3
  simp only [Nat.zero_mul, Nat.one_mul, Nat.zero_add, Nat.add_zero, Nat.reduceAdd] at h0 h1 h2 h3
  refine ⟨d0, a0, d1, a1, ?_⟩
  have er : List.range 4 = [0, 1, 2, 3] := rfl
  unfold argAV
  rw [u88, c88, er]
  simp only [List.map_cons, List.map_nil, h0, h1, h2, h3]
  rfl

theorem walk (w : World) (a b d0 a0 d1 a1 : Int) (v : Value) (hv : VR (roAll w) (.agg [.i .i64 d0, .i .i64 a0, .i .i64 d1, .i .i64 a1]) v) : Calls Try.prog 10 #[.int .i64 a, .int .i64 b, v] w fun e w' => e = .returned (.bool true) ∧ Kept w w' :=
  con_kept (args := [.int .i64 a, .int .i64 b, v]) (Go.Proofs.Clk.safe_con a b d0 a0 d1 a1) (.cons _ _ _ _ (.i _ _) (.cons _ _ _ _ (.i _ _) (.cons _ _ _ _ hv .nil)))

set_option maxRecDepth 100000 in
theorem lifted (os : Os) (started : os.Started) (H : Type) (enc : TypeId × Value → H) :
    ReturnsInHanded {} Try.checked os 10 .any (Rows.clocksSafeSpec.pre6 enc Try.prog Try.f10 Rows.clocksSafeRow.domain false) (Rows.clocksSafeSpec.post enc Try.prog Try.f10 false true false false) := by
  refine returnsInHanded_of_change (C := Try.checked) own started (by kernel_rfl) Try.func10
    (ChangeSpec.witness6 (enc := enc) (C := Try.checked) false ⟨#[], #[.int .i64 0, .int .i64 0, .agg #[.int .i64 0, .int .i64 0, .int .i64 0, .int .i64 0]], []⟩ 8 (by kernel_rfl) (by kernel_rfl) (by kernel_rfl) (by kernel_rfl)) ?_
  intro W base args ds gs before hval0 hW hcnd _
  have hval : ∀ (j : Nat) t v, Try.f10.params[j]? = some t → args[j]? = some v → Value.okWide Try.prog W .any base t v := hval0
  have hW' := hW
  obtain ⟨p, q, hA0, hV, rfl, hfz, hnd⟩ := hW
  have hA : DataW.TrodAll enc Try.prog W 0 (fun _ => true) true Try.f10.params.toList args.toList ds p := hA0
  rw [Try.params10] at hA hval
  have hAA := hA
  obtain ⟨v1, v2, v3, d1, d2, d3, p1, p2, p3, rfl, rfl, rfl, t1, t2, t3⟩ := trodAll_three hA
  obtain ⟨rfl, rfl⟩ := trodVars_none hV
  clear hA0 hval0
  have u : Try.prog.underlying 3 = some (.int .i64) := by kernel_rfl
  obtain ⟨n1, rfl, rfl, rfl, w1⟩ := open_int u (hval 0 _ _ rfl rfl) t1
  obtain ⟨n2, rfl, rfl, rfl, w2⟩ := open_int u (hval 1 _ _ rfl rfl) t2
  obtain ⟨f, hv, hs⟩ := arg_shp 4 (by kernel_rfl) (hval 2 88 _ rfl rfl) t3
  obtain ⟨d0, a0, d1, a1, hs⟩ := shape hs
  rw [hs] at hv
  simp only [List.append_nil] at hW'
  refine (walk W n1 n2 d0 a0 d1 a1 v3 hv).mono fun e W' ⟨he, hg⟩ => ?_
  subst he
  exact ⟨_, rfl, post_of_kept (pv := []) hW' (fun _ _ _ => (trodAll_cons_mk (shut_bool Try.underlying4 _) trodAll_mk0))
    (fun sp hsp => args_again hg kids full rowed hAA hsp) (fun _ _ => rfl) (List.append_nil _).symm
    hg (ok_one (by kernel_rfl) rfl (okWide_bool_mk Try.underlying4 _))⟩

theorem over : Rows.clocksSafeRow.holds Try.pinned (OpenSpec.ofChange Rows.clocksSafeSpec) :=
  OpenClaim.holds_of_wide 10 Try.f10 rfl rfl rfl rfl rfl rfl rfl ⟨rfl, rfl, rfl, rfl, rfl⟩ rfl rfl rfl rfl rfl (by kernel_rfl) Try.func10 (by kernel_rfl)
    (of_decide_eq_true (by kernel_rfl)) (by unfold Func.isWrapper; first | (rw [if_pos (by decide +kernel)]; kernel_rfl) | (rw [if_neg (by decide +kernel)]; exact ⟨rfl, rfl⟩))
    (fun os started H enc _ => lifted os started H enc)

theorem proved : Rows.ClocksSafeSaid :=
  over
end Go.Proofs.Ytfbadhofjhjnmaa.clocksSafe
