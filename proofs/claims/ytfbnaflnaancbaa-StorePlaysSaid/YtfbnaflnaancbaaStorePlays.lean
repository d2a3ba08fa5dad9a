/- 'StorePlays' returns true for whatever arguments the statement lets in, in whatever world it is called; no condition of its own. -/
import Derived.Test.YtfbnaflnaancbaaStP
import Derived.Test.YtfbnaflnaancbaaRows
import Derived.SizedLaws
set_option linter.unusedSimpArgs false
set_option linter.unusedVariables false
namespace Go.Proofs.Ytfbnaflnaancbaa.storePlays
open Go.ChangeShapes Go.WideShapes Go.ChangeAt Go.RowKit Go.Sim

theorem own : ownKnob Try.prog.godebug = none := by kernel_rfl
theorem kids : Kids Try.prog (· < Try.prog.types.size) := kids_rows (by kernel_rfl) (by kernel_rfl)
theorem full : ∀ t e, t < Try.prog.types.size → Try.prog.underlying t = some (.slice e) → 0 < Try.prog.cellsOf e := slices_full_of Try.prog (by kernel_rfl)
theorem rowed : ∀ t ∈ [3, 22], t < Try.prog.types.size := by
  have h : ([3, 22].all fun t => decide (t < Try.prog.types.size)) = true := by kernel_rfl
  intro t ht
  simpa using List.all_eq_true.1 h t ht

theorem u3 : Try.prog.underlying 3 = some (.int .i64) := by kernel_rfl
theorem u4 : Try.prog.underlying 4 = some .bool := by kernel_rfl
theorem u5 : Try.prog.underlying 5 = some (.int .u8) := by kernel_rfl

theorem shapeOps {f : Nat → CV} (h : Shp Try.prog 3 22 f) : ∃ (L : Nat) (K I F N : Nat → Int) (T : Nat → Bool), CLe (f 0) (.sv 5 L (Go.Proofs.St.opF K I F N T)) ∧ ∀ i, I i ≤ 9223372036854775807 := by
  have us : Try.prog.underlying 22 = some (.slice 32) := by kernel_rfl
  have c : Try.prog.cellsOf 32 = 5 := by kernel_rfl
  have f0 : fld Try.prog 32 0 = some (3, 0) := by kernel_rfl
  have f1 : fld Try.prog 32 1 = some (3, 1) := by kernel_rfl
  have f2 : fld Try.prog 32 2 = some (5, 2) := by kernel_rfl
  have f3 : fld Try.prog 32 3 = some (3, 3) := by kernel_rfl
  have f4 : fld Try.prog 32 4 = some (4, 4) := by kernel_rfl
  obtain ⟨L, g, hg, _, _, hi⟩ := Shp.slice 2 rfl h us
  obtain ⟨W, hW⟩ := Classical.axiomOfChoice (r := fun (i : Nat) (q : Int × Int × Int × Int × Bool) => q.2.1 ≤ 9223372036854775807 ∧ (i < L → g i 0 = .i .i64 q.1 ∧ g i 1 = .i .i64 q.2.1 ∧ g i 2 = .i .u8 q.2.2.1 ∧ g i 3 = .i .i64 q.2.2.2.1 ∧ g i 4 = .b q.2.2.2.2)) (fun i => by
    by_cases q : i < L
    · obtain ⟨a, ha, _⟩ := Shp.int 0 rfl (Shp.field 1 rfl (hi i q) f0) u3
      obtain ⟨b, hb, w⟩ := Shp.int 0 rfl (Shp.field 1 rfl (hi i q) f1) u3
      obtain ⟨d, hd, _⟩ := Shp.int 0 rfl (Shp.field 1 rfl (hi i q) f2) u5
      obtain ⟨e, he, _⟩ := Shp.int 0 rfl (Shp.field 1 rfl (hi i q) f3) u3
      obtain ⟨z, hz⟩ := Shp.bool 0 rfl (Shp.field 1 rfl (hi i q) f4) u4
      exact ⟨(a, b, d, e, z), by
        have h : (decide (IntKind.i64.min ≤ b) && decide (b ≤ IntKind.i64.max)) = true := w
        have hm : IntKind.i64.max = 9223372036854775807 := by decide
        simp only [Bool.and_eq_true, decide_eq_true_eq] at h
        show b ≤ _
        omega, fun _ => ⟨by simpa using ha, by simpa using hb, by simpa using hd, by simpa using he, by simpa using hz⟩⟩
    · exact ⟨(0, 0, 0, 0, false), by show (0 : Int) ≤ _; decide, fun h => absurd h q⟩)
  rw [c] at hg
  refine ⟨L, fun i => (W i).1, fun i => (W i).2.1, fun i => (W i).2.2.1, fun i => (W i).2.2.2.1, fun i => (W i).2.2.2.2, ?_, fun i => (hW i).1⟩
  rw [hg]
  refine CLe.sv fun i j a b => ?_
  match j, b with
  | 0, _ => exact .of ((hW i).2 a).1
  | 1, _ => exact .of ((hW i).2 a).2.1
  | 2, _ => exact .of ((hW i).2 a).2.2.1
  | 3, _ => exact .of ((hW i).2 a).2.2.2.1
  | 4, _ => exact .of ((hW i).2 a).2.2.2.2

set_option maxRecDepth 100000 in
theorem lifted (os : Os) (started : os.Started) (H : Type) (enc : TypeId × Value → H) :
    ReturnsInHanded {} Try.checked os 3 .any (Rows.storePlaysSpec.pre6 enc Try.prog Try.f3 Rows.storePlaysRow.domain false) (Rows.storePlaysSpec.post enc Try.prog Try.f3 false true false false) := by
  refine returnsInHanded_of_change_sized (C := Try.checked) own started (by kernel_rfl) Try.func3
    (ChangeSpec.witness6 (enc := enc) (C := Try.checked) false ⟨#[], #[.int .i64 0, .slice none 0 0], []⟩ 8 (by kernel_rfl) (by kernel_rfl) (by kernel_rfl) (by kernel_rfl)) ?_
  intro W base args ds gs before hval0 hW hcnd hwt _
  have hval : ∀ (j : Nat) t v, Try.f3.params[j]? = some t → args[j]? = some v → Value.okWide Try.prog W .any base t v := hval0
  have hW' := hW
  obtain ⟨p, q, hA0, hV, rfl, hfz, hnd⟩ := hW
  have hA : DataW.TrodAll enc Try.prog W 0 (fun _ => true) true Try.f3.params.toList args.toList ds p := hA0
  rw [Try.params3] at hA hval
  have hwt : (DataW.weightsEach Try.prog (Try.f3.params.toList ++ Rows.storePlaysSpec.plain.varTypes Try.prog) (ds ++ gs)).all (· ≤ reachBytes) = true := hwt
  rw [Try.params3] at hwt
  have hAA := hA
  obtain ⟨v1, v2, d1, d2, p1, p2, rfl, rfl, rfl, t1, t2⟩ := trodAll_two hA
  obtain ⟨rfl, rfl⟩ := trodVars_none hV
  clear hA0 hval0
  have u : Try.prog.underlying 3 = some (.int .i64) := by kernel_rfl
  obtain ⟨n1, rfl, rfl, rfl, w1⟩ := open_int u (hval 0 _ _ rfl rfl) t1
  obtain ⟨f, hv, hs⟩ := arg_shp 3 (by kernel_rfl) (hval 1 22 _ rfl rfl) t2 (weigh hwt (i := 1) rfl rfl)
  obtain ⟨L, K, I, F, N, T, e0, hI⟩ := shapeOps hs
  have hv2 := hv (fun _ => .sv 5 L (Go.Proofs.St.opF K I F N T)) (fun j hj => by
    have c : Try.prog.cellsOf 22 = 1 := by kernel_rfl
    rw [c] at hj
    obtain rfl : j = 0 := by omega
    exact e0)
  have ha : argAV Try.prog 22 (fun _ => .sv 5 L (Go.Proofs.St.opF K I F N T)) = .sv 5 L (Go.Proofs.St.opF K I F N T) := by kernel_rfl
  rw [ha] at hv2
  have hr : reachBytes = 140737488351232 := rfl
  simp only [List.append_nil] at hW'
  refine (con_kept (args := [.int .i64 n1, v2]) (Go.Proofs.St.plays_con n1 L K I F N T hI) (.cons _ _ _ _ (.i _ _) (.cons _ _ _ _ hv2 .nil))).mono fun e W' ⟨he, hg⟩ => ?_
  subst he
  exact ⟨_, rfl, post_of_kept (pv := []) hW' (fun _ _ _ => (trodAll_cons_mk (shut_bool Try.underlying4 _) trodAll_mk0))
    (fun sp hsp => args_again hg kids full rowed hAA (by simpa using hsp)) (fun _ _ => rfl) (by simp)
    hg (ok_one (by kernel_rfl) rfl (okWide_bool_mk Try.underlying4 _))⟩

theorem over : Rows.storePlaysRow.holds Try.pinned (OpenSpec.ofChange Rows.storePlaysSpec) :=
  OpenClaim.holds_of_wide 3 Try.f3 rfl rfl rfl rfl rfl rfl rfl ⟨rfl, rfl, rfl, rfl, rfl⟩ rfl rfl rfl rfl rfl (by kernel_rfl) Try.func3 (by kernel_rfl)
    (of_decide_eq_true (by kernel_rfl)) (by unfold Func.isWrapper; first | (rw [if_pos (by decide +kernel)]; kernel_rfl) | (rw [if_neg (by decide +kernel)]; exact ⟨rfl, rfl⟩))
    (fun os started H enc _ => lifted os started H enc)

theorem proved : Rows.StorePlaysSaid :=
  over
end Go.Proofs.Ytfbnaflnaancbaa.storePlays
