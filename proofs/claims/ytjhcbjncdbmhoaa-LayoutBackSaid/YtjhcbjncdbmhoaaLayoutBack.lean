/- 'LayoutBack' returns true for whatever arguments the statement lets in, in whatever world it is called; no condition of its own. -/
import Derived.Test.YtjhcbjncdbmhoaaRowA
import Derived.Test.YtjhcbjncdbmhoaaRows
import Derived.SizedLaws
set_option linter.unusedSimpArgs false
set_option linter.unusedVariables false
/- 'LayoutBack' returns true for whatever arguments the statement lets in, in whatever world it is called; no condition of its own. -/
namespace Go.Proofs.Ytjhcbjncdbmhoaa.layoutBack
open Go.ChangeShapes Go.WideShapes Go.ChangeAt Go.RowKit Go.Sim
theorem own : ownKnob Try.prog.godebug = none := by kernel_rfl
theorem kids : Kids Try.prog (· < Try.prog.types.size) := kids_rows (by kernel_rfl) (by kernel_rfl)
theorem full : ∀ t e, t < Try.prog.types.size → Try.prog.underlying t = some (.slice e) → 0 < Try.prog.cellsOf e := slices_full_of Try.prog (by kernel_rfl)
theorem rowed : ∀ t ∈ [39], t < Try.prog.types.size := by
  have h : ([39].all fun t => decide (t < Try.prog.types.size)) = true := by kernel_rfl
  intro t ht
  simpa using List.all_eq_true.1 h t ht
set_option maxRecDepth 100000 in
theorem lifted (os : Os) (started : os.Started) (H : Type) (enc : TypeId × Value → H) :
    ReturnsInHanded {} Try.checked os 6 .any (Rows.layoutBackSpec.pre6 enc Try.prog Try.f6 Rows.layoutBackRow.domain false) (Rows.layoutBackSpec.post enc Try.prog Try.f6 false true false false) := by
  refine returnsInHanded_of_change_sized (C := Try.checked) own started (by kernel_rfl) Try.func6
    (ChangeSpec.witness6 (enc := enc) (C := Try.checked) false ⟨#[], #[.agg #[.int .i64 0, .string ⟨#[]⟩, .int .i64 0, .int .i64 0, .int .i64 0, .int .i64 0, .int .i64 0, .int .i64 0, .int .i64 0, .int .i64 0, .int .i64 0, .int .i64 0, .int .i64 0, .int .i64 0, .int .i64 0, .int .i64 0, .int .i64 0, .int .i64 0, .int .i64 0, .slice none 0 0, .bool false, .bool false, .bool false, .bool false, .bool false, .bool false, .bool false, .bool false, .bool false, .bool false, .bool false, .bool false, .bool false, .bool false, .bool false, .bool false, .bool false, .bool false, .bool false, .bool false, .bool false, .bool false, .bool false, .bool false, .bool false, .bool false, .bool false, .bool false, .bool false, .bool false, .bool false, .bool false]], []⟩ 8 (by kernel_rfl) (by kernel_rfl) (by kernel_rfl) (by kernel_rfl)) ?_
  intro W base args ds gs before hval0 hW hcnd hwt _
  have hval : ∀ (j : Nat) t v, Try.f6.params[j]? = some t → args[j]? = some v → Value.okWide Try.prog W .any base t v := hval0
  have hW' := hW
  obtain ⟨p, q, hA0, hV, rfl, hfz, hnd⟩ := hW
  have hA : DataW.TrodAll enc Try.prog W 0 (fun _ => true) true Try.f6.params.toList args.toList ds p := hA0
  rw [Try.params6] at hA hval
  have hwt : (DataW.weightsEach Try.prog (Try.f6.params.toList ++ Rows.layoutBackSpec.plain.varTypes Try.prog) (ds ++ gs)).all (· ≤ reachBytes) = true := hwt
  rw [Try.params6] at hwt
  have hAA := hA
  obtain ⟨v1, d1, rfl, rfl, t1⟩ := trodAll_one hA
  obtain ⟨rfl, rfl⟩ := trodVars_none hV
  clear hA0 hval0
  obtain ⟨f, hv, hs⟩ := arg_shp 4 (by kernel_rfl) (hval 0 39 _ rfl rfl) t1 (weigh hwt (i := 0) rfl rfl)
  obtain ⟨a, e0, ht, htb, hn, hAL, hAB⟩ := Go.Proofs.Ly.shpThings hs
  have hv1 := hv (fun j => (Go.Proofs.Ly.thC a).getD j .p0) (fun j hj => by
    have c : Try.prog.cellsOf 39 = 52 := by kernel_rfl
    rw [c] at hj
    have := e0.get j hj
    rwa [Nat.zero_add] at this)
  have ha : argAV Try.prog 39 (fun j => (Go.Proofs.Ly.thC a).getD j .p0) = .agg ([.i .i64 a.v, .s a.t, .i .i64 (a.x 0), .i .i64 (a.x 1), .i .i64 (a.x 2), .i .i64 (a.x 3), .i .i64 (a.x 4), .i .i64 (a.x 5), .i .i64 (a.x 6), .i .i64 (a.x 7), .i .i64 (a.x 8), .i .i64 (a.p 0), .i .i64 (a.p 1), .i .i64 (a.p 2), .i .i64 (a.p 3), .i .i64 (a.p 4), .i .i64 (a.p 5), .i .i64 (a.p 6), .i .i64 (a.p 7), .sv 2 a.n (Go.Proofs.Ly.eF a.A a.N)] ++ Go.Proofs.Ly.gL a.g) := by kernel_rfl
  rw [ha] at hv1
  simp only [List.append_nil] at hW'
  refine (con_kept (args := [v1]) (Go.Proofs.Ly.back_con _ _ _ _ _ _ _ _ _ _ _ _ _ _ _ _ _ _ _ _ _ _ a.g ht htb hn hAL hAB) (.cons _ _ _ _ hv1 .nil)).mono fun e W' ⟨he, hg⟩ => ?_
  subst he
  exact ⟨_, rfl, post_of_kept (pv := []) hW' (fun _ _ _ => (trodAll_cons_mk (shut_bool Try.underlying4 _) trodAll_mk0))
    (fun sp hsp => args_again hg kids full rowed hAA (by simpa using hsp)) (fun _ _ => rfl) (by simp)
    hg (ok_one (by kernel_rfl) rfl (okWide_bool_mk Try.underlying4 _))⟩
theorem over : Rows.layoutBackRow.holds Try.pinned (OpenSpec.ofChange Rows.layoutBackSpec) :=
  OpenClaim.holds_of_wide 6 Try.f6 rfl rfl rfl rfl rfl rfl rfl ⟨rfl, rfl, rfl, rfl, rfl⟩ rfl rfl rfl rfl rfl (by kernel_rfl) Try.func6 (by kernel_rfl)
    (of_decide_eq_true (by kernel_rfl)) (by unfold Func.isWrapper; first | (rw [if_pos (by decide +kernel)]; kernel_rfl) | (rw [if_neg (by decide +kernel)]; exact ⟨rfl, rfl⟩))
    (fun os started H enc _ => lifted os started H enc)
theorem proved : Rows.LayoutBackSaid :=
  over
end Go.Proofs.Ytjhcbjncdbmhoaa.layoutBack
