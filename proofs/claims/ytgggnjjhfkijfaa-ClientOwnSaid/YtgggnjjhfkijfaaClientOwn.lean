/- 'ClientOwn' returns true for whatever arguments the statement lets in, in whatever world it is called; no condition of its own. -/
import Derived.Test.YtgggnjjhfkijfaaRowA
import Derived.Test.YtgggnjjhfkijfaaRows
import Derived.SizedLaws
set_option linter.unusedSimpArgs false
set_option linter.unusedVariables false
/- 'ClientOwn' returns true for whatever arguments the statement lets in, in whatever world it is called; no condition of its own. -/
namespace Go.Proofs.Ytgggnjjhfkijfaa.clientOwn
open Go.ChangeShapes Go.WideShapes Go.ChangeAt Go.RowKit Go.Sim
theorem own : ownKnob Try.prog.godebug = none := by kernel_rfl
theorem kids : Kids Try.prog (· < Try.prog.types.size) := kids_rows (by kernel_rfl) (by kernel_rfl)
theorem full : ∀ t e, t < Try.prog.types.size → Try.prog.underlying t = some (.slice e) → 0 < Try.prog.cellsOf e := slices_full_of Try.prog (by kernel_rfl)
theorem rowed : ∀ t ∈ [31, 40], t < Try.prog.types.size := by
  have h : ([31, 40].all fun t => decide (t < Try.prog.types.size)) = true := by kernel_rfl
  intro t ht
  simpa using List.all_eq_true.1 h t ht
theorem argView (b : Go.Proofs.Lk.Mb) : argAV Try.prog 40 (fun j => (Go.Proofs.Ck.vwC b).getD j .p0) = .agg (Go.Proofs.Lk.vwL b) := by kernel_rfl
set_option maxRecDepth 100000 in
theorem lifted (os : Os) (started : os.Started) (H : Type) (enc : TypeId × Value → H) :
    ReturnsInHanded {} Try.checked os 7 .any (Rows.clientOwnSpec.pre6 enc Try.prog Try.f7 Rows.clientOwnRow.domain false) (Rows.clientOwnSpec.post enc Try.prog Try.f7 false true false false) := by
  refine returnsInHanded_of_change_sized (C := Try.checked) own started (by kernel_rfl) Try.func7
    (ChangeSpec.witness6 (enc := enc) (C := Try.checked) false ⟨#[], #[.slice none 0 0, .agg #[.int .i64 0, .int .i64 0, .int .i64 0, .slice none 0 0, .slice none 0 0, .slice none 0 0, .slice none 0 0]], []⟩ 8 (by kernel_rfl) (by kernel_rfl) (by kernel_rfl) (by kernel_rfl)) ?_
  intro W base args ds gs before hval0 hW hcnd hwt _
  have hval : ∀ (j : Nat) t v, Try.f7.params[j]? = some t → args[j]? = some v → Value.okWide Try.prog W .any base t v := hval0
  have hW' := hW
  obtain ⟨p, q, hA0, hV, rfl, hfz, hnd⟩ := hW
  have hA : DataW.TrodAll enc Try.prog W 0 (fun _ => true) true Try.f7.params.toList args.toList ds p := hA0
  rw [Try.params7] at hA hval
  have hwt : (DataW.weightsEach Try.prog (Try.f7.params.toList ++ Rows.clientOwnSpec.plain.varTypes Try.prog) (ds ++ gs)).all (· ≤ reachBytes) = true := hwt
  rw [Try.params7] at hwt
  have hAA := hA
  obtain ⟨v1, v2, d1, d2, p1, p2, rfl, rfl, rfl, t1, t2⟩ := trodAll_two hA
  obtain ⟨rfl, rfl⟩ := trodVars_none hV
  clear hA0 hval0
  obtain ⟨f2, hv3, hs2⟩ := arg_shp 2 (by kernel_rfl) (hval 0 31 _ rfl rfl) t1 (weigh hwt (i := 0) rfl rfl)
  obtain ⟨n, g, e1, hL⟩ := Go.Proofs.Ck.shpInts (d := 0) hs2
  have hv1 := hv3 (fun _ => Go.Proofs.Ck.isC n g) (fun j hj => by
    have c : Try.prog.cellsOf 31 = 1 := by kernel_rfl
    rw [c] at hj
    obtain rfl : j = 0 := by omega
    exact e1)
  have ha : argAV Try.prog 31 (fun _ => Go.Proofs.Ck.isC n g) = Go.Proofs.Lk.isv n g := by kernel_rfl
  rw [ha] at hv1
  obtain ⟨f3, hv4, hs3⟩ := arg_shp 4 (by kernel_rfl) (hval 1 40 _ rfl rfl) t2 (weigh hwt (i := 1) rfl rfl)
  obtain ⟨b, e3, b1, b2, b3, b4⟩ := Go.Proofs.Ck.shpView (d := 0) hs3
  have hv2 := hv4 (fun j => (Go.Proofs.Ck.vwC b).getD j .p0) (fun j hj => by
    have c : Try.prog.cellsOf 40 = 7 := by kernel_rfl
    rw [c] at hj
    have := e3.get j hj
    rwa [Nat.zero_add] at this)
  rw [argView] at hv2
  have hr : reachBytes = 140737488351232 := rfl
  simp only [List.append_nil] at hW'
  refine (con_kept (args := [v1, v2]) (Go.Proofs.Ck.law7_con n (by omega) g b ⟨by omega, by omega, by omega, by omega⟩) (.cons _ _ _ _ hv1 (.cons _ _ _ _ hv2 .nil))).mono fun e W' ⟨he, hg⟩ => ?_
  subst he
  exact ⟨_, rfl, post_of_kept (pv := []) hW' (fun _ _ _ => (trodAll_cons_mk (shut_bool Try.underlying4 _) trodAll_mk0))
    (fun sp hsp => args_again hg kids full rowed hAA (by simpa using hsp)) (fun _ _ => rfl) (by simp)
    hg (ok_one (by kernel_rfl) rfl (okWide_bool_mk Try.underlying4 _))⟩
theorem over : Rows.clientOwnRow.holds Try.pinned (OpenSpec.ofChange Rows.clientOwnSpec) :=
  OpenClaim.holds_of_wide 7 Try.f7 rfl rfl rfl rfl rfl rfl rfl ⟨rfl, rfl, rfl, rfl, rfl⟩ rfl rfl rfl rfl rfl (by kernel_rfl) Try.func7 (by kernel_rfl)
    (of_decide_eq_true (by kernel_rfl)) (by unfold Func.isWrapper; first | (rw [if_pos (by decide +kernel)]; kernel_rfl) | (rw [if_neg (by decide +kernel)]; exact ⟨rfl, rfl⟩))
    (fun os started H enc _ => lifted os started H enc)
theorem proved : Rows.ClientOwnSaid :=
  over
end Go.Proofs.Ytgggnjjhfkijfaa.clientOwn
