/- 'ClientPlays' returns true for whatever arguments the statement lets in, in whatever world it is called; no condition of its own. -/
import Derived.Test.YtgggnjjhfkijfaaRowA
import Derived.Test.YtgggnjjhfkijfaaRows
import Derived.SizedLaws
set_option linter.unusedSimpArgs false
set_option linter.unusedVariables false
/- 'ClientPlays' returns true for whatever arguments the statement lets in, in whatever world it is called; no condition of its own. -/
namespace Go.Proofs.Ytgggnjjhfkijfaa.clientPlays
open Go.ChangeShapes Go.WideShapes Go.ChangeAt Go.RowKit Go.Sim
theorem own : ownKnob Try.prog.godebug = none := by kernel_rfl
theorem kids : Kids Try.prog (· < Try.prog.types.size) := kids_rows (by kernel_rfl) (by kernel_rfl)
theorem full : ∀ t e, t < Try.prog.types.size → Try.prog.underlying t = some (.slice e) → 0 < Try.prog.cellsOf e := slices_full_of Try.prog (by kernel_rfl)
theorem rowed : ∀ t ∈ [3, 3, 52], t < Try.prog.types.size := by
  have h : ([3, 3, 52].all fun t => decide (t < Try.prog.types.size)) = true := by kernel_rfl
  intro t ht
  simpa using List.all_eq_true.1 h t ht
set_option maxRecDepth 100000 in
theorem lifted (os : Os) (started : os.Started) (H : Type) (enc : TypeId × Value → H) :
    ReturnsInHanded {} Try.checked os 4 .any (Rows.clientPlaysSpec.pre6 enc Try.prog Try.f4 Rows.clientPlaysRow.domain false) (Rows.clientPlaysSpec.post enc Try.prog Try.f4 false true false false) := by
  refine returnsInHanded_of_change_sized (C := Try.checked) own started (by kernel_rfl) Try.func4
    (ChangeSpec.witness6 (enc := enc) (C := Try.checked) false ⟨#[], #[.int .i64 0, .int .i64 0, .slice none 0 0], []⟩ 8 (by kernel_rfl) (by kernel_rfl) (by kernel_rfl) (by kernel_rfl)) ?_
  intro W base args ds gs before hval0 hW hcnd hwt _
  have hval : ∀ (j : Nat) t v, Try.f4.params[j]? = some t → args[j]? = some v → Value.okWide Try.prog W .any base t v := hval0
  have hW' := hW
  obtain ⟨p, q, hA0, hV, rfl, hfz, hnd⟩ := hW
  have hA : DataW.TrodAll enc Try.prog W 0 (fun _ => true) true Try.f4.params.toList args.toList ds p := hA0
  rw [Try.params4] at hA hval
  have hwt : (DataW.weightsEach Try.prog (Try.f4.params.toList ++ Rows.clientPlaysSpec.plain.varTypes Try.prog) (ds ++ gs)).all (· ≤ reachBytes) = true := hwt
  rw [Try.params4] at hwt
  have hAA := hA
  obtain ⟨v1, v2, v3, d1, d2, d3, p1, p2, p3, rfl, rfl, rfl, t1, t2, t3⟩ := trodAll_three hA
  obtain ⟨rfl, rfl⟩ := trodVars_none hV
  clear hA0 hval0
  have ai : ∀ (sv : Int), argAV Try.prog 3 (fun _ => .i .i64 sv) = .i .i64 sv := fun sv => by kernel_rfl
  have c3 : Try.prog.cellsOf 3 = 1 := by kernel_rfl
  obtain ⟨f, hv, hs⟩ := arg_shp 1 (by kernel_rfl) (hval 0 3 _ rfl rfl) t1 (weigh hwt (i := 0) rfl rfl)
  obtain ⟨sv, e0, _⟩ := Shp.int 0 rfl hs Go.Proofs.Ck.u3
  have hv1 := hv (fun _ => .i .i64 sv) (fun j hj => by
    rw [c3] at hj
    obtain rfl : j = 0 := by omega
    exact .of e0)
  rw [ai] at hv1
  obtain ⟨f2, hv2, hs2⟩ := arg_shp 1 (by kernel_rfl) (hval 1 3 _ rfl rfl) t2 (weigh hwt (i := 1) rfl rfl)
  obtain ⟨bv, e2, _⟩ := Shp.int 0 rfl hs2 Go.Proofs.Ck.u3
  have hv2 := hv2 (fun _ => .i .i64 bv) (fun j hj => by
    rw [c3] at hj
    obtain rfl : j = 0 := by omega
    exact .of e2)
  rw [ai] at hv2
  obtain ⟨f3, hv3, hs3⟩ := arg_shp 7 (by kernel_rfl) (hval 2 52 _ rfl rfl) t3 (weigh hwt (i := 2) rfl rfl)
  obtain ⟨n, O, e3, hO, hL⟩ := Go.Proofs.Ck.shpOps hs3
  have hv3 := hv3 (fun _ => .sv 27 n (Go.Proofs.Ck.oxF O)) (fun j hj => by
    have c : Try.prog.cellsOf 52 = 1 := by kernel_rfl
    rw [c] at hj
    obtain rfl : j = 0 := by omega
    exact e3)
  have ha : argAV Try.prog 52 (fun _ => .sv 27 n (Go.Proofs.Ck.oxF O)) = .sv 27 n (Go.Proofs.Ck.oxF O) := by kernel_rfl
  rw [ha] at hv3
  have hr : reachBytes = 140737488351232 := rfl
  simp only [List.append_nil] at hW'
  refine (con_kept (args := [v1, v2, v3]) (Go.Proofs.Ck.law4_con sv bv n (by omega) O hO) (.cons _ _ _ _ hv1 (.cons _ _ _ _ hv2 (.cons _ _ _ _ hv3 .nil)))).mono fun e W' ⟨he, hg⟩ => ?_
  subst he
  exact ⟨_, rfl, post_of_kept (pv := []) hW' (fun _ _ _ => (trodAll_cons_mk (shut_bool Try.underlying4 _) trodAll_mk0))
    (fun sp hsp => args_again hg kids full rowed hAA (by simpa using hsp)) (fun _ _ => rfl) (by simp)
    hg (ok_one (by kernel_rfl) rfl (okWide_bool_mk Try.underlying4 _))⟩
theorem over : Rows.clientPlaysRow.holds Try.pinned (OpenSpec.ofChange Rows.clientPlaysSpec) :=
  OpenClaim.holds_of_wide 4 Try.f4 rfl rfl rfl rfl rfl rfl rfl ⟨rfl, rfl, rfl, rfl, rfl⟩ rfl rfl rfl rfl rfl (by kernel_rfl) Try.func4 (by kernel_rfl)
    (of_decide_eq_true (by kernel_rfl)) (by unfold Func.isWrapper; first | (rw [if_pos (by decide +kernel)]; kernel_rfl) | (rw [if_neg (by decide +kernel)]; exact ⟨rfl, rfl⟩))
    (fun os started H enc _ => lifted os started H enc)
theorem proved : Rows.ClientPlaysSaid :=
  over
end Go.Proofs.Ytgggnjjhfkijfaa.clientPlays
