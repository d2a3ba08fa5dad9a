/- 'ClientTurns' returns true for whatever arguments the statement lets in, in whatever world it is called; no condition of its own. -/
import Derived.Test.YtgggnjjhfkijfaaRowA
import Derived.Test.YtgggnjjhfkijfaaRows
import Derived.SizedLaws
set_option linter.unusedSimpArgs false
set_option linter.unusedVariables false
/- 'ClientTurns' returns true for whatever arguments the statement lets in, in whatever world it is called; no condition of its own. -/
namespace Go.Proofs.Ytgggnjjhfkijfaa.clientTurns
open Go.ChangeShapes Go.WideShapes Go.ChangeAt Go.RowKit Go.Sim
theorem own : ownKnob Try.prog.godebug = none := by kernel_rfl
theorem kids : Kids Try.prog (· < Try.prog.types.size) := kids_rows (by kernel_rfl) (by kernel_rfl)
theorem full : ∀ t e, t < Try.prog.types.size → Try.prog.underlying t = some (.slice e) → 0 < Try.prog.cellsOf e := slices_full_of Try.prog (by kernel_rfl)
theorem rowed : ∀ t ∈ [3, 31], t < Try.prog.types.size := by
  have h : ([3, 31].all fun t => decide (t < Try.prog.types.size)) = true := by kernel_rfl
  intro t ht
  simpa using List.all_eq_true.1 h t ht
set_option maxRecDepth 100000 in
theorem lifted (os : Os) (started : os.Started) (H : Type) (enc : TypeId × Value → H) :
    ReturnsInHanded {} Try.checked os 6 .any (Rows.clientTurnsSpec.pre6 enc Try.prog Try.f6 Rows.clientTurnsRow.domain false) (Rows.clientTurnsSpec.post enc Try.prog Try.f6 false true false false) := by
  refine returnsInHanded_of_change_sized (C := Try.checked) own started (by kernel_rfl) Try.func6
    (ChangeSpec.witness6 (enc := enc) (C := Try.checked) false ⟨#[], #[.int .i64 0, .slice none 0 0], []⟩ 8 (by kernel_rfl) (by kernel_rfl) (by kernel_rfl) (by kernel_rfl)) ?_
  intro W base args ds gs before hval0 hW hcnd hwt _
  have hval : ∀ (j : Nat) t v, Try.f6.params[j]? = some t → args[j]? = some v → Value.okWide Try.prog W .any base t v := hval0
  have hW' := hW
  obtain ⟨p, q, hA0, hV, rfl, hfz, hnd⟩ := hW
  have hA : DataW.TrodAll enc Try.prog W 0 (fun _ => true) true Try.f6.params.toList args.toList ds p := hA0
  rw [Try.params6] at hA hval
  have hwt : (DataW.weightsEach Try.prog (Try.f6.params.toList ++ Rows.clientTurnsSpec.plain.varTypes Try.prog) (ds ++ gs)).all (· ≤ reachBytes) = true := hwt
  rw [Try.params6] at hwt
  have hAA := hA
  obtain ⟨v1, v2, d1, d2, p1, p2, rfl, rfl, rfl, t1, t2⟩ := trodAll_two hA
  obtain ⟨rfl, rfl⟩ := trodVars_none hV
  clear hA0 hval0
  obtain ⟨f, hv, hs⟩ := arg_shp 1 (by kernel_rfl) (hval 0 3 _ rfl rfl) t1 (weigh hwt (i := 0) rfl rfl)
  obtain ⟨sv, e0, _⟩ := Shp.int 0 rfl hs Go.Proofs.Ck.u3
  have hv2 := hv (fun _ => .i .i64 sv) (fun j hj => by
    have c : Try.prog.cellsOf 3 = 1 := by kernel_rfl
    rw [c] at hj
    obtain rfl : j = 0 := by omega
    exact .of e0)
  have ha0 : argAV Try.prog 3 (fun _ => .i .i64 sv) = .i .i64 sv := by kernel_rfl
  rw [ha0] at hv2
  obtain ⟨f2, hv3, hs2⟩ := arg_shp 2 (by kernel_rfl) (hval 1 31 _ rfl rfl) t2 (weigh hwt (i := 1) rfl rfl)
  obtain ⟨n, g, e1, hL⟩ := Go.Proofs.Ck.shpInts hs2
  have hv4 := hv3 (fun _ => .sv 1 n fun i _ => .i .i64 (g i)) (fun j hj => by
    have c : Try.prog.cellsOf 31 = 1 := by kernel_rfl
    rw [c] at hj
    obtain rfl : j = 0 := by omega
    exact e1)
  have ha : argAV Try.prog 31 (fun _ => .sv 1 n fun i _ => .i .i64 (g i)) = .sv 1 n fun i _ => .i .i64 (g i) := by kernel_rfl
  rw [ha] at hv4
  have hr : reachBytes = 140737488351232 := rfl
  simp only [List.append_nil] at hW'
  refine (con_kept (args := [v1, v2]) (Go.Proofs.Ck.law6_con sv n (by omega) g) (.cons _ _ _ _ hv2 (.cons _ _ _ _ hv4 .nil))).mono fun e W' ⟨he, hg⟩ => ?_
  subst he
  exact ⟨_, rfl, post_of_kept (pv := []) hW' (fun _ _ _ => (trodAll_cons_mk (shut_bool Try.underlying4 _) trodAll_mk0))
    (fun sp hsp => args_again hg kids full rowed hAA (by simpa using hsp)) (fun _ _ => rfl) (by simp)
    hg (ok_one (by kernel_rfl) rfl (okWide_bool_mk Try.underlying4 _))⟩
theorem over : Rows.clientTurnsRow.holds Try.pinned (OpenSpec.ofChange Rows.clientTurnsSpec) :=
  OpenClaim.holds_of_wide 6 Try.f6 rfl rfl rfl rfl rfl rfl rfl ⟨rfl, rfl, rfl, rfl, rfl⟩ rfl rfl rfl rfl rfl (by kernel_rfl) Try.func6 (by kernel_rfl)
    (of_decide_eq_true (by kernel_rfl)) (by unfold Func.isWrapper; first | (rw [if_pos (by decide +kernel)]; kernel_rfl) | (rw [if_neg (by decide +kernel)]; exact ⟨rfl, rfl⟩))
    (fun os started H enc _ => lifted os started H enc)
theorem proved : Rows.ClientTurnsSaid :=
  over
end Go.Proofs.Ytgggnjjhfkijfaa.clientTurns
