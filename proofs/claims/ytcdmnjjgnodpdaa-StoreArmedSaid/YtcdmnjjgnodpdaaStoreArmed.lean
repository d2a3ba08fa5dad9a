/- 'StoreArmed' returns true for whatever arguments the statement lets in, in whatever world it is called; no condition of its own. -/
import Derived.Test.YtcdmnjjgnodpdaaStC
import Derived.Test.YtcdmnjjgnodpdaaRows
import Derived.SizedLaws
set_option linter.unusedSimpArgs false
set_option linter.unusedVariables false
namespace Go.Proofs.Ytcdmnjjgnodpdaa.storeArmed
open Go.ChangeShapes Go.WideShapes Go.ChangeAt Go.RowKit Go.Sim

theorem own : ownKnob Try.prog.godebug = none := by kernel_rfl
theorem kids : Kids Try.prog (· < Try.prog.types.size) := kids_rows (by kernel_rfl) (by kernel_rfl)
theorem full : ∀ t e, t < Try.prog.types.size → Try.prog.underlying t = some (.slice e) → 0 < Try.prog.cellsOf e := slices_full_of Try.prog (by kernel_rfl)
theorem rowed : ∀ t ∈ [3, 60, 3], t < Try.prog.types.size := by
  have h : ([3, 60, 3].all fun t => decide (t < Try.prog.types.size)) = true := by kernel_rfl
  intro t ht
  simpa using List.all_eq_true.1 h t ht

theorem shape {f : Nat → CV} (h : Shp Try.prog 2 60 f) : ∃ (L : Nat) (B : Nat → Int), CLe (f 0) (.sv 1 L fun i _ => .i .i64 (B i)) ∧ L * 8 ≤ reachBytes := by
  have us : Try.prog.underlying 60 = some (.slice 3) := by kernel_rfl
  have u3 : Try.prog.underlying 3 = some (.int .i64) := by kernel_rfl
  have c3 : Try.prog.cellsOf 3 = 1 := by kernel_rfl
  have b3 : Try.prog.bytesOf 3 = 8 := by kernel_rfl
  obtain ⟨L, g, hg, _, hb, hi⟩ := Shp.slice 1 rfl h us
  obtain ⟨B, hB⟩ := Classical.axiomOfChoice (r := fun (i : Nat) (x : Int) => i < L → g i 0 = .i .i64 x) (fun i => by
    by_cases q : i < L
    · obtain ⟨x, hx, _⟩ := Shp.int 0 rfl (hi i q) u3
      exact ⟨x, fun _ => hx⟩
    · exact ⟨0, fun h => absurd h q⟩)
  rw [c3] at hg
  refine ⟨L, B, ?_, by rw [b3] at hb; exact hb⟩
  rw [hg]
  refine CLe.sv fun i j a b => .of ?_
  obtain rfl : j = 0 := by omega
  exact hB i a

set_option maxRecDepth 100000 in
theorem lifted (os : Os) (started : os.Started) (H : Type) (enc : TypeId × Value → H) :
    ReturnsInHanded {} Try.checked os 7 .any (Rows.storeArmedSpec.pre6 enc Try.prog Try.f7 Rows.storeArmedRow.domain false) (Rows.storeArmedSpec.post enc Try.prog Try.f7 false true false false) := by
  refine returnsInHanded_of_change_sized (C := Try.checked) own started (by kernel_rfl) Try.func7
    (ChangeSpec.witness6 (enc := enc) (C := Try.checked) false ⟨#[], #[.int .i64 0, .slice none 0 0, .int .i64 0], []⟩ 8 (by kernel_rfl) (by kernel_rfl) (by kernel_rfl) (by kernel_rfl)) ?_
  intro W base args ds gs before hval0 hW hcnd hwt _
  have hval : ∀ (j : Nat) t v, Try.f7.params[j]? = some t → args[j]? = some v → Value.okWide Try.prog W .any base t v := hval0
  have hW' := hW
  obtain ⟨p, q, hA0, hV, rfl, hfz, hnd⟩ := hW
  have hA : DataW.TrodAll enc Try.prog W 0 (fun _ => true) true Try.f7.params.toList args.toList ds p := hA0
  rw [Try.params7] at hA hval
  have hwt : (DataW.weightsEach Try.prog (Try.f7.params.toList ++ Rows.storeArmedSpec.plain.varTypes Try.prog) (ds ++ gs)).all (· ≤ reachBytes) = true := hwt
  rw [Try.params7] at hwt
  have hAA := hA
  obtain ⟨v1, v2, v3, d1, d2, d3, p1, p2, p3, rfl, rfl, rfl, t1, t2, t3⟩ := trodAll_three hA
  obtain ⟨rfl, rfl⟩ := trodVars_none hV
  clear hA0 hval0
  have u : Try.prog.underlying 3 = some (.int .i64) := by kernel_rfl
  obtain ⟨n1, rfl, rfl, rfl, w1⟩ := open_int u (hval 0 _ _ rfl rfl) t1
  obtain ⟨n3, rfl, rfl, rfl, w3⟩ := open_int u (hval 2 _ _ rfl rfl) t3
  obtain ⟨f, hv, hs⟩ := arg_shp 2 (by kernel_rfl) (hval 1 60 _ rfl rfl) t2 (weigh hwt (i := 1) rfl rfl)
  obtain ⟨L, B, e0, hL⟩ := shape hs
  have hv2 := hv (fun _ => .sv 1 L fun i _ => .i .i64 (B i)) (fun j hj => by
    have c : Try.prog.cellsOf 60 = 1 := by kernel_rfl
    rw [c] at hj
    obtain rfl : j = 0 := by omega
    exact e0)
  have ha : argAV Try.prog 60 (fun _ => .sv 1 L fun i _ => .i .i64 (B i)) = .sv 1 L fun i _ => .i .i64 (B i) := by kernel_rfl
  rw [ha] at hv2
  simp only [List.append_nil] at hW'
  refine (con_kept (args := [.int .i64 n1, v2, .int .i64 n3]) (Go.Proofs.St.armed_con n1 n3 L B (by
    have h : (decide (IntKind.i64.min ≤ n1) && decide (n1 ≤ IntKind.i64.max)) = true := w1
    have hm : IntKind.i64.max = 9223372036854775807 := by decide
    simp only [Bool.and_eq_true, decide_eq_true_eq] at h
    omega)) (.cons _ _ _ _ (.i _ _) (.cons _ _ _ _ hv2 (.cons _ _ _ _ (.i _ _) .nil)))).mono fun e W' ⟨he, hg⟩ => ?_
  subst he
  exact ⟨_, rfl, post_of_kept (pv := []) hW' (fun _ _ _ => (trodAll_cons_mk (shut_bool Try.underlying4 _) trodAll_mk0))
    (fun sp hsp => args_again hg kids full rowed hAA (by simpa using hsp)) (fun _ _ => rfl) (by simp)
    hg (ok_one (by kernel_rfl) rfl (okWide_bool_mk Try.underlying4 _))⟩

theorem over : Rows.storeArmedRow.holds Try.pinned (OpenSpec.ofChange Rows.storeArmedSpec) :=
  OpenClaim.holds_of_wide 7 Try.f7 rfl rfl rfl rfl rfl rfl rfl ⟨rfl, rfl, rfl, rfl, rfl⟩ rfl rfl rfl rfl rfl (by kernel_rfl) Try.func7 (by kernel_rfl)
    (of_decide_eq_true (by kernel_rfl)) (by unfold Func.isWrapper; first | (rw [if_pos (by decide +kernel)]; kernel_rfl) | (rw [if_neg (by decide +kernel)]; exact ⟨rfl, rfl⟩))
    (fun os started H enc _ => lifted os started H enc)

theorem proved : Rows.StoreArmedSaid :=
  over
end Go.Proofs.Ytcdmnjjgnodpdaa.storeArmed
