/- 'StoreFrom' returns true for whatever arguments the statement lets in, in whatever world it is called; no condition of its own. -/
import Derived.Test.YtnimecdipggbcaaFrA
import Derived.Test.YtnimecdipggbcaaRows
import Derived.SizedLaws
set_option linter.unusedSimpArgs false
set_option linter.unusedVariables false
namespace Go.Proofs.Ytnimecdipggbcaa.storeFrom
open Go.ChangeShapes Go.WideShapes Go.ChangeAt Go.RowKit Go.Sim

theorem own : ownKnob Try.prog.godebug = none := by kernel_rfl
theorem kids : Kids Try.prog (· < Try.prog.types.size) := kids_rows (by kernel_rfl) (by kernel_rfl)
theorem full : ∀ t e, t < Try.prog.types.size → Try.prog.underlying t = some (.slice e) → 0 < Try.prog.cellsOf e := slices_full_of Try.prog (by kernel_rfl)
theorem rowed : ∀ t ∈ [47], t < Try.prog.types.size := by
  have h : ([47].all fun t => decide (t < Try.prog.types.size)) = true := by kernel_rfl
  intro t ht
  simpa using List.all_eq_true.1 h t ht

theorem u3 : Try.prog.underlying 3 = some (.int .i64) := by kernel_rfl
theorem u4 : Try.prog.underlying 4 = some .bool := by kernel_rfl
theorem u5 : Try.prog.underlying 5 = some (.int .u8) := by kernel_rfl

theorem shapeIm {f : Nat → CV} (h : Shp Try.prog 3 47 f) : ∃ (n : Nat) (ll : Nat → Nat) (bb : Nat → Nat → Nat), CLe (f 0) (.sv 1 n (Go.Proofs.St.imF ll bb)) ∧ n * 24 ≤ reachBytes ∧ ∀ i, i < n → ll i * 1 ≤ reachBytes := by
  have us : Try.prog.underlying 47 = some (.slice 35) := by kernel_rfl
  have ub : Try.prog.underlying 35 = some (.slice 5) := by kernel_rfl
  have c : Try.prog.cellsOf 35 = 1 := by kernel_rfl
  have c5 : Try.prog.cellsOf 5 = 1 := by kernel_rfl
  have b : Try.prog.bytesOf 35 = 24 := by kernel_rfl
  have b5 : Try.prog.bytesOf 5 = 1 := by kernel_rfl
  obtain ⟨n, g, hg, _, hb, hi⟩ := Shp.slice 2 rfl h us
  obtain ⟨W, hW⟩ := Classical.axiomOfChoice (r := fun (i : Nat) (q : Nat × (Nat → Nat)) => i < n → CLe (g i 0) (.sv 1 q.1 fun k _ => .i .u8 (Int.ofNat (q.2 k))) ∧ q.1 * 1 ≤ reachBytes) (fun i => by
    by_cases q : i < n
    · obtain ⟨m, e, he, _, hm, hk⟩ := Shp.slice 1 rfl (hi i q) ub
      obtain ⟨V, hV⟩ := Classical.axiomOfChoice (r := fun (k : Nat) (z : Nat) => k < m → e k 0 = .i .u8 (Int.ofNat z)) (fun k => by
        by_cases w : k < m
        · obtain ⟨a, ha, ww⟩ := Shp.int 0 rfl (hk k w) u5
          have ww : (decide (IntKind.u8.min ≤ a) && decide (a ≤ IntKind.u8.max)) = true := ww
          have hmin : IntKind.u8.min = 0 := by decide
          simp only [Bool.and_eq_true, decide_eq_true_eq, hmin] at ww
          exact ⟨a.toNat, fun _ => by rw [ha]; congr 1; simp; omega⟩
        · exact ⟨0, fun h => absurd h w⟩)
      rw [c5] at he
      rw [b5] at hm
      refine ⟨(m, V), fun _ => ⟨?_, hm⟩⟩
      rw [he]
      refine CLe.sv fun k j a b => ?_
      obtain rfl : j = 0 := by omega
      exact .of (hV k a)
    · exact ⟨(0, fun _ => 0), fun h => absurd h q⟩)
  rw [c] at hg
  rw [b] at hb
  refine ⟨n, fun i => (W i).1, fun i => (W i).2, ?_, hb, fun i hi => (hW i hi).2⟩
  rw [hg]
  refine CLe.sv fun i j a b => ?_
  obtain rfl : j = 0 := by omega
  exact (hW i a).1

set_option maxRecDepth 100000 in
theorem lifted (os : Os) (started : os.Started) (H : Type) (enc : TypeId × Value → H) :
    ReturnsInHanded {} Try.checked os 5 .any (Rows.storeFromSpec.pre6 enc Try.prog Try.f5 Rows.storeFromRow.domain false) (Rows.storeFromSpec.post enc Try.prog Try.f5 false true false false) := by
  refine returnsInHanded_of_change_sized (C := Try.checked) own started (by kernel_rfl) Try.func5
    (ChangeSpec.witness6 (enc := enc) (C := Try.checked) false ⟨#[], #[.slice none 0 0], []⟩ 8 (by kernel_rfl) (by kernel_rfl) (by kernel_rfl) (by kernel_rfl)) ?_
  intro W base args ds gs before hval0 hW hcnd hwt _
  have hval : ∀ (j : Nat) t v, Try.f5.params[j]? = some t → args[j]? = some v → Value.okWide Try.prog W .any base t v := hval0
  have hW' := hW
  obtain ⟨p, q, hA0, hV, rfl, hfz, hnd⟩ := hW
  have hA : DataW.TrodAll enc Try.prog W 0 (fun _ => true) true Try.f5.params.toList args.toList ds p := hA0
  rw [Try.params5] at hA hval
  have hwt : (DataW.weightsEach Try.prog (Try.f5.params.toList ++ Rows.storeFromSpec.plain.varTypes Try.prog) (ds ++ gs)).all (· ≤ reachBytes) = true := hwt
  rw [Try.params5] at hwt
  have hAA := hA
  obtain ⟨v1, d1, rfl, rfl, t1⟩ := trodAll_one hA
  obtain ⟨rfl, rfl⟩ := trodVars_none hV
  clear hA0 hval0
  obtain ⟨g1, hv1, hs1⟩ := arg_shp 3 (by kernel_rfl) (hval 0 47 _ rfl rfl) t1 (weigh hwt (i := 0) rfl rfl)
  obtain ⟨n, ll, bb, e1, hn, hl⟩ := shapeIm hs1
  have c47 : Try.prog.cellsOf 47 = 1 := by kernel_rfl
  have hv1 := hv1 (fun _ => .sv 1 n (Go.Proofs.St.imF ll bb)) (fun j hj => by
    rw [c47] at hj
    obtain rfl : j = 0 := by omega
    exact e1)
  have ha1 : argAV Try.prog 47 (fun _ => .sv 1 n (Go.Proofs.St.imF ll bb)) = .sv 1 n (Go.Proofs.St.imF ll bb) := by kernel_rfl
  rw [ha1] at hv1
  have hr : reachBytes = 140737488351232 := rfl
  rw [hr] at hn hl
  simp only [List.append_nil] at hW'
  refine (con_kept (args := [v1]) (Go.Proofs.St.law_con n ll bb (by omega) (fun i hi => by have := hl i hi; omega)) (.cons _ _ _ _ hv1 .nil)).mono fun e W' ⟨he, hg⟩ => ?_
  subst he
  exact ⟨_, rfl, post_of_kept (pv := []) hW' (fun _ _ _ => (trodAll_cons_mk (shut_bool Try.underlying4 _) trodAll_mk0))
    (fun sp hsp => args_again hg kids full rowed hAA (by simpa using hsp)) (fun _ _ => rfl) (by simp)
    hg (ok_one (by kernel_rfl) rfl (okWide_bool_mk Try.underlying4 _))⟩

theorem over : Rows.storeFromRow.holds Try.pinned (OpenSpec.ofChange Rows.storeFromSpec) :=
  OpenClaim.holds_of_wide 5 Try.f5 rfl rfl rfl rfl rfl rfl rfl ⟨rfl, rfl, rfl, rfl, rfl⟩ rfl rfl rfl rfl rfl (by kernel_rfl) Try.func5 (by kernel_rfl)
    (of_decide_eq_true (by kernel_rfl)) (by unfold Func.isWrapper; first | (rw [if_pos (by decide +kernel)]; kernel_rfl) | (rw [if_neg (by decide +kernel)]; exact ⟨rfl, rfl⟩))
    (fun os started H enc _ => lifted os started H enc)

theorem proved : Rows.StoreFromSaid :=
  over
end Go.Proofs.Ytnimecdipggbcaa.storeFrom
