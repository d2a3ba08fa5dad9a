/- 'StoreKeeps' returns true for whatever arguments the statement lets in, in whatever world it is called; no condition of its own. -/
import Derived.Test.YtcdmnjjgnodpdaaStI
import Derived.Test.YtcdmnjjgnodpdaaRows
import Derived.SizedLaws
set_option linter.unusedSimpArgs false
set_option linter.unusedVariables false
namespace Go.Proofs.Ytcdmnjjgnodpdaa.storeKeeps
open Go.ChangeShapes Go.WideShapes Go.ChangeAt Go.RowKit Go.Sim

theorem own : ownKnob Try.prog.godebug = none := by kernel_rfl
theorem kids : Kids Try.prog (· < Try.prog.types.size) := kids_rows (by kernel_rfl) (by kernel_rfl)
theorem full : ∀ t e, t < Try.prog.types.size → Try.prog.underlying t = some (.slice e) → 0 < Try.prog.cellsOf e := slices_full_of Try.prog (by kernel_rfl)
theorem rowed : ∀ t ∈ [29, 29, 57], t < Try.prog.types.size := by
  have h : ([29, 29, 57].all fun t => decide (t < Try.prog.types.size)) = true := by kernel_rfl
  intro t ht
  simpa using List.all_eq_true.1 h t ht

theorem u3 : Try.prog.underlying 3 = some (.int .i64) := by kernel_rfl
theorem u4 : Try.prog.underlying 4 = some .bool := by kernel_rfl
theorem u5 : Try.prog.underlying 5 = some (.int .u8) := by kernel_rfl

theorem shapeOps {f : Nat → CV} (h : Shp Try.prog 3 29 f) : ∃ (L : Nat) (K I F N : Nat → Int) (T : Nat → Bool), CLe (f 0) (.sv 5 L (Go.Proofs.St.opF K I F N T)) := by
  have us : Try.prog.underlying 29 = some (.slice 34) := by kernel_rfl
  have c : Try.prog.cellsOf 34 = 5 := by kernel_rfl
  have f0 : fld Try.prog 34 0 = some (3, 0) := by kernel_rfl
  have f1 : fld Try.prog 34 1 = some (3, 1) := by kernel_rfl
  have f2 : fld Try.prog 34 2 = some (5, 2) := by kernel_rfl
  have f3 : fld Try.prog 34 3 = some (3, 3) := by kernel_rfl
  have f4 : fld Try.prog 34 4 = some (4, 4) := by kernel_rfl
  obtain ⟨L, g, hg, _, _, hi⟩ := Shp.slice 2 rfl h us
  obtain ⟨W, hW⟩ := Classical.axiomOfChoice (r := fun (i : Nat) (q : Int × Int × Int × Int × Bool) => i < L → g i 0 = .i .i64 q.1 ∧ g i 1 = .i .i64 q.2.1 ∧ g i 2 = .i .u8 q.2.2.1 ∧ g i 3 = .i .i64 q.2.2.2.1 ∧ g i 4 = .b q.2.2.2.2) (fun i => by
    by_cases q : i < L
    · obtain ⟨a, ha, _⟩ := Shp.int 0 rfl (Shp.field 1 rfl (hi i q) f0) u3
      obtain ⟨b, hb, _⟩ := Shp.int 0 rfl (Shp.field 1 rfl (hi i q) f1) u3
      obtain ⟨d, hd, _⟩ := Shp.int 0 rfl (Shp.field 1 rfl (hi i q) f2) u5
      obtain ⟨e, he, _⟩ := Shp.int 0 rfl (Shp.field 1 rfl (hi i q) f3) u3
      obtain ⟨z, hz⟩ := Shp.bool 0 rfl (Shp.field 1 rfl (hi i q) f4) u4
      exact ⟨(a, b, d, e, z), fun _ => ⟨by simpa using ha, by simpa using hb, by simpa using hd, by simpa using he, by simpa using hz⟩⟩
    · exact ⟨(0, 0, 0, 0, false), fun h => absurd h q⟩)
  rw [c] at hg
  refine ⟨L, fun i => (W i).1, fun i => (W i).2.1, fun i => (W i).2.2.1, fun i => (W i).2.2.2.1, fun i => (W i).2.2.2.2, ?_⟩
  rw [hg]
  refine CLe.sv fun i j a b => ?_
  match j, b with
  | 0, _ => exact .of (hW i a).1
  | 1, _ => exact .of (hW i a).2.1
  | 2, _ => exact .of (hW i a).2.2.1
  | 3, _ => exact .of (hW i a).2.2.2.1
  | 4, _ => exact .of (hW i a).2.2.2.2

theorem shapeCut {f : Nat → CV} (h : Shp Try.prog 2 57 f) : ∃ (kk : Int) (tt : Bool), f 0 = .i .i64 kk ∧ f 1 = .b tt ∧ kk ≤ 9223372036854775807 := by
  have f0 : fld Try.prog 57 0 = some (3, 0) := by kernel_rfl
  have f1 : fld Try.prog 57 1 = some (4, 1) := by kernel_rfl
  obtain ⟨kk, hk, w⟩ := Shp.int 0 rfl (Shp.field 1 rfl h f0) u3
  obtain ⟨tt, ht⟩ := Shp.bool 0 rfl (Shp.field 1 rfl h f1) u4
  refine ⟨kk, tt, by simpa using hk, by simpa using ht, ?_⟩
  have h : (decide (IntKind.i64.min ≤ kk) && decide (kk ≤ IntKind.i64.max)) = true := w
  have hm : IntKind.i64.max = 9223372036854775807 := by decide
  simp only [Bool.and_eq_true, decide_eq_true_eq] at h
  omega

set_option maxRecDepth 100000 in
theorem lifted (os : Os) (started : os.Started) (H : Type) (enc : TypeId × Value → H) :
    ReturnsInHanded {} Try.checked os 6 .any (Rows.storeKeepsSpec.pre6 enc Try.prog Try.f6 Rows.storeKeepsRow.domain false) (Rows.storeKeepsSpec.post enc Try.prog Try.f6 false true false false) := by
  refine returnsInHanded_of_change_sized (C := Try.checked) own started (by kernel_rfl) Try.func6
    (ChangeSpec.witness6 (enc := enc) (C := Try.checked) false ⟨#[], #[.slice none 0 0, .slice none 0 0, .agg #[.int .i64 0, .bool false]], []⟩ 8 (by kernel_rfl) (by kernel_rfl) (by kernel_rfl) (by kernel_rfl)) ?_
  intro W base args ds gs before hval0 hW hcnd hwt _
  have hval : ∀ (j : Nat) t v, Try.f6.params[j]? = some t → args[j]? = some v → Value.okWide Try.prog W .any base t v := hval0
  have hW' := hW
  obtain ⟨p, q, hA0, hV, rfl, hfz, hnd⟩ := hW
  have hA : DataW.TrodAll enc Try.prog W 0 (fun _ => true) true Try.f6.params.toList args.toList ds p := hA0
  rw [Try.params6] at hA hval
  have hwt : (DataW.weightsEach Try.prog (Try.f6.params.toList ++ Rows.storeKeepsSpec.plain.varTypes Try.prog) (ds ++ gs)).all (· ≤ reachBytes) = true := hwt
  rw [Try.params6] at hwt
  have hAA := hA
  obtain ⟨v1, v2, v3, d1, d2, d3, p1, p2, p3, rfl, rfl, rfl, t1, t2, t3⟩ := trodAll_three hA
  obtain ⟨rfl, rfl⟩ := trodVars_none hV
  clear hA0 hval0
  obtain ⟨g1, hv1, hs1⟩ := arg_shp 3 (by kernel_rfl) (hval 0 29 _ rfl rfl) t1 (weigh hwt (i := 0) rfl rfl)
  obtain ⟨g2, hv2, hs2⟩ := arg_shp 3 (by kernel_rfl) (hval 1 29 _ rfl rfl) t2 (weigh hwt (i := 1) rfl rfl)
  obtain ⟨g3, hv3, hs3⟩ := arg_shp 2 (by kernel_rfl) (hval 2 57 _ rfl rfl) t3 (weigh hwt (i := 2) rfl rfl)
  obtain ⟨L1, K1, I1, F1, N1, T1, e1⟩ := shapeOps hs1
  obtain ⟨L2, K2, I2, F2, N2, T2, e2⟩ := shapeOps hs2
  obtain ⟨kk, tt, k0, k1, hk⟩ := shapeCut hs3
  have c29 : Try.prog.cellsOf 29 = 1 := by kernel_rfl
  have hv1 := hv1 (fun _ => .sv 5 L1 (Go.Proofs.St.opF K1 I1 F1 N1 T1)) (fun j hj => by
    rw [c29] at hj
    obtain rfl : j = 0 := by omega
    exact e1)
  have hv2 := hv2 (fun _ => .sv 5 L2 (Go.Proofs.St.opF K2 I2 F2 N2 T2)) (fun j hj => by
    rw [c29] at hj
    obtain rfl : j = 0 := by omega
    exact e2)
  have hv3 := hv3 (fun j => match j with | 0 => .i .i64 kk | _ => .b tt) (fun j hj => by
    have c : Try.prog.cellsOf 57 = 2 := by kernel_rfl
    rw [c] at hj
    match j, hj with
    | 0, _ => exact .of k0
    | 1, _ => exact .of k1)
  have ha1 : argAV Try.prog 29 (fun _ => .sv 5 L1 (Go.Proofs.St.opF K1 I1 F1 N1 T1)) = .sv 5 L1 (Go.Proofs.St.opF K1 I1 F1 N1 T1) := by kernel_rfl
  have ha2 : argAV Try.prog 29 (fun _ => .sv 5 L2 (Go.Proofs.St.opF K2 I2 F2 N2 T2)) = .sv 5 L2 (Go.Proofs.St.opF K2 I2 F2 N2 T2) := by kernel_rfl
  have ha3 : argAV Try.prog 57 (fun j => match j with | 0 => .i .i64 kk | _ => .b tt) = .agg [.i .i64 kk, .b tt] := by kernel_rfl
  rw [ha1] at hv1
  rw [ha2] at hv2
  rw [ha3] at hv3
  simp only [List.append_nil] at hW'
  refine (con_kept (args := [v1, v2, v3]) (Go.Proofs.St.keeps_con L1 L2 K1 I1 F1 N1 K2 I2 F2 N2 T1 T2 kk tt hk) (.cons _ _ _ _ hv1 (.cons _ _ _ _ hv2 (.cons _ _ _ _ hv3 .nil)))).mono fun e W' ⟨he, hg⟩ => ?_
  subst he
  exact ⟨_, rfl, post_of_kept (pv := []) hW' (fun _ _ _ => (trodAll_cons_mk (shut_bool Try.underlying4 _) trodAll_mk0))
    (fun sp hsp => args_again hg kids full rowed hAA (by simpa using hsp)) (fun _ _ => rfl) (by simp)
    hg (ok_one (by kernel_rfl) rfl (okWide_bool_mk Try.underlying4 _))⟩

theorem over : Rows.storeKeepsRow.holds Try.pinned (OpenSpec.ofChange Rows.storeKeepsSpec) :=
  OpenClaim.holds_of_wide 6 Try.f6 rfl rfl rfl rfl rfl rfl rfl ⟨rfl, rfl, rfl, rfl, rfl⟩ rfl rfl rfl rfl rfl (by kernel_rfl) Try.func6 (by kernel_rfl)
    (of_decide_eq_true (by kernel_rfl)) (by unfold Func.isWrapper; first | (rw [if_pos (by decide +kernel)]; kernel_rfl) | (rw [if_neg (by decide +kernel)]; exact ⟨rfl, rfl⟩))
    (fun os started H enc _ => lifted os started H enc)

theorem proved : Rows.StoreKeepsSaid :=
  over
end Go.Proofs.Ytcdmnjjgnodpdaa.storeKeeps
