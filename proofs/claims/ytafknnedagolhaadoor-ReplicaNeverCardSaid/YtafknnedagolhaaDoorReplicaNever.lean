/- 'ReplicaNever' returns true for whatever arguments the statement lets in, in whatever world it is called; no condition of its own. -/
import Derived.Test.YtafknnedagolhaaDoorRowA
import Derived.SevenTiedAt
set_option linter.unusedSimpArgs false
set_option linter.unusedVariables false
namespace Go.Proofs.YtafknnedagolhaaDoor.replicaNever
open Go.ChangeShapes Go.WideShapes Go.ChangeAt Go.RowKit Go.Sim
theorem own : ownKnob Tryd.prog.godebug = none := by kernel_rfl
theorem kids : Kids Tryd.prog (· < Tryd.prog.types.size) := kids_rows (by kernel_rfl) (by kernel_rfl)
theorem full : ∀ t e, t < Tryd.prog.types.size → Tryd.prog.underlying t = some (.slice e) → 0 < Tryd.prog.cellsOf e := slices_full_of Tryd.prog (by kernel_rfl)
theorem rowed : ∀ t ∈ [59, 65], t < Tryd.prog.types.size := by
  have h : ([59, 65].all fun t => decide (t < Tryd.prog.types.size)) = true := by kernel_rfl
  intro t ht
  simpa using List.all_eq_true.1 h t ht
set_option maxRecDepth 100000 in
theorem lifted (os : Os) (started : os.Started) (H : Type) (enc : TypeId × Value → H) :
    ReturnsInHanded {} Tryd.checked os 6 .any (fun w args => (Rows.replicaNeverSpec.pre enc Tryd.prog Tryd.f6 [] false w args ∧ laidMetH Tryd.prog laidX w) ∧ sizedMet enc Tryd.prog Tryd.f6 (OpenSpec.ofChange Rows.replicaNeverSpec) false w args) (Rows.replicaNeverSpec.post enc Tryd.prog Tryd.f6 false true false false) := by
  refine returnsInHanded_of_change_and (C := Tryd.checked) (X := fun w _ => laidMetH Tryd.prog laidX w) (fun _ _ _ hh h => h.of_heap hh) own started (by kernel_rfl) Tryd.func6
    (ChangeSpec.witness_shaped (enc := enc) (C := Tryd.checked) (os := os) (X := fun w _ => laidMetH Tryd.prog laidX w) false (laidW os) #[.slice none 0 0, .agg #[.int .i64 0, .int .i64 0, .int .i64 0, .string ⟨#[]⟩, .int .i64 0, .int .i64 0, .bool false]] 8 rfl (laid_shaped os _) (by kernel_rfl) (by kernel_rfl) (by kernel_rfl) (laid_met os _)) ?_
  intro W base args ds gs before hval0 hW hcnd hwt _ _
  have hval : ∀ (j : Nat) t v, Tryd.f6.params[j]? = some t → args[j]? = some v → Value.okWide Tryd.prog W .any base t v := hval0
  have hW' := hW
  obtain ⟨p, q, hA0, hV, rfl, hfz, hnd⟩ := hW
  have hA : DataW.TrodAll enc Tryd.prog W 0 (fun _ => true) true Tryd.f6.params.toList args.toList ds p := hA0
  rw [Tryd.params6] at hA hval
  have hwt : (DataW.weightsEach Tryd.prog (Tryd.f6.params.toList ++ Rows.replicaNeverSpec.plain.varTypes Tryd.prog) (ds ++ gs)).all (· ≤ reachBytes) = true := hwt
  rw [Tryd.params6] at hwt
  have hAA := hA
  obtain ⟨v1, v2, d1, d2, p1, p2, rfl, rfl, rfl, t1, t2⟩ := trodAll_two hA
  obtain ⟨rfl, rfl⟩ := trodVars_none hV
  clear hA0 hval0
  obtain ⟨g1, hv1, hs1⟩ := arg_shp 4 (by kernel_rfl) (hval 0 59 _ rfl rfl) t1 (weigh hwt (i := 0) rfl rfl)
  obtain ⟨L, KK, NN, QQ, XX, VV, GG, TT, e1, hX, hN⟩ := Go.Proofs.Cl.shpOps7 hs1
  have c59 : Tryd.prog.cellsOf 59 = 1 := by kernel_rfl
  have hv1 := hv1 (fun _ => .sv 7 L (Go.Proofs.Cl.opF7 KK NN QQ XX VV GG TT)) (fun j hj => by
    rw [c59] at hj
    obtain rfl : j = 0 := by omega
    exact e1)
  have ha1 : argAV Tryd.prog 59 (fun _ => .sv 7 L (Go.Proofs.Cl.opF7 KK NN QQ XX VV GG TT)) = .sv 7 L (Go.Proofs.Cl.opF7 KK NN QQ XX VV GG TT) := by kernel_rfl
  rw [ha1] at hv1
  obtain ⟨g2, hv2, hs2⟩ := arg_shp 3 (by kernel_rfl) (hval 1 65 _ rfl rfl) t2 (weigh hwt (i := 1) rfl rfl)
  obtain ⟨kk, n, q, d, v, g, tt, ⟨w0, w1, w2, w3, w4, w5, w6⟩, hd⟩ := Go.Proofs.Cl.shpOp1 hs2
  have c65 : Tryd.prog.cellsOf 65 = 7 := by kernel_rfl
  have hv2 := hv2 (Go.Proofs.Cl.opV kk n q d v g tt) (fun j hj => by
    rw [c65] at hj
    match j, hj with
    | 0, _ => exact .of w0
    | 1, _ => exact .of w1
    | 2, _ => exact .of w2
    | 3, _ => exact .of w3
    | 4, _ => exact .of w4
    | 5, _ => exact .of w5
    | 6, _ => exact .of w6)
  have ha2 : argAV Tryd.prog 65 (Go.Proofs.Cl.opV kk n q d v g tt) = .agg [.i .i64 kk, .i .i64 n, .i .i64 q, .s d, .i .i64 v, .i .i64 g, .b tt] := by kernel_rfl
  rw [ha2] at hv2
  simp only [List.append_nil] at hW'
  refine (con_kept (args := [v1, v2]) (Go.Proofs.Cl.nev_con L KK NN QQ XX VV GG TT kk n q d v g tt hX hd) (.cons _ _ _ _ hv1 (.cons _ _ _ _ hv2 .nil))).mono fun e W' ⟨he, hg⟩ => ?_
  subst he
  exact ⟨_, rfl, post_of_kept (pv := []) hW' (fun _ _ _ => (trodAll_cons_mk (shut_bool Tryd.underlying4 _) trodAll_mk0))
    (fun sp hsp => args_again hg kids full rowed hAA (by simpa using hsp)) (fun _ _ => rfl) (by simp)
    hg (ok_one (by kernel_rfl) rfl (okWide_bool_mk Tryd.underlying4 _))⟩
theorem over : Rows.replicaNeverRow.holds Tryd.pinned (OpenSpec.ofChange Rows.replicaNeverSpec) :=
  OpenClaim.holds_of_wide 6 Tryd.f6 rfl rfl rfl rfl rfl rfl rfl ⟨rfl, rfl, rfl, rfl, rfl⟩ rfl rfl rfl rfl rfl (by kernel_rfl) Tryd.func6 (by kernel_rfl)
    (of_decide_eq_true (by kernel_rfl)) (by unfold Func.isWrapper; first | (rw [if_pos (by decide +kernel)]; kernel_rfl) | (rw [if_neg (by decide +kernel)]; exact ⟨rfl, rfl⟩))
    (fun os started H enc _ => lifted os started H enc)
theorem proved : Rows.ReplicaNeverCardSaid :=
  Claim7.holds_tied_plain_at .later [] [.data, .pinned] true (true, "92c6eb222a056dadb507242ca36868176f434062d598b6be0ab446b59ff09237") false
    over (fun _ h => by cases h) (by kernel_rfl) (fun _ h => by cases h) replicaNever_row_tie rfl ⟨rfl, rfl⟩ (by kernel_rfl) rfl
    (fun f fn hf hfn => by
      obtain rfl : f = 6 := Option.some.inj ((show Tryd.prog.funcNamed "lagoon/lagoonlaw07.ReplicaNever" = some 6 by kernel_rfl).symm.trans hf) |>.symm
      obtain rfl : fn = Tryd.f6 := (Option.some.inj (Tryd.func6.symm.trans hfn)).symm
      exact ⟨by kernel_rfl, fun j t ht => by
        rw [Tryd.params6] at ht
        have hm : t ∈ [59, 65] := by simpa using Array.mem_of_getElem? ht
        have hall : ([59, 65].all fun u => !Tryd.prog.wantsStandIn u) = true := by kernel_rfl
        exact (show Tryd.prog.wantsStandIn t = false by simpa using List.all_eq_true.1 hall t hm)⟩)
    (by kernel_rfl)
#print axioms proved
end Go.Proofs.YtafknnedagolhaaDoor.replicaNever
