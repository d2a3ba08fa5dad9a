/- 'CellsRaw' returns true for whatever arguments the statement lets in, in whatever world it is called; no condition of its own. -/
import Derived.Test.YtiihmkiiojlcaaaDoorRowA
import Derived.SevenTiedAt
set_option linter.unusedSimpArgs false
set_option linter.unusedVariables false
namespace Go.Proofs.YtiihmkiiojlcaaaDoor.cellsRaw
open Go.ChangeShapes Go.WideShapes Go.ChangeAt Go.RowKit Go.Sim
theorem own : ownKnob Tryd.prog.godebug = none := by kernel_rfl
theorem kids : Kids Tryd.prog (· < Tryd.prog.types.size) := kids_rows (by kernel_rfl) (by kernel_rfl)
theorem full : ∀ t e, t < Tryd.prog.types.size → Tryd.prog.underlying t = some (.slice e) → 0 < Tryd.prog.cellsOf e := slices_full_of Tryd.prog (by kernel_rfl)
theorem rowed : ∀ t ∈ [48, 3, 9], t < Tryd.prog.types.size := by
  have h : ([48, 3, 9].all fun t => decide (t < Tryd.prog.types.size)) = true := by kernel_rfl
  intro t ht
  simpa using List.all_eq_true.1 h t ht
theorem shapeIm {f : Nat → CV} (h : Shp Tryd.prog 3 48 f) : ∃ (n : Nat) (ll : Nat → Nat) (bb : Nat → Nat → Nat), CLe (f 0) (.sv 1 n (Go.Proofs.St.imF ll bb)) ∧ n * 24 ≤ reachBytes ∧ (∀ i, i < n → ll i * 1 ≤ reachBytes) ∧ ∀ i k, bb i k < 256 := by
  have us : Tryd.prog.underlying 48 = some (.slice 55) := by kernel_rfl
  have ub : Tryd.prog.underlying 55 = some (.slice 5) := by kernel_rfl
  have c : Tryd.prog.cellsOf 55 = 1 := by kernel_rfl
  have c5 : Tryd.prog.cellsOf 5 = 1 := by kernel_rfl
  have b : Tryd.prog.bytesOf 55 = 24 := by kernel_rfl
  have b5 : Tryd.prog.bytesOf 5 = 1 := by kernel_rfl
  obtain ⟨n, g, hg, _, hb, hi⟩ := Shp.slice 2 rfl h us
  obtain ⟨W, hW⟩ := Classical.axiomOfChoice (r := fun (i : Nat) (q : Nat × (Nat → Nat)) => (∀ k, q.2 k < 256) ∧ (i < n → CLe (g i 0) (.sv 1 q.1 fun k _ => .i .u8 (Int.ofNat (q.2 k))) ∧ q.1 * 1 ≤ reachBytes)) (fun i => by
    by_cases q : i < n
    · obtain ⟨m, e, he, _, hm, hk⟩ := Shp.slice 1 rfl (hi i q) ub
      obtain ⟨V, hV⟩ := Classical.axiomOfChoice (r := fun (k : Nat) (z : Nat) => z < 256 ∧ (k < m → e k 0 = .i .u8 (Int.ofNat z))) (fun k => by
        by_cases w : k < m
        · obtain ⟨a, ha, ww⟩ := Shp.int 0 rfl (hk k w) Go.Proofs.Cl.u5
          have ww : (decide (IntKind.u8.min ≤ a) && decide (a ≤ IntKind.u8.max)) = true := ww
          have hmin : IntKind.u8.min = 0 := by decide
          have hmax : IntKind.u8.max = 255 := by decide
          simp only [Bool.and_eq_true, decide_eq_true_eq, hmin, hmax] at ww
          exact ⟨a.toNat, by omega, fun _ => by rw [ha]; show CV.i .u8 a = CV.i .u8 ((a.toNat : Nat) : Int); rw [Int.toNat_of_nonneg ww.1]⟩
        · exact ⟨0, by decide, fun h => absurd h w⟩)
      rw [c5] at he
      rw [b5] at hm
      refine ⟨(m, V), fun k => (hV k).1, fun _ => ⟨?_, hm⟩⟩
      rw [he]
      refine CLe.sv fun k j a b => ?_
      obtain rfl : j = 0 := by omega
      exact .of ((hV k).2 a)
    · exact ⟨(0, fun _ => 0), fun _ => (by decide : (0 : Nat) < 256), fun h => absurd h q⟩)
  rw [c] at hg
  rw [b] at hb
  refine ⟨n, fun i => (W i).1, fun i => (W i).2, ?_, hb, fun i hi => ((hW i).2 hi).2, fun i k => (hW i).1 k⟩
  rw [hg]
  refine CLe.sv fun i j a b => ?_
  obtain rfl : j = 0 := by omega
  exact ((hW i).2 a).1
set_option maxRecDepth 100000 in
theorem lifted (os : Os) (started : os.Started) (H : Type) (enc : TypeId × Value → H) :
    ReturnsInHanded {} Tryd.checked os 4 .any (fun w args => (Rows.cellsRawSpec.pre enc Tryd.prog Tryd.f4 [] false w args ∧ laidMetH Tryd.prog laidX w) ∧ sizedMet enc Tryd.prog Tryd.f4 (OpenSpec.ofChange Rows.cellsRawSpec) false w args) (Rows.cellsRawSpec.post enc Tryd.prog Tryd.f4 false true false false) := by
  refine returnsInHanded_of_change_and (C := Tryd.checked) (X := fun w _ => laidMetH Tryd.prog laidX w) (fun _ _ _ hh h => h.of_heap hh) own started (by kernel_rfl) Tryd.func4
    (ChangeSpec.witness_shaped (enc := enc) (C := Tryd.checked) (os := os) (X := fun w _ => laidMetH Tryd.prog laidX w) false (laidW os) #[.slice none 0 0, .int .i64 0, .string ⟨#[]⟩] 8 rfl (laid_shaped os _) (by kernel_rfl) (by kernel_rfl) (by kernel_rfl) (laid_met os _)) ?_
  intro W base args ds gs before hval0 hW hcnd hwt _ _
  have hval : ∀ (j : Nat) t v, Tryd.f4.params[j]? = some t → args[j]? = some v → Value.okWide Tryd.prog W .any base t v := hval0
  have hW' := hW
  obtain ⟨p, q, hA0, hV, rfl, hfz, hnd⟩ := hW
  have hA : DataW.TrodAll enc Tryd.prog W 0 (fun _ => true) true Tryd.f4.params.toList args.toList ds p := hA0
  rw [Tryd.params4] at hA hval
  have hwt : (DataW.weightsEach Tryd.prog (Tryd.f4.params.toList ++ Rows.cellsRawSpec.plain.varTypes Tryd.prog) (ds ++ gs)).all (· ≤ reachBytes) = true := hwt
  rw [Tryd.params4] at hwt
  have hAA := hA
  obtain ⟨v1, v2, v3, d1, d2, d3, p1, p2, p3, rfl, rfl, rfl, t1, t2, t3⟩ := trodAll_three hA
  obtain ⟨rfl, rfl⟩ := trodVars_none hV
  clear hA0 hval0
  obtain ⟨n1, rfl, rfl, rfl, w1⟩ := open_int Go.Proofs.Cl.u3 (hval 1 _ _ rfl rfl) t2
  obtain ⟨g1, hv1, hs1⟩ := arg_shp 3 (by kernel_rfl) (hval 0 48 _ rfl rfl) t1 (weigh hwt (i := 0) rfl rfl)
  obtain ⟨m, ll, bb, e1, hm, hl, hb⟩ := shapeIm hs1
  have c48 : Tryd.prog.cellsOf 48 = 1 := by kernel_rfl
  have hv1 := hv1 (fun _ => .sv 1 m (Go.Proofs.St.imF ll bb)) (fun j hj => by
    rw [c48] at hj
    obtain rfl : j = 0 := by omega
    exact e1)
  have ha1 : argAV Tryd.prog 48 (fun _ => .sv 1 m (Go.Proofs.St.imF ll bb)) = .sv 1 m (Go.Proofs.St.imF ll bb) := by kernel_rfl
  rw [ha1] at hv1
  obtain ⟨g3, hv3, hs3⟩ := arg_shp 2 (by kernel_rfl) (hval 2 9 _ rfl rfl) t3 (weigh hwt (i := 2) rfl rfl)
  obtain ⟨x, hx, hxb, _⟩ := Shp.string 1 rfl hs3 Go.Proofs.Cl.u9
  have c9 : Tryd.prog.cellsOf 9 = 1 := by kernel_rfl
  have hv3 := hv3 (fun _ => .s x) (fun j hj => by
    rw [c9] at hj
    obtain rfl : j = 0 := by omega
    exact .of hx)
  have ha3 : argAV Tryd.prog 9 (fun _ => .s x) = .s x := by kernel_rfl
  rw [ha3] at hv3
  have hr : reachBytes = 140737488351232 := rfl
  simp only [List.append_nil] at hW'
  refine (con_kept (args := [v1, .int .i64 n1, v3]) (Go.Proofs.Cl.raw_con m ll bb n1 x (by omega) (fun i hi => by have := hl i hi; omega) hb hxb) (.cons _ _ _ _ hv1 (.cons _ _ _ _ (.i _ _) (.cons _ _ _ _ hv3 .nil)))).mono fun e W' ⟨he, hg⟩ => ?_
  subst he
  exact ⟨_, rfl, post_of_kept (pv := []) hW' (fun _ _ _ => (trodAll_cons_mk (shut_bool Tryd.underlying4 _) trodAll_mk0))
    (fun sp hsp => args_again hg kids full rowed hAA (by simpa using hsp)) (fun _ _ => rfl) (by simp)
    hg (ok_one (by kernel_rfl) rfl (okWide_bool_mk Tryd.underlying4 _))⟩
theorem over : Rows.cellsRawRow.holds Tryd.pinned (OpenSpec.ofChange Rows.cellsRawSpec) :=
  OpenClaim.holds_of_wide 4 Tryd.f4 rfl rfl rfl rfl rfl rfl rfl ⟨rfl, rfl, rfl, rfl, rfl⟩ rfl rfl rfl rfl rfl (by kernel_rfl) Tryd.func4 (by kernel_rfl)
    (of_decide_eq_true (by kernel_rfl)) (by unfold Func.isWrapper; first | (rw [if_pos (by decide +kernel)]; kernel_rfl) | (rw [if_neg (by decide +kernel)]; exact ⟨rfl, rfl⟩))
    (fun os started H enc _ => lifted os started H enc)
theorem proved : Rows.CellsRawCardSaid :=
  Claim7.holds_tied_plain_at .later [] [.data, .pinned] true (true, "df79548f8aa0b340473a2cc7e012f6ba94d3b82b5c6235f0efaca8c3c72d1374") false
    over (fun _ h => by cases h) (by kernel_rfl) (fun _ h => by cases h) cellsRaw_row_tie rfl ⟨rfl, rfl⟩ (by kernel_rfl) rfl
    (fun f fn hf hfn => by
      obtain rfl : f = 4 := Option.some.inj ((show Tryd.prog.funcNamed "lagoon/lagoonlaw06.CellsRaw" = some 4 by kernel_rfl).symm.trans hf) |>.symm
      obtain rfl : fn = Tryd.f4 := (Option.some.inj (Tryd.func4.symm.trans hfn)).symm
      exact ⟨by kernel_rfl, fun j t ht => by
        rw [Tryd.params4] at ht
        have hm : t ∈ [48, 3, 9] := by simpa using Array.mem_of_getElem? ht
        have hall : ([48, 3, 9].all fun u => !Tryd.prog.wantsStandIn u) = true := by kernel_rfl
        exact (show Tryd.prog.wantsStandIn t = false by simpa using List.all_eq_true.1 hall t hm)⟩)
    (by kernel_rfl)
#print axioms proved
end Go.Proofs.YtiihmkiiojlcaaaDoor.cellsRaw
