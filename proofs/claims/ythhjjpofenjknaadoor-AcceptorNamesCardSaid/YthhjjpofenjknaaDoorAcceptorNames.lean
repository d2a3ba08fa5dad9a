/- 'AcceptorNames' returns true for whatever arguments the statement lets in, in whatever world it is called; no condition of its own. -/
import Derived.Test.YthhjjpofenjknaaDoorRowA
import Derived.SevenTiedAt
noncomputable section
open Int (ofNat)
set_option linter.unusedSimpArgs false
set_option linter.unusedVariables false
/- 'AcceptorNames' returns true, in whatever world it is called; no condition of its own. -/
namespace Go.Proofs.YthhjjpofenjknaaDoor.acceptorNames
open Go.ChangeShapes Go.WideShapes Go.ChangeAt Go.RowKit Go.Sim
theorem own:ownKnob Tryd.prog.godebug=none:=by kernel_rfl
theorem full:∀t e,t<Tryd.prog.types.size->Tryd.prog.underlying t=some (.slice e)->0<Tryd.prog.cellsOf e:=slices_full_of Tryd.prog (by kernel_rfl)
set_option maxRecDepth 100000 in
theorem lifted (os:Os) (started:os.Started) (H:Type) (enc:TypeId×Value->H) :
 ReturnsInHanded {} Tryd.checked os 3 .any (fun w args=>(Rows.acceptorNamesSpec.pre enc Tryd.prog Tryd.f3 [] false w args/\laidMetH Tryd.prog laidX w)/\sizedMet enc Tryd.prog Tryd.f3 (OpenSpec.ofChange Rows.acceptorNamesSpec) false w args) (Rows.acceptorNamesSpec.post enc Tryd.prog Tryd.f3 false true false false):=by
 refine returnsInHanded_of_change_and (C:=Tryd.checked) (X:=fun w _=>laidMetH Tryd.prog laidX w) (fun _ _ _ hh h=>h.of_heap hh) own started (by kernel_rfl) Tryd.func3
  (ChangeSpec.witness_shaped (enc:=enc) (C:=Tryd.checked) (os:=os) (X:=fun w _=>laidMetH Tryd.prog laidX w) false (laidW os) #[] 8 rfl (laid_shaped os _) (by kernel_rfl) (by kernel_rfl) (by kernel_rfl) (laid_met os _)) ?_
 intro W base args ds gs before hval0 hW hcnd hwt _ _
 have hval:∀(j:Nat) t v,Tryd.f3.params[j]? =some t->args[j]? =some v->Value.okWide Tryd.prog W .any base t v:=hval0
 have hW':=hW
 obtain ⟨p,q,hA0,hV,rfl,hfz,hnd⟩:=hW
 have hA:DataW.TrodAll enc Tryd.prog W 0 (fun _=>true) true Tryd.f3.params.toList args.toList ds p:=hA0
 rw [Tryd.params3] at hA hval
 have hwt:(DataW.weightsEach Tryd.prog (Tryd.f3.params.toList ++ Rows.acceptorNamesSpec.plain.varTypes Tryd.prog) (ds ++ gs)).all (·<=reachBytes)=true:=hwt
 rw [Tryd.params3] at hwt
 have hAA:=hA
 obtain ⟨rfl,rfl,rfl⟩:=trodAll_none hA
 obtain ⟨rfl,rfl⟩:=trodVars_none hV
 clear hA0 hval0
 simp only [List.append_nil] at hW'
 refine (con_kept (args:=[]) Go.Proofs.Cl.names_con .nil).mono fun e W' ⟨he,hg⟩=>?_
 subst he
 exact ⟨_,rfl,post_of_kept (pa:=[]) (pv:=[]) hW' (fun _ _ _=>(trodAll_cons_mk (shut_bool Tryd.underlying4 _) trodAll_mk0)) (fun sp _=>rfl) (fun _ _=>rfl) rfl
  hg (ok_one (by kernel_rfl) rfl (okWide_bool_mk Tryd.underlying4 _))⟩
theorem over:Rows.acceptorNamesRow.holds Tryd.pinned (OpenSpec.ofChange Rows.acceptorNamesSpec):=
 OpenClaim.holds_of_wide 3 Tryd.f3 rfl rfl rfl rfl rfl rfl rfl ⟨rfl,rfl,rfl,rfl,rfl⟩ rfl rfl rfl rfl rfl (by kernel_rfl) Tryd.func3 (by kernel_rfl)
  (of_decide_eq_true (by kernel_rfl)) (by unfold Func.isWrapper;first | (rw [if_pos (by decide +kernel)];kernel_rfl) | (rw [if_neg (by decide +kernel)];exact ⟨rfl,rfl⟩))
  (fun os started H enc _=>lifted os started H enc)
theorem proved:Rows.AcceptorNamesCardSaid:=
 Claim7.holds_tied_plain_at .later [] [.data,.pinned] true (true,"c3fd75fab1340dfed1b0fb1b6ebba36715c3ee8bed9658070afdab33ae2f02b1") false
  over (fun _ h=>by cases h) (by kernel_rfl) (fun _ h=>by cases h) acceptorNames_row_tie rfl ⟨rfl,rfl⟩ (by kernel_rfl) rfl
  (fun f fn hf hfn=>by
    obtain rfl:f=3:=Option.some.inj ((show Tryd.prog.funcNamed "lagoon/lagoonlaw11.AcceptorNames"=some 3 by kernel_rfl).symm.trans hf) |>.symm
    obtain rfl:fn=Tryd.f3:=(Option.some.inj (Tryd.func3.symm.trans hfn)).symm
    exact ⟨by kernel_rfl,fun j t ht=>by
     rw [Tryd.params3] at ht
     exact absurd ht (by simp)⟩)
  (by kernel_rfl)
end Go.Proofs.YthhjjpofenjknaaDoor.acceptorNames
