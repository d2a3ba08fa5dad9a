/- 'AcceptorNever' returns true for whatever arguments the statement lets in, in whatever world it is called; no condition of its own. -/
import Derived.Test.YthhjjpofenjknaaDoorRowA
import Derived.SevenTiedAt
noncomputable section
open Int (ofNat)
set_option linter.unusedSimpArgs false
set_option linter.unusedVariables false
/- 'AcceptorNever' returns true for whatever arguments the statement lets in, in whatever world it is called; no condition of its own. -/
namespace Go.Proofs.YthhjjpofenjknaaDoor.acceptorNever
open Go.ChangeShapes Go.WideShapes Go.ChangeAt Go.RowKit Go.Sim
theorem own:ownKnob Tryd.prog.godebug=none:=by kernel_rfl
theorem kids:Kids Tryd.prog (·<Tryd.prog.types.size):=kids_rows (by kernel_rfl) (by kernel_rfl)
theorem full:∀t e,t<Tryd.prog.types.size->Tryd.prog.underlying t=some (.slice e)->0<Tryd.prog.cellsOf e:=slices_full_of Tryd.prog (by kernel_rfl)
theorem rowed:∀t∈[35],t<Tryd.prog.types.size:=by
 have h:([35].all fun t=>decide (t<Tryd.prog.types.size))=true:=by kernel_rfl
 intro t ht
 simpa using List.all_eq_true.1 h t ht
set_option maxRecDepth 100000 in
theorem lifted (os:Os) (started:os.Started) (H:Type) (enc:TypeId×Value->H) :
 ReturnsInHanded {} Tryd.checked os 4 .any (fun w args=>(Rows.acceptorNeverSpec.pre enc Tryd.prog Tryd.f4 [] false w args/\laidMetH Tryd.prog laidX w)/\sizedMet enc Tryd.prog Tryd.f4 (OpenSpec.ofChange Rows.acceptorNeverSpec) false w args) (Rows.acceptorNeverSpec.post enc Tryd.prog Tryd.f4 false true false false):=by
 refine returnsInHanded_of_change_and (C:=Tryd.checked) (X:=fun w _=>laidMetH Tryd.prog laidX w) (fun _ _ _ hh h=>h.of_heap hh) own started (by kernel_rfl) Tryd.func4
  (ChangeSpec.witness_shaped (enc:=enc) (C:=Tryd.checked) (os:=os) (X:=fun w _=>laidMetH Tryd.prog laidX w) false (laidW os) #[.slice none 0 0] 8 rfl (laid_shaped os _) (by kernel_rfl) (by kernel_rfl) (by kernel_rfl) (laid_met os _)) ?_
 intro W base args ds gs before hval0 hW hcnd hwt _ _
 have hval:∀(j:Nat) t v,Tryd.f4.params[j]? =some t->args[j]? =some v->Value.okWide Tryd.prog W .any base t v:=hval0
 have hW':=hW
 obtain ⟨p,q,hA0,hV,rfl,hfz,hnd⟩:=hW
 have hA:DataW.TrodAll enc Tryd.prog W 0 (fun _=>true) true Tryd.f4.params.toList args.toList ds p:=hA0
 rw [Tryd.params4] at hA hval
 have hwt:(DataW.weightsEach Tryd.prog (Tryd.f4.params.toList ++ Rows.acceptorNeverSpec.plain.varTypes Tryd.prog) (ds ++ gs)).all (·<=reachBytes)=true:=hwt
 rw [Tryd.params4] at hwt
 have hAA:=hA
 obtain ⟨v1,d1,rfl,rfl,t1⟩:=trodAll_one hA
 obtain ⟨rfl,rfl⟩:=trodVars_none hV
 clear hA0 hval0
 obtain ⟨g1,hv1,hs1⟩:=arg_shp 3 (by kernel_rfl) (hval 0 35 _ rfl rfl) t1 (weigh hwt (i:=0) rfl rfl)
 obtain ⟨N,KK,BB,ZZ,XX,TT,e1,hX,hZ⟩:=Go.Proofs.Cl.shpOpsA hs1
 have c35:Tryd.prog.cellsOf 35=1:=by kernel_rfl
 have hv1:=hv1 (fun _=>.sv 5 N (Go.Proofs.Cl.opF KK BB ZZ XX TT)) (fun j hj=>by
  rw [c35] at hj
  obtain rfl:j=0:=by omega
  exact e1)
 have ha1:argAV Tryd.prog 35 (fun _=>.sv 5 N (Go.Proofs.Cl.opF KK BB ZZ XX TT))=.sv 5 N (Go.Proofs.Cl.opF KK BB ZZ XX TT):=by kernel_rfl
 rw [ha1] at hv1
 have hr:reachBytes=140737488351232:=rfl
 simp only [List.append_nil] at hW'
 refine (con_kept (args:=[v1]) (Go.Proofs.Cl.never_con hZ hX) (.cons _ _ _ _ hv1 .nil)).mono fun e W' ⟨he,hg⟩=>?_
 subst he
 exact ⟨_,rfl,post_of_kept (pv:=[]) hW' (fun _ _ _=>(trodAll_cons_mk (shut_bool Tryd.underlying4 _) trodAll_mk0))
  (fun sp hsp=>args_again hg kids full rowed hAA (by simpa using hsp)) (fun _ _=>rfl) (by simp)
  hg (ok_one (by kernel_rfl) rfl (okWide_bool_mk Tryd.underlying4 _))⟩
theorem over:Rows.acceptorNeverRow.holds Tryd.pinned (OpenSpec.ofChange Rows.acceptorNeverSpec):=
 OpenClaim.holds_of_wide 4 Tryd.f4 rfl rfl rfl rfl rfl rfl rfl ⟨rfl,rfl,rfl,rfl,rfl⟩ rfl rfl rfl rfl rfl (by kernel_rfl) Tryd.func4 (by kernel_rfl)
  (of_decide_eq_true (by kernel_rfl)) (by unfold Func.isWrapper;first | (rw [if_pos (by decide +kernel)];kernel_rfl) | (rw [if_neg (by decide +kernel)];exact ⟨rfl,rfl⟩))
  (fun os started H enc _=>lifted os started H enc)
theorem proved:Rows.AcceptorNeverCardSaid:=
 Claim7.holds_tied_plain_at .later [] [.data,.pinned] true (true,"c3fd75fab1340dfed1b0fb1b6ebba36715c3ee8bed9658070afdab33ae2f02b1") false
  over (fun _ h=>by cases h) (by kernel_rfl) (fun _ h=>by cases h) acceptorNever_row_tie rfl ⟨rfl,rfl⟩ (by kernel_rfl) rfl
  (fun f fn hf hfn=>by
    obtain rfl:f=4:=Option.some.inj ((show Tryd.prog.funcNamed "lagoon/lagoonlaw11.AcceptorNever"=some 4 by kernel_rfl).symm.trans hf) |>.symm
    obtain rfl:fn=Tryd.f4:=(Option.some.inj (Tryd.func4.symm.trans hfn)).symm
    exact ⟨by kernel_rfl,fun j t ht=>by
     rw [Tryd.params4] at ht
     have hm:t∈[35]:=by simpa using Array.mem_of_getElem? ht
     have hall:([35].all fun u=>!Tryd.prog.wantsStandIn u)=true:=by kernel_rfl
     exact (show Tryd.prog.wantsStandIn t=false by simpa using List.all_eq_true.1 hall t hm)⟩)
  (by kernel_rfl)
end Go.Proofs.YthhjjpofenjknaaDoor.acceptorNever
