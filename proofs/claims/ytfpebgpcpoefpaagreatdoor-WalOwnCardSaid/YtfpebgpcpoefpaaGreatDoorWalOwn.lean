/- 'WalOwn' returns true for whatever arguments the statement lets in, in whatever world it is called; no condition of its own. -/
import Derived.Test.YtfpebgpcpoefpaaGreatDoorRowA
import Derived.SevenTiedAt
noncomputable section
open Int (ofNat)
set_option linter.unusedSimpArgs false
set_option linter.unusedVariables false
namespace Go.Proofs.YtfpebgpcpoefpaaGreatDoor.walOwn
open Go.ChangeShapes Go.WideShapes Go.ChangeAt Go.RowKit Go.Sim
theorem own:ownKnob Tryz.prog.godebug=none:=by kernel_rfl
theorem kids:Kids Tryz.prog (·<Tryz.prog.types.size):=kids_rows (by kernel_rfl) (by kernel_rfl)
theorem full:∀t e,t<Tryz.prog.types.size->Tryz.prog.underlying t=some (.slice e)->0<Tryz.prog.cellsOf e:=slices_full_of Tryz.prog (by kernel_rfl)
theorem rowed:∀t∈[39,39],t<Tryz.prog.types.size:=by
 have h:([39,39].all fun t=>decide (t<Tryz.prog.types.size))=true:=by kernel_rfl
 intro t ht
 simpa using List.all_eq_true.1 h t ht
set_option maxRecDepth 100000 in
theorem lifted (os:Os) (started:os.Started) (H:Type) (enc:TypeId×Value->H) :
 ReturnsInHanded {} Tryz.checked os 5 .any (fun w args=>(Rows.walOwnSpec.pre enc Tryz.prog Tryz.f5 [] false w args/\laidMetH Tryz.prog laidX w)/\sizedMet enc Tryz.prog Tryz.f5 (OpenSpec.ofChange Rows.walOwnSpec) false w args) (Rows.walOwnSpec.post enc Tryz.prog Tryz.f5 false true false false):=by
 refine returnsInHanded_of_change_and (C:=Tryz.checked) (X:=fun w _=>laidMetH Tryz.prog laidX w) (fun _ _ _ hh h=>h.of_heap hh) own started (by kernel_rfl) Tryz.func5
  (ChangeSpec.witness_shaped (enc:=enc) (C:=Tryz.checked) (os:=os) (X:=fun w _=>laidMetH Tryz.prog laidX w) false (laidW os) #[.slice none 0 0,.slice none 0 0] 8 rfl (laid_shaped os _) (by kernel_rfl) (by kernel_rfl) (by kernel_rfl) (laid_met os _)) ?_
 intro W base args ds gs before hval0 hW hcnd hwt _ _
 have hval:∀(j:Nat) t v,Tryz.f5.params[j]? =some t->args[j]? =some v->Value.okWide Tryz.prog W .any base t v:=hval0
 have hW':=hW
 obtain ⟨p,q,hA0,hV,rfl,hfz,hnd⟩:=hW
 have hA:DataW.TrodAll enc Tryz.prog W 0 (fun _=>true) true Tryz.f5.params.toList args.toList ds p:=hA0
 rw [Tryz.params5] at hA hval
 have hwt:(DataW.weightsEach Tryz.prog (Tryz.f5.params.toList ++ Rows.walOwnSpec.plain.varTypes Tryz.prog) (ds ++ gs)).all (·<=reachBytes)=true:=hwt
 rw [Tryz.params5] at hwt
 have hAA:=hA
 obtain ⟨v1,v2,d1,d2,p1,p2,rfl,rfl,rfl,t1,t2⟩:=trodAll_two hA
 obtain ⟨rfl,rfl⟩:=trodVars_none hV
 clear hA0 hval0
 obtain ⟨g1,hv1,hs1⟩:=arg_shp 4 (by kernel_rfl) (hval 0 39 _ rfl rfl) t1 (weigh hwt (i:=0) rfl rfl)
 obtain ⟨g2,hv2,hs2⟩:=arg_shp 4 (by kernel_rfl) (hval 1 39 _ rfl rfl) t2 (weigh hwt (i:=1) rfl rfl)
 obtain ⟨L,B,V,D,e1,hr,hD⟩:=Go.Proofs.Ly.shpUps hs1
 obtain ⟨L',B',V',D',e2,hr',hD'⟩:=Go.Proofs.Ly.shpUps hs2
 have c39:Tryz.prog.cellsOf 39=1:=by kernel_rfl
 have hv1:=hv1 (fun _=>.sv 3 L (Go.Proofs.Ly.uF B V D)) (fun j hj=>by
  rw [c39] at hj
  obtain rfl:j=0:=by omega
  exact e1)
 have hv2:=hv2 (fun _=>.sv 3 L' (Go.Proofs.Ly.uF B' V' D')) (fun j hj=>by
  rw [c39] at hj
  obtain rfl:j=0:=by omega
  exact e2)
 have ha1:argAV Tryz.prog 39 (fun _=>.sv 3 L (Go.Proofs.Ly.uF B V D))=.sv 3 L (Go.Proofs.Ly.uF B V D):=by kernel_rfl
 have ha2:argAV Tryz.prog 39 (fun _=>.sv 3 L' (Go.Proofs.Ly.uF B' V' D'))=.sv 3 L' (Go.Proofs.Ly.uF B' V' D'):=by kernel_rfl
 rw [ha1] at hv1
 rw [ha2] at hv2
 have hrb:reachBytes=140737488351232:=by decide
 have hr5:L<=4500000000000:=by omega
 have hr6:L'<=4500000000000:=by omega
 simp only [List.append_nil] at hW'
 refine (con_kept (args:=[v1,v2]) (Go.Proofs.Ly.walOwn_con L L' B V D B' V' D' hr5 hr6 hD hD') (.cons _ _ _ _ hv1 (.cons _ _ _ _ hv2 .nil))).mono fun e W' ⟨he,hg⟩=>?_
 subst he
 exact ⟨_,rfl,post_of_kept (pv:=[]) hW' (fun _ _ _=>(trodAll_cons_mk (shut_bool Tryz.underlying4 _) trodAll_mk0))
  (fun sp hsp=>args_again hg kids full rowed hAA (by simpa using hsp)) (fun _ _=>rfl) (by simp)
  hg (ok_one (by kernel_rfl) rfl (okWide_bool_mk Tryz.underlying4 _))⟩
theorem over:Rows.walOwnRow.holds Tryz.pinned (OpenSpec.ofChange Rows.walOwnSpec):=
 OpenClaim.holds_of_wide 5 Tryz.f5 rfl rfl rfl rfl rfl rfl rfl ⟨rfl,rfl,rfl,rfl,rfl⟩ rfl rfl rfl rfl rfl (by kernel_rfl) Tryz.func5 (by kernel_rfl)
  (of_decide_eq_true (by kernel_rfl)) (by unfold Func.isWrapper;first | (rw [if_pos (by decide +kernel)];kernel_rfl) | (rw [if_neg (by decide +kernel)];exact ⟨rfl,rfl⟩))
  (fun os started H enc _=>lifted os started H enc)
theorem proved:Rows.WalOwnCardSaid:=
 Claim7.holds_tied_plain_at .later [] [.data,.pinned] true (true,"82bc5ecff8f0d273e5ee93960b564bdcf0cbff42c3e45ad1b454e953d7928b79") false
  over (fun _ h=>by cases h) (by kernel_rfl) (fun _ h=>by cases h) walOwn_row_tie rfl ⟨rfl,rfl⟩ (by kernel_rfl) rfl
  (fun f fn hf hfn=>by
    obtain rfl:f=5:=Option.some.inj ((show Tryz.prog.funcNamed "lagoon/lagoonlaw15.WalOwn"=some 5 by kernel_rfl).symm.trans hf) |>.symm
    obtain rfl:fn=Tryz.f5:=(Option.some.inj (Tryz.func5.symm.trans hfn)).symm
    exact ⟨by kernel_rfl,fun j t ht=>by
     rw [Tryz.params5] at ht
     have hm:t∈[39,39]:=by simpa using Array.mem_of_getElem? ht
     have hall:([39,39].all fun u=>!Tryz.prog.wantsStandIn u)=true:=by kernel_rfl
     exact (show Tryz.prog.wantsStandIn t=false by simpa using List.all_eq_true.1 hall t hm)⟩)
  (by kernel_rfl)
end Go.Proofs.YtfpebgpcpoefpaaGreatDoor.walOwn
