/- 'JournalRaw' returns true for whatever arguments the statement lets in, in whatever world it is called; no condition of its own. -/
import Derived.Test.YtbilafnamckglaaDoorRowA
import Derived.SevenTiedAt
noncomputable section
open Int (ofNat)
set_option linter.unusedSimpArgs false
set_option linter.unusedVariables false
/- 'JournalRaw' returns true for whatever arguments the statement lets in, in whatever world it is called; no condition of its own. -/
namespace Go.Proofs.YtbilafnamckglaaDoor.journalRaw
open Go.ChangeShapes Go.WideShapes Go.ChangeAt Go.RowKit Go.Sim
theorem own:ownKnob Tryd.prog.godebug=none:=by kernel_rfl
theorem kids:Kids Tryd.prog (·<Tryd.prog.types.size):=kids_rows (by kernel_rfl) (by kernel_rfl)
theorem full:∀t e,t<Tryd.prog.types.size→Tryd.prog.underlying t=some (.slice e)→0<Tryd.prog.cellsOf e:=slices_full_of Tryd.prog (by kernel_rfl)
theorem rowed:∀t∈[27,38],t<Tryd.prog.types.size:=by
 have h:([27,38].all fun t=>decide (t<Tryd.prog.types.size))=true:=by kernel_rfl
 intro t ht
 simpa using List.all_eq_true.1 h t ht
set_option maxRecDepth 100000 in
theorem lifted (os:Os) (started:os.Started) (H:Type) (enc:TypeId×Value→H) :
 ReturnsInHanded {} Tryd.checked os 5 .any (fun w args=>(Rows.journalRawSpec.pre enc Tryd.prog Tryd.f5 [] false w args∧laidMetH Tryd.prog laidX w)∧sizedMet enc Tryd.prog Tryd.f5 (OpenSpec.ofChange Rows.journalRawSpec) false w args) (Rows.journalRawSpec.post enc Tryd.prog Tryd.f5 false true false false):=by
 refine returnsInHanded_of_change_and (C:=Tryd.checked) (X:=fun w _=>laidMetH Tryd.prog laidX w) (fun _ _ _ hh h=>h.of_heap hh) own started (by kernel_rfl) Tryd.func5
  (ChangeSpec.witness_shaped (enc:=enc) (C:=Tryd.checked) (os:=os) (X:=fun w _=>laidMetH Tryd.prog laidX w) false (laidW os) #[.slice none 0 0,.slice none 0 0] 8 rfl (laid_shaped os _) (by kernel_rfl) (by kernel_rfl) (by kernel_rfl) (laid_met os _)) ?_
 intro W base args ds gs before hval0 hW hcnd hwt _ _
 have hval:∀(j:Nat) t v,Tryd.f5.params[j]? =some t→args[j]? =some v→Value.okWide Tryd.prog W .any base t v:=hval0
 have hW':=hW
 obtain ⟨p,q,hA0,hV,rfl,hfz,hnd⟩:=hW
 have hA:DataW.TrodAll enc Tryd.prog W 0 (fun _=>true) true Tryd.f5.params.toList args.toList ds p:=hA0
 rw [Tryd.params5] at hA hval
 have hwt:(DataW.weightsEach Tryd.prog (Tryd.f5.params.toList ++ Rows.journalRawSpec.plain.varTypes Tryd.prog) (ds ++ gs)).all (·≤reachBytes)=true:=hwt
 rw [Tryd.params5] at hwt
 have hAA:=hA
 obtain ⟨v1,v2,d1,d2,p1,p2,rfl,rfl,rfl,t1,t2⟩:=trodAll_two hA
 obtain ⟨rfl,rfl⟩:=trodVars_none hV
 clear hA0 hval0
 obtain ⟨g1,hv1,hs1⟩:=arg_shp 3 (by kernel_rfl) (hval 0 27 _ rfl rfl) t1 (weigh hwt (i:=0) rfl rfl)
 obtain ⟨N,ll,bb,e1,hbb,hll,hN⟩:=Go.Proofs.Jn.shpRecs hs1
 have c27:Tryd.prog.cellsOf 27=1:=by kernel_rfl
 have hv1:=hv1 (fun _=>.sv 1 N (Go.Proofs.Jn.recF ll bb)) (fun j hj=>by
  rw [c27] at hj
  obtain rfl:j=0:=by omega
  exact e1)
 have ha1:argAV Tryd.prog 27 (fun _=>.sv 1 N (Go.Proofs.Jn.recF ll bb))=.sv 1 N (Go.Proofs.Jn.recF ll bb):=by kernel_rfl
 rw [ha1] at hv1
 obtain ⟨g2,hv2,hs2⟩:=arg_shp 2 (by kernel_rfl) (hval 1 38 _ rfl rfl) t2 (weigh hwt (i:=1) rfl rfl)
 obtain ⟨L,bs,e2,hb,hL⟩:=Go.Proofs.Jn.shpBytesJ hs2
 have c38:Tryd.prog.cellsOf 38=1:=by kernel_rfl
 have hv2:=hv2 (fun _=>.sv 1 L (Go.Proofs.Cd.byF bs)) (fun j hj=>by
  rw [c38] at hj
  obtain rfl:j=0:=by omega
  exact e2)
 have ha2:argAV Tryd.prog 38 (fun _=>.sv 1 L (Go.Proofs.Cd.byF bs))=.sv 1 L (Go.Proofs.Cd.byF bs):=by kernel_rfl
 rw [ha2] at hv2
 have hr:reachBytes=140737488351232:=rfl
 simp only [List.append_nil] at hW'
 refine (con_kept (args:=[v1,v2]) (Go.Proofs.Jn.raw_law N L ll bs bb (by omega) (fun i _=>by have:=hll i;omega) hbb (by omega) hb) (.cons _ _ _ _ hv1 (.cons _ _ _ _ hv2 .nil))).mono fun e W' ⟨he,hg⟩=>?_
 subst he
 exact ⟨_,rfl,post_of_kept (pv:=[]) hW' (fun _ _ _=>(trodAll_cons_mk (shut_bool Tryd.underlying4 _) trodAll_mk0))
  (fun sp hsp=>args_again hg kids full rowed hAA (by simpa using hsp)) (fun _ _=>rfl) (by simp)
  hg (ok_one (by kernel_rfl) rfl (okWide_bool_mk Tryd.underlying4 _))⟩
theorem over:Rows.journalRawRow.holds Tryd.pinned (OpenSpec.ofChange Rows.journalRawSpec):=
 OpenClaim.holds_of_wide 5 Tryd.f5 rfl rfl rfl rfl rfl rfl rfl ⟨rfl,rfl,rfl,rfl,rfl⟩ rfl rfl rfl rfl rfl (by kernel_rfl) Tryd.func5 (by kernel_rfl)
  (of_decide_eq_true (by kernel_rfl)) (by unfold Func.isWrapper;first | (rw [if_pos (by decide +kernel)];kernel_rfl) | (rw [if_neg (by decide +kernel)];exact ⟨rfl,rfl⟩))
  (fun os started H enc _=>lifted os started H enc)
theorem proved:Rows.JournalRawCardSaid:=
 Claim7.holds_tied_plain_at .later [] [.data,.pinned] true (true,"d3225863bfac529f6166fbee9d40afdac403543daadfad5a0821fde75eed35c5") false
  over (fun _ h=>by cases h) (by kernel_rfl) (fun _ h=>by cases h) journalRaw_row_tie rfl ⟨rfl,rfl⟩ (by kernel_rfl) rfl
  (fun f fn hf hfn=>by
    obtain rfl:f=5:=Option.some.inj ((show Tryd.prog.funcNamed "lagoon/lagoonlaw05.JournalRaw"=some 5 by kernel_rfl).symm.trans hf) |>.symm
    obtain rfl:fn=Tryd.f5:=(Option.some.inj (Tryd.func5.symm.trans hfn)).symm
    exact ⟨by kernel_rfl,fun j t ht=>by
     rw [Tryd.params5] at ht
     have hm:t∈[27,38]:=by simpa using Array.mem_of_getElem? ht
     have hall:([27,38].all fun u=>!Tryd.prog.wantsStandIn u)=true:=by kernel_rfl
     exact (show Tryd.prog.wantsStandIn t=false by simpa using List.all_eq_true.1 hall t hm)⟩)
  (by kernel_rfl)
end Go.Proofs.YtbilafnamckglaaDoor.journalRaw
