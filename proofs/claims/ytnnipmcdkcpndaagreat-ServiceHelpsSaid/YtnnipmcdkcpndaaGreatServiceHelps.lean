/- 'ServiceHelps' returns true for whatever arguments the statement lets in, in whatever world it is called; no condition of its own. -/
import Derived.Test.YtnnipmcdkcpndaaGreatRowA
import Derived.Test.YtnnipmcdkcpndaaGreatRows
import Derived.SizedLaws
noncomputable section
open Int (ofNat)
set_option linter.unusedSimpArgs false
set_option linter.unusedVariables false
/- 'ServiceHelps' returns true for whatever arguments the statement lets in, in whatever world it is called; no condition of its own. -/
namespace Go.Proofs.YtnnipmcdkcpndaaGreat.serviceHelps
open Go.ChangeShapes Go.WideShapes Go.ChangeAt Go.RowKit Go.Sim
theorem own:ownKnob Tryz.prog.godebug=none:=by kernel_rfl
theorem kids:Kids Tryz.prog (·<Tryz.prog.types.size):=kids_rows (by kernel_rfl) (by kernel_rfl)
theorem full:∀t e,t<Tryz.prog.types.size->Tryz.prog.underlying t=some (.slice e)->0<Tryz.prog.cellsOf e:=slices_full_of Tryz.prog (by kernel_rfl)
theorem rowed:∀t∈[55,3],t<Tryz.prog.types.size:=by
 have h:([55,3].all fun t=>decide (t<Tryz.prog.types.size))=true:=by kernel_rfl
 intro t ht
 simpa using List.all_eq_true.1 h t ht
set_option maxRecDepth 100000 in
theorem lifted (os:Os) (started:os.Started) (H:Type) (enc:TypeId×Value->H) :
 ReturnsInHanded {} Tryz.checked os 11 .any (Rows.serviceHelpsSpec.pre6 enc Tryz.prog Tryz.f11 Rows.serviceHelpsRow.domain false) (Rows.serviceHelpsSpec.post enc Tryz.prog Tryz.f11 false true false false):=by
 refine returnsInHanded_of_change_sized (C:=Tryz.checked) own started (by kernel_rfl) Tryz.func11
  (ChangeSpec.witness6 (enc:=enc) (C:=Tryz.checked) false ⟨#[],#[.slice none 0 0,.int .i64 0],[]⟩ 8 (by kernel_rfl) (by kernel_rfl) (by kernel_rfl) (by kernel_rfl)) ?_
 intro W base args ds gs before hval0 hW hcnd hwt _
 have hval:∀(j:Nat) t v,Tryz.f11.params[j]? =some t->args[j]? =some v->Value.okWide Tryz.prog W .any base t v:=hval0
 have hW':=hW
 obtain ⟨p,q,hA0,hV,rfl,hfz,hnd⟩:=hW
 have hA:DataW.TrodAll enc Tryz.prog W 0 (fun _=>true) true Tryz.f11.params.toList args.toList ds p:=hA0
 rw [Tryz.params11] at hA hval
 have hwt:(DataW.weightsEach Tryz.prog (Tryz.f11.params.toList ++ Rows.serviceHelpsSpec.plain.varTypes Tryz.prog) (ds ++ gs)).all (·<=reachBytes)=true:=hwt
 rw [Tryz.params11] at hwt
 have hAA:=hA
 obtain ⟨v1,v2,d1,d2,p1,p2,rfl,rfl,rfl,t1,t2⟩:=trodAll_two hA
 obtain ⟨rfl,rfl⟩:=trodVars_none hV
 clear hA0 hval0
 obtain ⟨f2,hv3,hs2⟩:=arg_shp 4 (by kernel_rfl) (hval 0 55 _ rfl rfl) t1 (weigh hwt (i:=0) rfl rfl)
 obtain ⟨n,C,e1,hC,hL⟩:=Go.Proofs.Sv.shpCmds hs2
 have hv4:=hv3 (fun _=>.sv 10 n (Go.Proofs.Sv.cmF C)) (fun j hj=>by
  have q:Tryz.prog.cellsOf 55=1:=by kernel_rfl
  rw [q] at hj
  obtain rfl:j=0:=by omega
  exact e1)
 have ha:argAV Tryz.prog 55 (fun _=>.sv 10 n (Go.Proofs.Sv.cmF C))=.sv 10 n (Go.Proofs.Sv.cmF C):=by kernel_rfl
 rw [ha] at hv4
 obtain ⟨f,hv,hs⟩:=arg_shp 1 (by kernel_rfl) (hval 1 3 _ rfl rfl) t2 (weigh hwt (i:=1) rfl rfl)
 obtain ⟨sv,e0,_⟩:=Shp.int 0 rfl hs Go.Proofs.Sv.u3
 have hv2:=hv (fun _=>.i .i64 sv) (fun j hj=>by
  have c:Tryz.prog.cellsOf 3=1:=by kernel_rfl
  rw [c] at hj
  obtain rfl:j=0:=by omega
  exact .of e0)
 have ha0:argAV Tryz.prog 3 (fun _=>.i .i64 sv)=.i .i64 sv:=by kernel_rfl
 rw [ha0] at hv2
 have hr:reachBytes=140737488351232:=rfl
 simp only [List.append_nil] at hW'
 refine (con_kept (args:=[v1,v2]) (Go.Proofs.Sv.law11_con n (by omega) C hC sv) (.cons _ _ _ _ hv4 (.cons _ _ _ _ hv2 .nil))).mono fun e W' ⟨he,hg⟩=>?_
 subst he
 exact ⟨_,rfl,post_of_kept (pv:=[]) hW' (fun _ _ _=>(trodAll_cons_mk (shut_bool Tryz.underlying4 _) trodAll_mk0))
  (fun sp hsp=>args_again hg kids full rowed hAA (by simpa using hsp)) (fun _ _=>rfl) (by simp)
  hg (ok_one (by kernel_rfl) rfl (okWide_bool_mk Tryz.underlying4 _))⟩
theorem over:Rows.serviceHelpsRow.holds Tryz.pinned (OpenSpec.ofChange Rows.serviceHelpsSpec):=
 OpenClaim.holds_of_wide 11 Tryz.f11 rfl rfl rfl rfl rfl rfl rfl ⟨rfl,rfl,rfl,rfl,rfl⟩ rfl rfl rfl rfl rfl (by kernel_rfl) Tryz.func11 (by kernel_rfl)
  (of_decide_eq_true (by kernel_rfl)) (by unfold Func.isWrapper;first | (rw [if_pos (by decide +kernel)];kernel_rfl) | (rw [if_neg (by decide +kernel)];exact ⟨rfl,rfl⟩))
  (fun os started H enc _=>lifted os started H enc)
theorem proved:Rows.ServiceHelpsSaid:=
 over
end Go.Proofs.YtnnipmcdkcpndaaGreat.serviceHelps
