/- 'LayoutDecodes' returns true for whatever arguments the statement lets in, in whatever world it is called; no condition of its own. -/
import Derived.Test.YtjhcbjncdbmhoaaRowA
import Derived.Test.YtjhcbjncdbmhoaaRows
import Derived.SizedLaws
set_option linter.unusedSimpArgs false
set_option linter.unusedVariables false
/- 'LayoutDecodes' returns true for whatever arguments the statement lets in, in whatever world it is called; no condition of its own. -/
namespace Go.Proofs.Ytjhcbjncdbmhoaa.layoutDecodes
open Go.ChangeShapes Go.WideShapes Go.ChangeAt Go.RowKit Go.Sim
theorem own:ownKnob Try.prog.godebug=none:=by kernel_rfl
theorem kids:Kids Try.prog (·<Try.prog.types.size):=kids_rows (by kernel_rfl) (by kernel_rfl)
theorem full:∀t e,t<Try.prog.types.size->Try.prog.underlying t=some (.slice e)->0<Try.prog.cellsOf e:=slices_full_of Try.prog (by kernel_rfl)
theorem rowed:∀t∈[9],t<Try.prog.types.size:=by
 have h:([9].all fun t=>decide (t<Try.prog.types.size))=true:=by kernel_rfl
 intro t ht
 simpa using List.all_eq_true.1 h t ht
set_option maxRecDepth 100000 in
theorem lifted (os:Os) (started:os.Started) (H:Type) (enc:TypeId×Value->H) :
 ReturnsInHanded {} Try.checked os 5 .any (Rows.layoutDecodesSpec.pre6 enc Try.prog Try.f5 Rows.layoutDecodesRow.domain false) (Rows.layoutDecodesSpec.post enc Try.prog Try.f5 false true false false):=by
 refine returnsInHanded_of_change_sized (C:=Try.checked) own started (by kernel_rfl) Try.func5
  (ChangeSpec.witness6 (enc:=enc) (C:=Try.checked) false ⟨#[],#[.string ⟨#[]⟩],[]⟩ 8 (by kernel_rfl) (by kernel_rfl) (by kernel_rfl) (by kernel_rfl)) ?_
 intro W base args ds gs before hval0 hW hcnd hwt _
 have hval:∀(j:Nat) t v,Try.f5.params[j]? =some t->args[j]? =some v->Value.okWide Try.prog W .any base t v:=hval0
 have hW':=hW
 obtain ⟨p,q,hA0,hV,rfl,hfz,hnd⟩:=hW
 have hA:DataW.TrodAll enc Try.prog W 0 (fun _=>true) true Try.f5.params.toList args.toList ds p:=hA0
 rw [Try.params5] at hA hval
 have hwt:(DataW.weightsEach Try.prog (Try.f5.params.toList ++ Rows.layoutDecodesSpec.plain.varTypes Try.prog) (ds ++ gs)).all (·<=reachBytes)=true:=hwt
 rw [Try.params5] at hwt
 have hAA:=hA
 obtain ⟨v1,d1,rfl,rfl,t1⟩:=trodAll_one hA
 obtain ⟨rfl,rfl⟩:=trodVars_none hV
 clear hA0 hval0
 obtain ⟨f,hv,hs⟩:=arg_shp 1 (by kernel_rfl) (hval 0 9 _ rfl rfl) t1 (weigh hwt (i:=0) rfl rfl)
 obtain ⟨s,e0,hb,_,hl⟩:=Shp.string 0 rfl hs Go.Proofs.Ly.u9
 have hv1:=hv (fun _=>.s s) (fun j hj=>by
  have c9:Try.prog.cellsOf 9=1:=by kernel_rfl
  rw [c9] at hj
  obtain rfl:j=0:=by omega
  exact .of e0)
 have ha:argAV Try.prog 9 (fun _=>.s s)=.s s:=by kernel_rfl
 rw [ha] at hv1
 simp only [List.append_nil] at hW'
 refine (con_kept (args:=[v1]) (Go.Proofs.Ly.dec5_con s hb hl) (.cons _ _ _ _ hv1 .nil)).mono fun e W' ⟨he,hg⟩=>?_
 subst he
 exact ⟨_,rfl,post_of_kept (pv:=[]) hW' (fun _ _ _=>(trodAll_cons_mk (shut_bool Try.underlying4 _) trodAll_mk0))
  (fun sp hsp=>args_again hg kids full rowed hAA (by simpa using hsp)) (fun _ _=>rfl) (by simp)
  hg (ok_one (by kernel_rfl) rfl (okWide_bool_mk Try.underlying4 _))⟩
theorem over:Rows.layoutDecodesRow.holds Try.pinned (OpenSpec.ofChange Rows.layoutDecodesSpec):=
 OpenClaim.holds_of_wide 5 Try.f5 rfl rfl rfl rfl rfl rfl rfl ⟨rfl,rfl,rfl,rfl,rfl⟩ rfl rfl rfl rfl rfl (by kernel_rfl) Try.func5 (by kernel_rfl)
  (of_decide_eq_true (by kernel_rfl)) (by unfold Func.isWrapper;first | (rw [if_pos (by decide +kernel)];kernel_rfl) | (rw [if_neg (by decide +kernel)];exact ⟨rfl,rfl⟩))
  (fun os started H enc _=>lifted os started H enc)
theorem proved:Rows.LayoutDecodesSaid:=
 over
end Go.Proofs.Ytjhcbjncdbmhoaa.layoutDecodes
