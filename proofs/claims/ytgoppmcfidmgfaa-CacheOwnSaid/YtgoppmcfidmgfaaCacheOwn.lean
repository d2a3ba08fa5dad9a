/- 'CacheOwn' returns true for whatever arguments the statement lets in, in whatever world it is called; no condition of its own. -/
import Derived.Test.YtgoppmcfidmgfaaRowA
import Derived.Test.YtgoppmcfidmgfaaRows
import Derived.SizedLaws
set_option linter.unusedSimpArgs false
set_option linter.unusedVariables false
/- 'CacheOwn' returns true for whatever arguments the statement lets in, in whatever world it is called; no condition of its own. -/
namespace Go.Proofs.Ytgoppmcfidmgfaa.cacheOwn
open Go.ChangeShapes Go.WideShapes Go.ChangeAt Go.RowKit Go.Sim
theorem own:ownKnob Try.prog.godebug=none:=by kernel_rfl
theorem kids:Kids Try.prog (·<Try.prog.types.size):=kids_rows (by kernel_rfl) (by kernel_rfl)
theorem full:∀t e,t<Try.prog.types.size->Try.prog.underlying t=some (.slice e)->0<Try.prog.cellsOf e:=slices_full_of Try.prog (by kernel_rfl)
theorem rowed:∀t∈[24,9],t<Try.prog.types.size:=by
 have h:([24,9].all fun t=>decide (t<Try.prog.types.size))=true:=by kernel_rfl
 intro t ht
 simpa using List.all_eq_true.1 h t ht
theorem argBlk (v:Int) (s:List Nat):argAV Try.prog 24 (fun j=>([CV.i .i64 v,CV.s s]).getD j .p0)=.agg [.i .i64 v,.s s]:=by kernel_rfl
set_option maxRecDepth 100000 in
theorem lifted (os:Os) (started:os.Started) (H:Type) (enc:TypeId×Value->H) :
 ReturnsInHanded {} Try.checked os 6 .any (Rows.cacheOwnSpec.pre6 enc Try.prog Try.f6 Rows.cacheOwnRow.domain false) (Rows.cacheOwnSpec.post enc Try.prog Try.f6 false true false false):=by
 refine returnsInHanded_of_change_sized (C:=Try.checked) own started (by kernel_rfl) Try.func6
  (ChangeSpec.witness6 (enc:=enc) (C:=Try.checked) false ⟨#[],#[.agg #[.int .i64 0,.string ⟨#[]⟩],.string ⟨#[]⟩],[]⟩ 8 (by kernel_rfl) (by kernel_rfl) (by kernel_rfl) (by kernel_rfl)) ?_
 intro W base args ds gs before hval0 hW hcnd hwt _
 have hval:∀(j:Nat) t v,Try.f6.params[j]? =some t->args[j]? =some v->Value.okWide Try.prog W .any base t v:=hval0
 have hW':=hW
 obtain ⟨p,q,hA0,hV,rfl,hfz,hnd⟩:=hW
 have hA:DataW.TrodAll enc Try.prog W 0 (fun _=>true) true Try.f6.params.toList args.toList ds p:=hA0
 rw [Try.params6] at hA hval
 have hwt:(DataW.weightsEach Try.prog (Try.f6.params.toList ++ Rows.cacheOwnSpec.plain.varTypes Try.prog) (ds ++ gs)).all (·<=reachBytes)=true:=hwt
 rw [Try.params6] at hwt
 have hAA:=hA
 obtain ⟨v1,v2,d1,d2,p1,p2,rfl,rfl,rfl,t1,t2⟩:=trodAll_two hA
 obtain ⟨rfl,rfl⟩:=trodVars_none hV
 clear hA0 hval0
 obtain ⟨f2,hv3,hs2⟩:=arg_shp 2 (by kernel_rfl) (hval 0 24 _ rfl rfl) t1 (weigh hwt (i:=0) rfl rfl)
 obtain ⟨bv,bs,e1,e2,hb1,_⟩:=Go.Proofs.Ly.shpBlk (d:=0) (o:=0) (f:=f2) (by simpa only [Nat.zero_add] using hs2)
 have hv1:=hv3 (fun j=>([CV.i .i64 bv,CV.s bs]).getD j .p0) (fun j hj=>by
  have c:Try.prog.cellsOf 24=2:=by kernel_rfl
  rw [c] at hj
  match j,hj with
  | 0,_=>exact .of e1
  | 1,_=>exact .of e2)
 rw [argBlk] at hv1
 obtain ⟨f3,hv4,hs3⟩:=arg_shp 1 (by kernel_rfl) (hval 1 9 _ rfl rfl) t2 (weigh hwt (i:=1) rfl rfl)
 obtain ⟨s,e3,hb,_,hl⟩:=Shp.string 0 rfl hs3 Go.Proofs.Ly.u9
 have hv2:=hv4 (fun _=>.s s) (fun j hj=>by
  have c9:Try.prog.cellsOf 9=1:=by kernel_rfl
  rw [c9] at hj
  obtain rfl:j=0:=by omega
  exact .of e3)
 have ha:argAV Try.prog 9 (fun _=>.s s)=.s s:=by kernel_rfl
 rw [ha] at hv2
 simp only [List.append_nil] at hW'
 refine (con_kept (args:=[v1,v2]) (Go.Proofs.Ly.cacheOwn_con bv bs s hb) (.cons _ _ _ _ hv1 (.cons _ _ _ _ hv2 .nil))).mono fun e W' ⟨he,hg⟩=>?_
 subst he
 exact ⟨_,rfl,post_of_kept (pv:=[]) hW' (fun _ _ _=>(trodAll_cons_mk (shut_bool Try.underlying4 _) trodAll_mk0))
  (fun sp hsp=>args_again hg kids full rowed hAA (by simpa using hsp)) (fun _ _=>rfl) (by simp)
  hg (ok_one (by kernel_rfl) rfl (okWide_bool_mk Try.underlying4 _))⟩
theorem over:Rows.cacheOwnRow.holds Try.pinned (OpenSpec.ofChange Rows.cacheOwnSpec):=
 OpenClaim.holds_of_wide 6 Try.f6 rfl rfl rfl rfl rfl rfl rfl ⟨rfl,rfl,rfl,rfl,rfl⟩ rfl rfl rfl rfl rfl (by kernel_rfl) Try.func6 (by kernel_rfl)
  (of_decide_eq_true (by kernel_rfl)) (by unfold Func.isWrapper;first | (rw [if_pos (by decide +kernel)];kernel_rfl) | (rw [if_neg (by decide +kernel)];exact ⟨rfl,rfl⟩))
  (fun os started H enc _=>lifted os started H enc)
theorem proved:Rows.CacheOwnSaid:=
 over
end Go.Proofs.Ytgoppmcfidmgfaa.cacheOwn
