/- Runs over unknown values, told by the kernel: part GD. -/
import Derived.Test.YtgoppmcfidmgfaaGC
set_option linter.unusedSimpArgs false
set_option linter.unusedVariables false
set_option maxRecDepth 20000
set_option maxHeartbeats 4000000
namespace Go.Proofs.Ly
open Go Go.Sim Go.Proofs Go.Proofs.Cd Go.Proofs.St Go.Proofs.Cl Go.Proofs.Ytgoppmcfidmgfaa
theorem awk0_vq (m1:Ms) (m2:Ms) (m3:Ms) (m4:Ms) (m5:Ms) (m6:Ms):VD Try.prog 11 [] [] (Orc.cal [] (.p 0 0) [.set (kS false 1 []),.set (Ms.o Ms.nil false)] (oc 3
 (Orc.cal [0,1] (.i .i64 0) [.set (kS true 2 []),.keep,.set (Ms.o m1 true)] (oc 6 (Orc.cal [0,2,3] (.i .i64 0) [.set (kS true 3 [r1 5 2 [98]]),.keep,.gone,.set (Ms.o
 m2 true),.gone] (oc 6 (Orc.cal [0,4,6] (.i .i64 25) [.keep,.keep,.gone] (oc 6 (Orc.cal [0,4,7] (.i .i64 0) [.set (kS true 3 [r1 5 2 [98],r1 5 3 [99]]),.keep,.gone,
 .set (Ms.o m3 true),.gone] (oc 3 (Orc.cal [0,8] (.tup [.sv 3 1 (uF (fun x=>5) (fun x=>2) fun x=>[98]),.b true]) [.keep,.keep] (oc 12 (Orc.cal [0,8] (.sv 3 0 fun x
 x_1=>CV.p0) [.keep,.keep,.gone] (oc 5 (Orc.cal [0,8] (.b true) [.set (kS true 2 [r1 5 3 [99]]),.keep,.set (Ms.o m4 true)] (oc 4 (Orc.cal [0,11] (.sv 3 0 fun x x_1=>
 CV.p0) [.keep,.keep,.gone] (oc 5 (Orc.cal [0,11] (.b true) [.set (kS true 2 []),.keep,.set (Ms.o m5 true)] (oc 4 (Orc.cal [0,13] (.b false) [.keep,.keep] (oc 2
 (Orc.cal [0,13] (.sv 3 1 (uF (fun x=>5) (fun x=>3) fun x=>[99])) [.keep,.keep,.gone] (oc 8 (Orc.cal [0,13] (.b false) [.keep,.keep] (oc 4 (Orc.cal [0,13] (.b
 true) [.keep,.keep] (oc 3 (Orc.cal [0,13] (.b true) [.set (kS true 2 []),.keep,.set (Ms.o m6 true)] (oc 3 (Orc.cal [0,15] (.b false) [.keep,.keep] (oc 2
 Orc.z)))))))))))))))))))))))))))))))) (.b true) [] [] 16 (fun Lf=>Con Try.prog 8 [] [] (.p 0 0) [.set (kS false 1 []),.set (Ms.o Ms.nil false)]/\True/\Con Try.prog 12
 [.p 0 0,.i .i64 5,.agg [.i .i64 1,.s [97]]] [some (kS false 1 []),some (Ms.o Ms.nil false)] (.i .i64 0) [.set (kS true 2 []),.keep,.set (Ms.o m1 true)]/\Con Try.prog
 13 [.p 0 0,.l 2 0 1 1 3 true] [some (kS true 1 []),some (Ms.o m1 true),some (cellsO 53 (a3 5 2 [98]))] (.i .i64 0) [.set (kS true 3 [r1 5 2 [98]]),.keep,.gone,.set
 (Ms.o m2 true),.gone]/\Con Try.prog 13 [.p 0 0,.l 2 0 1 1 3 true] [some (kS true 1 [r1 5 2 [98]]),some (Ms.o m2 true),some (cellsO 53 (a3 5 2 [99]))] (.i .i64 25)
 [.keep,.keep,.gone]/\Con Try.prog 13 [.p 0 0,.l 2 0 1 1 3 true] [some (kS true 1 [r1 5 2 [98]]),some (Ms.o m2 true),some (cellsO 53 (a3 5 3 [99]))] (.i .i64 0) [.set
 (kS true 3 [r1 5 2 [98],r1 5 3 [99]]),.keep,.gone,.set (Ms.o m3 true),.gone]/\Con Try.prog 9 [.p 0 0] [some (kS true 1 [r1 5 2 [98],r1 5 3 [99]]),some (Ms.o m3 true)]
 (.tup [.sv 3 1 (uF (fun x=>5) (fun x=>2) fun x=>[98]),.b true]) [.keep,.keep]/\True/\((0:Int)<=(0:Int)/\(0:Int)<(1:Int))/\True/\True/\Con Try.prog 15
 [.p 0 0] [some (kS true 1 [r1 5 2 [98],r1 5 3 [99]]),some (Ms.o m3 true)] (.sv 3 0 fun x x_1=>CV.p0) [.keep,.keep,.gone]/\Con Try.prog 14 [.p 0 0] [some (kS true 1 [r1
 5 2 [98],r1 5 3 [99]]),some (Ms.o m3 true)] (.b true) [.set (kS true 2 [r1 5 3 [99]]),.keep,.set (Ms.o m4 true)]/\True/\Con Try.prog 15 [.p 0 0] [some (kS true 1 [r1 5
 3 [99]]),some (Ms.o m4 true)] (.sv 3 0 fun x x_1=>CV.p0) [.keep,.keep,.gone]/\Con Try.prog 14 [.p 0 0] [some (kS true 1 [r1 5 3 [99]]),some (Ms.o m4 true)] (.b true)
 [.set (kS true 2 []),.keep,.set (Ms.o m5 true)]/\True/\Con Try.prog 14 [.p 0 0] [some (kS true 1 []),some (Ms.o m5 true)] (.b false) [.keep,.keep]/\Con Try.prog 15 [.p
 0 0] [some (kS true 1 []),some (Ms.o m5 true)] (.sv 3 1 (uF (fun x=>5) (fun x=>3) fun x=>[99])) [.keep,.keep,.gone]/\((0:Int)<=(0:Int)/\(0:Int)<(1:Int))
 /\True/\True/\Con Try.prog 16 [.p 0 0,.i .i64 5,.i .i64 2] [some (kS true 1 []),some (Ms.o m5 true)] (.b false) [.keep,.keep]/\True/\Con Try.prog 17 [.p 0 0] [some
 (kS true 1 []),some (Ms.o m5 true)] (.b true) [.keep,.keep]/\Con Try.prog 16 [.p 0 0,.i .i64 5,.i .i64 3] [some (kS true 1 []),some (Ms.o m5 true)] (.b true) [.set (kS
 true 2 []),.keep,.set (Ms.o m6 true)]/\Con Try.prog 17 [.p 0 0] [some (kS true 1 []),some (Ms.o m6 true)] (.b false) [.keep,.keep]/\True/\Lf)
 :=by unfold VD VQ;kernel_rfl
theorem awk_con (m1 m2 m3 m4 m5 m6:Ms) (knw:Con Try.prog 8 [] [] (.p 0 0) [.set (kS false 1 []),.set (Ms.nil.o false)]) (kld:Con Try.prog 12 [.p 0 0,.i .i64 5,.agg [.i .i64 1,.s [97]]] [some (kS false 1 []),some (Ms.nil.o false)] (.i .i64 0) [.set (kS true 2 []),.keep,.set (m1.o true)]) (kc1:Con Try.prog 13 [.p 0 0,.l 2 0 1 1 3 true] [some (kS true 1 []),some (m1.o true),some (cellsO 53 (a3 5 2 [98]))] (.i .i64 0) [.set (kS true 3 [(r1 5 2 [98])]),.keep,.gone,.set (m2.o true),.gone]) (kc2:Con Try.prog 13 [.p 0 0,.l 2 0 1 1 3 true] [some (kS true 1 [(r1 5 2 [98])]),some (m2.o true),some (cellsO 53 (a3 5 2 [99]))] (.i .i64 25) [.keep,.keep,.gone]) (kc3:Con Try.prog 13 [.p 0 0,.l 2 0 1 1 3 true] [some (kS true 1 [(r1 5 2 [98])]),some (m2.o true),some (cellsO 53 (a3 5 3 [99]))] (.i .i64 0) [.set (kS true 3 [(r1 5 2 [98]),(r1 5 3 [99])]),.keep,.gone,.set (m3.o true),.gone]) (kfi:Con Try.prog 9 [.p 0 0] [some (kS true 1 [(r1 5 2 [98]),(r1 5 3 [99])]),some (m3.o true)] (.tup [.sv 3 1 (uF (fun _=>5) (fun _=>2) (fun _=>[98])),.b true]) [.keep,.keep]) (kra:Con Try.prog 15 [.p 0 0] [some (kS true 1 [(r1 5 2 [98]),(r1 5 3 [99])]),some (m3.o true)] (.sv 3 0 (fun _ _=>.p0)) [.keep,.keep,.gone]) (kl1:Con Try.prog 14 [.p 0 0] [some (kS true 1 [(r1 5 2 [98]),(r1 5 3 [99])]),some (m3.o true)] (.b true) [.set (kS true 2 [(r1 5 3 [99])]),.keep,.set (m4.o true)]) (krc:Con Try.prog 15 [.p 0 0] [some (kS true 1 [(r1 5 3 [99])]),some (m4.o true)] (.sv 3 0 (fun _ _=>.p0)) [.keep,.keep,.gone]) (kl2:Con Try.prog 14 [.p 0 0] [some (kS true 1 [(r1 5 3 [99])]),some (m4.o true)] (.b true) [.set (kS true 2 []),.keep,.set (m5.o true)]) (kl3:Con Try.prog 14 [.p 0 0] [some (kS true 1 []),some (m5.o true)] (.b false) [.keep,.keep]) (kre:Con Try.prog 15 [.p 0 0] [some (kS true 1 []),some (m5.o true)] (.sv 3 1 (uF (fun _=>5) (fun _=>3) (fun _=>[99]))) [.keep,.keep,.gone]) (kk1:Con Try.prog 16 [.p 0 0,.i .i64 5,.i .i64 2] [some (kS true 1 []),some (m5.o true)] (.b false) [.keep,.keep]) (kd1:Con Try.prog 17 [.p 0 0] [some (kS true 1 []),some (m5.o true)] (.b true) [.keep,.keep]) (kk2:Con Try.prog 16 [.p 0 0,.i .i64 5,.i .i64 3] [some (kS true 1 []),some (m5.o true)] (.b true) [.set (kS true 2 []),.keep,.set (m6.o true)]) (kd2:Con Try.prog 17 [.p 0 0] [some (kS true 1 []),some (m6.o true)] (.b false) [.keep,.keep]):Con Try.prog 11 [] [] (.b true) []:=by
 exact con_d (awk0_vq (m1:=m1) (m2:=m2) (m3:=m3) (m4:=m4) (m5:=m5) (m6:=m6)) (by repeat' first | exact trivial | assumption | exact rfl | exact nT (by assumption) | exact nF (by assumption) | exact nnT (by assumption) | exact nnF (by assumption) | assumption | assumption | assumption | assumption | assumption | assumption | assumption | assumption | assumption | assumption | assumption | assumption | assumption | assumption | assumption | assumption | apply And.intro | decide)
theorem iS_all {α:Type} {p:α->Prop} {F:Int->α} {n:Int} {v:α} (h:∀x,p (F x)) (hv:p v):∀x,p (iS F n v x):=by
 intro x
 unfold iS
 cases decide (x=n) with
 | true=>exact hv
 | false=>exact h x
noncomputable def n1:Ms:=Ms.nil.re.put 5 1 [97] false 0
noncomputable def n2:Ms:=cmS n1.re (fun _=>5) (fun _=>2) (fun _=>[98]) 1
noncomputable def n3:Ms:=cmS n2.re (fun _=>5) (fun _=>3) (fun _=>[99]) 1
noncomputable def n4:Ms:=lgS n3.re (fun _=>5) 1
noncomputable def n5:Ms:=lgS n4.re (fun _=>5) 1
noncomputable def n6:Ms:=n5.re.put 5 (n5.V 5) (n5.D 5) false 0
def vB (v:Int):Prop:=-1<=v/\v<=1099511627776
def uB (v:Int):Prop:=0<=v/\v<=1000000000
theorem vB0:vB 0:=⟨by decide,by decide⟩
theorem uB0:uB 0:=⟨by decide,by decide⟩
theorem n1_V:∀x,vB (n1.V x):=iS_all (fun _=>vB0) ⟨by decide,by decide⟩
theorem n2_V:∀x,vB (n2.V x):=iS_all n1_V ⟨by decide,by decide⟩
theorem n1_U:∀x,uB (n1.U x):=iS_all (fun _=>uB0) uB0
theorem uBe {a b:Int} (h:a=b) (hb:uB b):uB a:=h▸hb
theorem n2_U:∀x,uB (n2.U x):=iS_all n1_U (uBe (b:=1) (by kernel_rfl) ⟨by decide,by decide⟩)
theorem n3_U:∀x,uB (n3.U x):=iS_all n2_U (uBe (b:=2) (by kernel_rfl) ⟨by decide,by decide⟩)
theorem n4_U:∀x,uB (n4.U x):=iS_all n3_U (uBe (b:=1) (by kernel_rfl) ⟨by decide,by decide⟩)
theorem con_cong {P:Program} {g:FuncId} {a:List AV} {objs:List (Option AObj)} {v v':AV} {us:List Upd} (h:Con P g a objs v us) (e:v=v'):Con P g a objs v' us:=e▸h
theorem byt1 (k:Nat) (h:k<256):Byt [k]:=fun x hx=>by simp at hx;subst hx;exact h
theorem sv0w {f f':Nat->Nat->CV}:VW (.sv 3 0 f) (.sv 3 0 f'):=.svW fun i j hi _=>absurd hi (Nat.not_lt_zero i)
theorem r3:rdl n3 80=[]:=by kernel_rfl
theorem r4:rdl n4 80=[]:=by kernel_rfl
theorem r5:rdl n5 80=[5]:=by kernel_rfl
theorem n6_Y:¬∃n,n6.Y n=true:=by
 rintro ⟨n,hn⟩
 by_cases e:n=5
 · subst e;revert hn;exact (by kernel_rfl:n6.Y 5=false)▸(by simp)
 · have:n6.Y n=false:=by
    have i1:∀(F:Int->Bool) v,iS F 5 v n=F n:=fun F v=>by unfold iS;rw [decide_eq_false e];rfl
    show iS n5.Y 5 _ n=false
    rw [i1]
    show iS n4.Y 5 _ n=false
    rw [i1]
    show iS n3.Y 5 _ n=false
    rw [i1]
    show iS n2.Y 5 _ n=false
    rw [i1]
    show iS n1.Y 5 _ n=false
    rw [i1]
    show iS (fun _=>false) 5 _ n=false
    rw [i1]
   rw [this] at hn;cases hn
theorem awake_con:Con Try.prog 11 [] [] (.b true) []:=by
 refine awk_con n1 n2 n3 n4 n5 n6 new_con (load_ok false Ms.nil [] 5 1 [97] (by kernel_rfl)) (commit_lit true n1 [] 5 2 [98] (byt1 98 (by decide)) n1_V n1_U (by simp) (by kernel_rfl))
  (con_cong (commit_litN true n2 [r1 5 2 [98]] 5 2 [99] (byt1 99 (by decide)) n2_V (by rw [(by kernel_rfl:cmE n2 1 (fun _=>5) (fun _=>2) (fun _=>[99])=25)];decide)) (by rw [(by kernel_rfl:cmE n2 1 (fun _=>5) (fun _=>2) (fun _=>[99])=25)]))
  (commit_lit true n2 [r1 5 2 [98]] 5 3 [99] (byt1 99 (by decide)) n2_V n2_U (by simp) (by kernel_rfl))
  (first_ok true n3 (r1 5 2 [98]) [r1 5 3 [99]] (by decide) (by simp))
  ?_ (logged_ok true n3 (r1 5 2 [98]) [r1 5 3 [99]] (by decide) (by simp) n3_U) ?_ (logged_ok true n4 (r1 5 3 [99]) [] (by decide) (by simp) n4_U) (logged_no true n5) ?_
  (clean_no true n5 [] 5 2 (by kernel_rfl)) (dirty_con true _ n5.g n5.V n5.D n5.Y n5.U n5.c true ⟨fun _=>⟨5,by kernel_rfl⟩,fun _=>rfl⟩) (clean_ok true n5 [] 5 3 (by kernel_rfl)) (dirty_con true _ n6.g n6.V n6.D n6.Y n6.U n6.c false (Iff.intro (fun h=>absurd h (by decide)) (fun h=>absurd h n6_Y)))
 · have h:=ready_con true n3 [r1 5 2 [98],r1 5 3 [99]]
   rw [r3] at h
   exact h.post sv0w (.refl _)
 · have h:=ready_con true n4 [r1 5 3 [99]]
   rw [r4] at h
   exact h.post sv0w (.refl _)
 · have h:=ready_con true n5 []
   rw [r5] at h
   refine h.post (.svW fun i j hi hj=>.of ?_) (.refl _)
   have:i<1:=hi
   obtain rfl:i=0:=by omega
   match j,hj with
   | 0,_=>rfl
   | 1,_=>exact congrArg (CV.i .i64) (by kernel_rfl)
   | 2,_=>exact congrArg CV.s (by kernel_rfl)
theorem nms0_vq:VD Try.prog 3 [] [] (Orc.inl (Orc.c (Orc.cal [] (.p 0 0) [.set (kS false 1 []),.set (Ms.o Ms.nil false)] (Orc.cal [6,7] (.tup [.agg (l2 (fun x=>.i .i64 0)
 (fun x=>.s []) 128),.agg (l1 (fun x=>.b false) 128)]) [.keep,.keep] (Orc.inl (oc 8 (Orc.inl (Orc.c (Orc.cal [] (.b true) [] (oc 23 (Orc.inl (oc 5 (Orc.inl (oc 5
 (Orc.inl (oc 12 (Orc.inl (oc 6 (Orc.inl (oc 5 (Orc.inl (oc 3 Orc.z)))))))))))))))))))))) (.b true) [] [] 11 (fun Lf=>True/\Con Try.prog 8 [] [] (.p 0 0) [.set (kS false 1
 []),.set (Ms.o Ms.nil false)]/\Con Try.prog 7 [.p 0 0] [some (kS false 1 []),some (Ms.o Ms.nil false)] (.tup [.agg (l2 (fun x=>.i .i64 0) (fun x=>.s []) 128),.agg (l1
 (fun x=>.b false) 128)]) [.keep,.keep]/\True/\True/\Con Try.prog 11 [] [] (.b true) []/\True/\True/\True/\True/\True/\True/\True/\True/\True/\True/\True/\
 True/\True/\True/\Lf):=by unfold VD VQ;kernel_rfl
theorem nms_con:Con Try.prog 3 [] [] (.b true) []:=by
 exact con_d (nms0_vq) (by repeat' first | exact trivial | assumption | exact rfl | exact nT (by assumption) | exact nF (by assumption) | exact nnT (by assumption) | exact nnF (by assumption) | exact awake_con | exact new_con | exact disk_con false _ Ms.nil.g Ms.nil.V Ms.nil.D Ms.nil.Y Ms.nil.U Ms.nil.c (fun n h=>by cases h) | apply And.intro | decide)
end Go.Proofs.Ly
