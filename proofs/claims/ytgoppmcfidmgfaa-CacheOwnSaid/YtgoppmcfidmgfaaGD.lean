/- Runs over unknown values, told by the kernel: part GD. -/
import Derived.Test.YtgoppmcfidmgfaaGC
set_option linter.unusedSimpArgs false
set_option linter.unusedVariables false
set_option maxRecDepth 20000
set_option maxHeartbeats 4000000
namespace Go.Proofs.Ly
open Go Go.Sim Go.Proofs Go.Proofs.Cd Go.Proofs.St Go.Proofs.Cl Go.Proofs.Ytgoppmcfidmgfaa
theorem awk0_vq (m1:Ms) (m2:Ms) (m3:Ms) (m4:Ms) (m5:Ms) (m6:Ms):VD Try.prog 11 [] [] (Orc.cal [] (.p 0 0) [.set (kS false 1 []),.set (Ms.o Ms.nil false)] (oc 3
 (Orc.cal [0,1] (.i .i64 0) [.set (kS true 2 []),.keep,.set (Ms.o m1 true)] (oc 6 (Orc.cal [0,2,3] (.i .i64 0) [.set (kS true 3 [r1 5 2 [98]]),.keep,.gone,.set (Ms.o
 m2 true),.gone] (oc 6 (Orc.cal [0,4,6] (.i .i64 25) [.keep,.keep,.gone] (oc 6 (Orc.cal [0,4,7] (.i .i64 0) [.set (kS true 3 [r1 5 2 [98],r1 5 3 [99]]),.keep,.gone,
 .set (Ms.o m3 true),.gone] (oc 3 (Orc.cal [0,8] (.tup [.sv 3 1 (uF (fun x=>5) (fun x=>2) fun x=>[98]),.b true]) [.keep,.keep] (oc 12 (Orc.cal [0,8] (.sv 3 0 fun x
 x_1=>CV.p0) [.keep,.keep,.gone] (oc 5 (Orc.cal [0,8] (.b true) [.set (kS true 2 [r1 5 3 [99]]),.keep,.set (Ms.o m4 true)] (oc 4 (Orc.cal [0,11] (.sv 3 0 fun x x_1=>
 CV.p0) [.keep,.keep,.gone] (oc 5 (Orc.cal [0,11] (.b true) [.set (kS true 2 []),.keep,.set (Ms.o m5 true)] (oc 4 (Orc.cal [0,13] (.b false) [.keep,.keep] (oc 2
 (Orc.cal [0,13] (.sv 3 1 (uF (fun x=>5) (fun x=>3) fun x=>[99])) [.keep,.keep,.gone] (oc 8 (Orc.cal [0,13] (.b false) [.keep,.keep] (oc 4 (Orc.cal [0,13] (.b
 true) [.keep,.keep] (oc 3 (Orc.cal [0,13] (.b true) [.set (kS true 2 []),.keep,.set (Ms.o m6 true)] (oc 3 (Orc.cal [0,15] (.b false) [.keep,.keep] (oc 2
 Orc.z)))))))))))))))))))))))))))))))) (.b true) [] [] 16 (fun Lf=>Con Try.prog 8 [] [] (.p 0 0) [.set (kS false 1 []),.set (Ms.o Ms.nil false)]/\True/\Con Try.prog 12
 [.p 0 0,.i .i64 5,.agg [.i .i64 1,.s [97]]] [some (kS false 1 []),some (Ms.o Ms.nil false)] (.i .i64 0) [.set (kS true 2 []),.keep,.set (Ms.o m1 true)]/\Con Try.prog
 13 [.p 0 0,.l 2 0 1 1 3 true] [some (kS true 1 []),some (Ms.o m1 true),some (cellsO 53 (a3 5 2 [98]))] (.i .i64 0) [.set (kS true 3 [r1 5 2 [98]]),.keep,.gone,.set
 (Ms.o m2 true),.gone]/\Con Try.prog 13 [.p 0 0,.l 2 0 1 1 3 true] [some (kS true 1 [r1 5 2 [98]]),some (Ms.o m2 true),some (cellsO 53 (a3 5 2 [99]))] (.i .i64 25)
 [.keep,.keep,.gone]/\Con Try.prog 13 [.p 0 0,.l 2 0 1 1 3 true] [some (kS true 1 [r1 5 2 [98]]),some (Ms.o m2 true),some (cellsO 53 (a3 5 3 [99]))] (.i .i64 0) [.set
 (kS true 3 [r1 5 2 [98],r1 5 3 [99]]),.keep,.gone,.set (Ms.o m3 true),.gone]/\Con Try.prog 9 [.p 0 0] [some (kS true 1 [r1 5 2 [98],r1 5 3 [99]]),some (Ms.o m3 true)]
 (.tup [.sv 3 1 (uF (fun x=>5) (fun x=>2) fun x=>[98]),.b true]) [.keep,.keep]/\True/\((0:Int)<=(0:Int)/\(0:Int)<(1:Int))/\True/\True/\Con Try.prog 15
 [.p 0 0] [some (kS true 1 [r1 5 2 [98],r1 5 3 [99]]),some (Ms.o m3 true)] (.sv 3 0 fun x x_1=>CV.p0) [.keep,.keep,.gone]/\Con Try.prog 14 [.p 0 0] [some (kS true 1 [r1
 5 2 [98],r1 5 3 [99]]),some (Ms.o m3 true)] (.b true) [.set (kS true 2 [r1 5 3 [99]]),.keep,.set (Ms.o m4 true)]/\True/\Con Try.prog 15 [.p 0 0] [some (kS true 1 [r1 5
 3 [99]]),some (Ms.o m4 true)] (.sv 3 0 fun x x_1=>CV.p0) [.keep,.keep,.gone]/\Con Try.prog 14 [.p 0 0] [some (kS true 1 [r1 5 3 [99]]),some (Ms.o m4 true)] (.b true)
 [.set (kS true 2 []),.keep,.set (Ms.o m5 true)]/\True/\Con Try.prog 14 [.p 0 0] [some (kS true 1 []),some (Ms.o m5 true)] (.b false) [.keep,.keep]/\Con Try.prog 15 [.p
 0 0] [some (kS true 1 []),some (Ms.o m5 true)] (.sv 3 1 (uF (fun x=>5) (fun x=>3) fun x=>[99])) [.keep,.keep,.gone]/\((0:Int)<=(0:Int)/\(0:Int)<(1:Int))
 /\True/\True/\Con Try.prog 16 [.p 0 0,.i .i64 5,.i .i64 2] [some (kS true 1 []),some (Ms.o m5 true)] (.b false) [.keep,.keep]/\True/\Con Try.prog 17 [.p 0 0] [some
 (kS true 1 []),some (Ms.o m5 true)] (.b true) [.keep,.keep]/\Con Try.prog 16 [.p 0 0,.i .i64 5,.i .i64 3] [some (kS true 1 []),some (Ms.o m5 true)] (.b true) [.set (kS
 true 2 []),.keep,.set (Ms.o m6 true)]/\Con Try.prog 17 [.p 0 0] [some (kS true 1 []),some (Ms.o m6 true)] (.b false) [.keep,.keep]/\True/\Lf)
 :=by unfold VD VQ;kernel_rfl
theorem awk_con (m1 m2 m3 m4 m5 m6:Ms) (knw:Con Try.prog 8 [] [] (.p 0 0) [.set (kS false 1 []),.set (Ms.nil.o false)]) (kld:Con Try.prog 12 [.p 0 0,.i .i64 5,.agg [.i .i64 1,.s [97]]] [some (kS false 1 []),some (Ms.nil.o false)] (.i .i64 0) [.set (kS true 2 []),.keep,.set (m1.o true)]) (kc1:Con Try.prog 13 [.p 0 0,.l 2 0 1 1 3 true] [some (kS true 1 []),some (m1.o true),some (cellsO 53 (a3 5 2 [98]))] (.i .i64 0) [.set (kS true 3 [(r1 5 2 [98])]),.keep,.gone,.set (m2.o true),.gone]) (kc2:Con Try.prog 13 [.p 0 0,.l 2 0 1 1 3 true] [some (kS true 1 [(r1 5 2 [98])]),some (m2.o true),some (cellsO 53 (a3 5 2 [99]))] (.i .i64 25) [.keep,.keep,.gone]) (kc3:Con Try.prog 13 [.p 0 0,.l 2 0 1 1 3 true] [some (kS true 1 [(r1 5 2 [98])]),some (m2.o true),some (cellsO 53 (a3 5 3 [99]))] (.i .i64 0) [.set (kS true 3 [(r1 5 2 [98]),(r1 5 3 [99])]),.keep,.gone,.set (m3.o true),.gone]) (kfi:Con Try.prog 9 [.p 0 0] [some (kS true 1 [(r1 5 2 [98]),(r1 5 3 [99])]),some (m3.o true)] (.tup [.sv 3 1 (uF (fun _=>5) (fun _=>2) (fun _=>[98])),.b true]) [.keep,.keep]) (kra:Con Try.prog 15 [.p 0 0] [some (kS true 1 [(r1 5 2 [98]),(r1 5 3 [99])]),some (m3.o true)] (.sv 3 0 (fun _ _=>.p0)) [.keep,.keep,.gone]) (kl1:Con Try.prog 14 [.p 0 0] [some (kS true 1 [(r1 5 2 [98]),(r1 5 3 [99])]),some (m3.o true)] (.b true) [.set (kS true 2 [(r1 5 3 [99])]),.keep,.set (m4.o true)]) (krc:Con Try.prog 15 [.p 0 0] [some (kS true 1 [(r1 5 3 [99])]),some (m4.o true)] (.sv 3 0 (fun _ _=>.p0)) [.keep,.keep,.gone]) (kl2:Con Try.prog 14 [.p 0 0] [some (kS true 1 [(r1 5 3 [99])]),some (m4.o true)] (.b true) [.set (kS true 2 []),.keep,.set (m5.o true)]) (kl3:Con Try.prog 14 [.p 0 0] [some (kS true 1 []),some (m5.o true)] (.b false) [.keep,.keep]) (kre:Con Try.prog 15 [.p 0 0] [some (kS true 1 []),some (m5.o true)] (.sv 3 1 (uF (fun _=>5) (fun _=>3) (fun _=>[99]))) [.keep,.keep,.gone]) (kk1:Con Try.prog 16 [.p 0 0,.i .i64 5,.i .i64 2] [some (kS true 1 []),some (m5.o true)] (.b false) [.keep,.keep]) (kd1:Con Try.prog 17 [.p 0 0] [some (kS true 1 []),some (m5.o true)] (.b true) [.keep,.keep]) (kk2:Con Try.prog 16 [.p 0 0,.i .i64 5,.i .i64 3] [some (kS true 1 []),some (m5.o true)] (.b true) [.set (kS true 2 []),.keep,.set (m6.o true)]) (kd2:Con Try.prog 17 [.p 0 0] [some (kS true 1 []),some (m6.o true)] (.b false) [.keep,.keep]):Con Try.prog 11 [] [] (.b true) []:=by
 exact con_d (awk0_vq (m1:=m1) (m2:=m2) (m3:=m3) (m4:=m4) (m5:=m5) (m6:=m6)) (by repeat' first | exact trivial | assumption | exact rfl | exact nT (by assumption) | exact nF (by assumption) | exact nnT (by assumption) | exact nnF (by assumption) | assumption | assumption | assumption | assumption | assumption | assumption | assumption | assumption | assumption | assumption | assumption | assumption | assumption | assumption | assumption | assumption | apply And.intro | decide)
theorem iS_all {α:Type} {p:α->Prop} {F:Int->α} {n:Int} {v:α} (h:∀x,p (F x)) (hv:p v):∀x,p (iS F n v x):=by
 intro x
 unfold iS
 cases decide (x=n) with
 | true=>exact hv
 | false=>exact h x
noncomputable def n1:Ms:=Ms.nil.re.put 5 1 [97] false 0
noncomputable def n2:Ms:=cmS n1.re (fun _=>5) (fun _=>2) (fun _=>[98]) 1
noncomputable def n3:Ms:=cmS n2.re (fun _=>5) (fun _=>3) (fun _=>[99]) 1
noncomputable def n4:Ms:=lgS n3.re (fun _=>5) 1
noncomputable def n5:Ms:=lgS n4.re (fun _=>5) 1
noncomputable def n6:Ms:=n5.re.put 5 (n5.V 5) (n5.D 5) false 0
def vB (v:Int):Prop:=-1<=v/\v<=1099511627776
def uB (v:Int):Prop:=0<=v/\v<=1000000000
theorem vB0:vB 0:=⟨by decide,by decide⟩
theorem uB0:uB 0:=⟨by decide,by decide⟩
theorem n1_V:∀x,vB (n1.V x):=iS_all (fun _=>vB0) ⟨by decide,by decide⟩
theorem n2_V:∀x,vB (n2.V x):=iS_all n1_V ⟨by decide,by decide⟩
theorem n1_U:∀x,uB (n1.U x):=iS_all (fun _=>uB0) uB0
theorem uBe {a b:Int} (h:a=b) (hb:uB b):uB a:=h▸hb
theorem n2_U:∀x,uB (n2.U x):=iS_all n1_U (uBe (b:=1) (by kernel_rfl) ⟨by decide,by decide⟩)
theorem n3_U:∀x,uB (n3.U x):=iS_all n2_U (uBe (b:=2) (by kernel_rfl) ⟨by decide,by decide⟩)
theorem n4_U:∀x,uB (n4.U x):=iS_all n3_U (uBe (b:=1) (by kernel_rfl) ⟨by decide,by decide⟩)
theorem con_cong {P:Program} {g:FuncId} {a:List AV} {objs:List (Option AObj)} {v v':AV} {us:List Upd} (h:Con P g a objs v us) (e:v=v'):Con P g a objs v' us:=e▸h
theorem byt1 (k:Nat) (h:k<256):Byt [k]:=fun x hx=>by simp at hx;subst hx;exact h
theorem sv0w {f f':Nat->Nat->CV}:VW (.sv 3 0 f) (.sv 3 0 f'):=.svW fun i j hi _=>absurd hi (Nat.not_lt_zero i)
theorem r3:rdl n3 80=[]:=by kernel_rfl
theorem r4:rdl n4 80=[]:=by kernel_rfl
theorem r5:rdl n5 80=[5]:=by kernel_rfl
theorem n6_Y:¬∃n,n6.Y n=true:=by
 rintro ⟨n,hn⟩
 by_cases e:n=5
 · subst e;revert hn;exact (by kernel_rfl:n6.Y 5=false)▸(by simp)
 · have:n6.Y n=false:=by
    have i1:∀(F:Int->Bool) v,iS F 5 v n=F n:=fun F v=>by unfold iS;rw [decide_eq_false e];rfl
    show iS n5.Y 5 _ n=false
    rw [i1]
    show iS n4.Y 5 _ n=false
    rw [i1]
    show iS n3.Y 5 _ n=false
    rw [i1]
    show iS n2.Y 5 _ n=false
    rw [i1]
    show iS n1.Y 5 _ n=false
    rw [i1]
    show iS (fun _=>false) 5 _ n=false
    rw [i1]
   rw [this] at hn;cases hn
theorem awake_con:Con Try.prog 11 [] [] (.b true) []:=by
 refine awk_con n1 n2 n3 n4 n5 n6 new_con (load_ok false Ms.nil [] 5 1 [97] (by kernel_rfl)) (commit_lit true n1 [] 5 2 [98] (byt1 98 (by decide)) n1_V n1_U (by simp) (by kernel_rfl))
  (con_cong (commit_litN true n2 [r1 5 2 [98]] 5 2 [99] (byt1 99 (by decide)) n2_V (by rw [(by kernel_rfl:cmE n2 1 (fun _=>5) (fun _=>2) (fun _=>[99])=25)];decide)) (by rw [(by kernel_rfl:cmE n2 1 (fun _=>5) (fun _=>2) (fun _=>[99])=25)]))
  (commit_lit true n2 [r1 5 2 [98]] 5 3 [99] (byt1 99 (by decide)) n2_V n2_U (by simp) (by kernel_rfl))
  (first_ok true n3 (r1 5 2 [98]) [r1 5 3 [99]] (by decide) (by simp))
  ?_ (logged_ok true n3 (r1 5 2 [98]) [r1 5 3 [99]] (by decide) (by simp) n3_U) ?_ (logged_ok true n4 (r1 5 3 [99]) [] (by decide) (by simp) n4_U) (logged_no true n5) ?_
  (clean_no true n5 [] 5 2 (by kernel_rfl)) (dirty_con true _ n5.g n5.V n5.D n5.Y n5.U n5.c true ⟨fun _=>⟨5,by kernel_rfl⟩,fun _=>rfl⟩) (clean_ok true n5 [] 5 3 (by kernel_rfl)) (dirty_con true _ n6.g n6.V n6.D n6.Y n6.U n6.c false (Iff.intro (fun h=>absurd h (by decide)) (fun h=>absurd h n6_Y)))
 · have h:=ready_con true n3 [r1 5 2 [98],r1 5 3 [99]]
   rw [r3] at h
   exact h.post sv0w (.refl _)
 · have h:=ready_con true n4 [r1 5 3 [99]]
   rw [r4] at h
   exact h.post sv0w (.refl _)
 · have h:=ready_con true n5 []
   rw [r5] at h
   refine h.post (.svW fun i j hi hj=>.of ?_) (.refl _)
   have:i<1:=hi
   obtain rfl:i=0:=by omega
   match j,hj with
   | 0,_=>rfl
   | 1,_=>exact congrArg (CV.i .i64) (by kernel_rfl)
   | 2,_=>exact congrArg CV.s (by kernel_rfl)
def a6 (b w:Int) (s:List Nat) (b2 w2:Int) (s2:List Nat):List AV:=[.i .i64 b,.i .i64 w,.s s,.i .i64 b2,.i .i64 w2,.s s2]
def c6 (b w:Int) (s:List Nat) (b2 w2:Int) (s2:List Nat):List CV:=[.i .i64 b,.i .i64 w,.s s,.i .i64 b2,.i .i64 w2,.s s2]
noncomputable def lit6 (b w:Int) (s:List Nat) (b2 w2:Int) (s2:List Nat):AV:=frz 0 (.cells 6 (c6 b w s b2 w2 s2)) (.l 0 0 1 2 3 true)
theorem lit6_w (b w:Int) (s:List Nat) (b2 w2:Int) (s2:List Nat):VW (lit6 b w s b2 w2 s2) (r1 b w s).u:=by
 refine VW.svW fun i j hi hj=>.of ?_
 obtain rfl:i=0:=by omega
 match j,hj with
 | 0,_=>rfl
 | 1,_=>rfl
 | 2,_=>rfl
theorem cl60_fq (b w b2 w2:Int) (s s2:List Nat):VF Try.prog 27 [.l 0 0 1 2 3 true] [some (cellsO 53 (a6 b w s b2 w2 s2))] (Orc.c Orc.z) ((frz 2 (.cells 3 (c3 b w s)) (.l
 2 0 1 1 3 false))) [.keep] [2] [] ((0+1*3<=3)/\True) 3 (fun Lf=>True/\Lf):=by unfold VF;kernel_rfl
theorem cl6_con (b w b2 w2:Int) (s s2:List Nat):Con Try.prog 27 [.l 0 0 1 2 3 true] [some (cellsO 53 (a6 b w s b2 w2 s2))] (frz 2 (.cells 3 (c3 b w s)) (.l 2 0 1 1 3 false)) [.keep]:=by
 exact con_f (cl60_fq (b:=b) (w:=w) (b2:=b2) (w2:=w2) (s:=s) (s2:=s2)) ⟨by decide,trivial⟩ (by repeat' first | exact trivial | assumption | exact rfl | exact nT (by assumption) | exact nF (by assumption) | exact nnT (by assumption) | exact nnF (by assumption) | apply And.intro | decide)
theorem clone6_con (b w b2 w2:Int) (s s2:List Nat):Con Try.prog 27 [.l 0 0 1 2 3 true] [some (cellsO 53 (a6 b w s b2 w2 s2))] (.sv 3 1 (uF (fun _=>b) (fun _=>w) (fun _=>s))) [.keep]:=(cl6_con b w b2 w2 s s2).post (by
 refine VW.svW fun i j hi hj=>.of ?_
 obtain rfl:i=0:=by omega
 match j,hj with
 | 0,_=>rfl
 | 1,_=>rfl
 | 2,_=>rfl) (.refl _)
theorem fo60_vq (b w b2 w2:Int) (s s2:List Nat) (bb:Bool) (gg:Int->Bool) (VV:Int->Int) (DD:Int->List Nat) (YY:Int->Bool) (UU:Int->Int) (cc:Nat) (NN :
 Nat) (FF:Nat->Nat->CV) (q1:gg b=true) (q2:decide (w=VV b+1)=true):VD Try.prog 32 [.p 0 0,.l 2 0 1 2 3 true] [some (kO bb 1 (.sv 1 NN FF)),some (kM bb gg
 VV DD YY UU cc),some (cellsO 53 (a6 b w s b2 w2 s2))] (Orc.inl (oc 2 (Orc.t (Orc.t (Orc.t (Orc.t (Orc.t (Orc.t (Orc.t (Orc.f (Orc.f (Orc.inl (Orc.c Orc.z))))))))))))) (.b
 true) [.keep,.keep,.keep] [] 5 (fun Lf=>True/\True/\bb=bb/\True/\(!!gg b)=true/\True/\(!!gg b)=true/\(!!gg b)=true/\True/\(!!gg b)=true/\True/\(!!gg
 b)=true/\(!!gg b)=true/\rg (VV b+1)/\(!!gg b)=true/\(!gg b)=false/\(!decide (w=VV b+1))=false/\rg (1)/\Lf):=by unfold VD VQ;kernel_rfl
theorem fo6_con (b w b2 w2:Int) (s s2:List Nat) (bb:Bool) (gg:Int->Bool) (VV:Int->Int) (DD:Int->List Nat) (YY:Int->Bool) (UU:Int->Int) (cc:Nat) (NN:Nat) (FF:Nat->Nat->CV) (q1:gg b=true) (q2:decide (w=VV b+1)=true) (hv:-1<=VV b/\VV b<=1099511627776):Con Try.prog 32 [.p 0 0,.l 2 0 1 2 3 true] [some (kO bb 1 (.sv 1 NN FF)),some (kM bb gg VV DD YY UU cc),some (cellsO 53 (a6 b w s b2 w2 s2))] (.b true) [.keep,.keep,.keep]:=by
 have rv:rg (VV b+1):=⟨by omega,by omega⟩
 exact con_d (fo60_vq (b:=b) (w:=w) (b2:=b2) (w2:=w2) (s:=s) (s2:=s2) (bb:=bb) (gg:=gg) (VV:=VV) (DD:=DD) (YY:=YY) (UU:=UU) (cc:=cc) (NN:=NN) (FF:=FF) (q1:=q1) (q2:=q2)) (by repeat' first | exact trivial | assumption | exact rfl | exact nT (by assumption) | exact nF (by assumption) | exact nnT (by assumption) | exact nnF (by assumption) | exact rv | omega | apply And.intro | decide)
theorem cm60_vq (wi:Int) (we:Int) (b w b2 w2:Int) (s s2:List Nat) (bb:Bool) (gg:Int->Bool) (VV:Int->Int) (DD:Int->List Nat) (YY:Int->Bool) (UU:Int->
 Int) (cc:Nat) (FF:Nat->Nat->CV) (q0:decide (we=0)=true):VD Try.prog 13 [.p 0 0,.l 2 0 1 2 3 true] [some (kO bb 1 (.sv 1 0 FF)),some (kM bb gg VV DD YY UU cc),
 some (cellsO 53 (a6 b w s b2 w2 s2))] (Orc.c (Orc.cal [2] (.tup [.i .i64 wi,.i .i64 we]) [.keep] (Orc.f (Orc.cal [0,1,2] (.b true) [.keep,.keep,.keep] (Orc.c (Orc.cal
 [0,1] (.tup []) [.set (kO true 2 (.sv 1 0 FF)),.keep,.set (kM true gg VV DD YY UU (cntI gg))] (Orc.inl (oc 2 (Orc.cal [] (.agg [.i .i64 w,.s s,.b true,.i .i64 (UU b +
 1)]) [] (Orc.inl (Orc.c (Orc.cal [2] (.sv 3 1 (uF (fun x=>b) (fun x=>w) fun x=>s)) [.keep] (Orc.inl (Orc.inl (oc 3 (Orc.inl (oc 3 (Orc.inl (Orc.c (Orc.inl (oc 2
 (Orc.inl (oc 2 (Orc.inl (oc 2 (Orc.inl (Orc.c Orc.z))))))))))))))))))))))))))) (.i .i64 0) [.set (kO true 3 (.lr 4 1 0 1 false)),.keep,.keep,.set (kMf true (mgSet gg b)
 (mfSet (f4 VV DD YY UU) b [.i .i64 w,.s s,.b true,.i .i64 (UU b+1)]) (bif gg b then cntI gg else cntI gg+1)),.set (.rows 31 1 1 (listF 1 [.sv 3 1 (uF (fun _=>b)
 (fun _=>w) (fun _=>s))] 1))] [3,9] 10 (fun Lf=>True/\Con Try.prog 31 [.l 0 0 1 2 3 true] [some (cellsO 53 (a6 b w s b2 w2 s2))] (.tup [.i .i64 wi,.i .i64 we])
 [.keep]/\(!decide (we=0))=false/\Con Try.prog 32 [.p 0 0,.l 2 0 1 2 3 true] [some (kO bb 1 (.sv 1 0 FF)),some (kM bb gg VV DD YY UU cc),some (cellsO 53 (a6 b w s b2
 w2 s2))] (.b true) [.keep,.keep,.keep]/\True/\Con Try.prog 28 [.p 0 0] [some (kO bb 1 (.sv 1 0 FF)),some (kM bb gg VV DD YY UU cc)] (.tup []) [.set (kO true 2 (.sv 1 0
 FF)),.keep,.set (kM true gg VV DD YY UU (cntI gg))]/\True/\True/\True/\True/\true=true/\Con Try.prog 33 [.agg [.i .i64 (VV b),.s (DD b),.b (YY b),.i .i64 (UU
 b)],.agg [.i .i64 b,.i .i64 w,.s s]] [] (.agg [.i .i64 w,.s s,.b true,.i .i64 (UU b+1)]) []/\true=true/\rg (1)/\True/\Con Try.prog 27 [.l 0 0 1 2 3 true] [some
 (cellsO 53 (a6 b w s b2 w2 s2))] (.sv 3 1 (uF (fun x=>b) (fun x=>w) fun x=>s)) [.keep]/\rg (0)/\rg (1)/\rg (1)/\rg (2)/\rg (0)/\rg (1)/\(True/\(0:Int)<=(1 :
 Int)/\1<=140737488355328/\36936<=562949953421312)/\(True/\(0:Int)<=(0:Int)/\0<=0/\0<=1/\(0=0\/0<1))/\(0<=1/\True/\0<=140737488355328/\36864<=
 562949953421312)/\rg (1)/\(0<=0/\True/\1<=140737488355328/\36936<=562949953421312)/\rg (2)/\True/\Lf):=by unfold VD VQ;kernel_rfl
theorem cm6_con (b w b2 w2:Int) (s s2:List Nat) (bb:Bool) (gg:Int->Bool) (VV:Int->Int) (DD:Int->List Nat) (YY:Int->Bool) (UU:Int->Int) (cc:Nat) (FF:Nat->Nat->CV) (wi we:Int) (q1:gg b=true) (q2:decide (w=VV b+1)=true) (hv:-1<=VV b/\VV b<=1099511627776) (hu:0<=UU b/\UU b<1099511627776) (q0:decide (we=0)=true) (kw6:Con Try.prog 31 [.l 0 0 1 2 3 true] [some (cellsO 53 (a6 b w s b2 w2 s2))] (.tup [.i .i64 wi,.i .i64 we]) [.keep]):Con Try.prog 13 [.p 0 0,.l 2 0 1 2 3 true] [some (kO bb 1 (.sv 1 0 FF)),some (kM bb gg VV DD YY UU cc),some (cellsO 53 (a6 b w s b2 w2 s2))] (.i .i64 0) [.set (kO true 3 (.lr 4 1 0 1 false)),.keep,.keep,.set (kMf true (mgSet gg b) (mfSet (f4 VV DD YY UU) b [.i .i64 w,.s s,.b true,.i .i64 (UU b+1)]) (bif gg b then cntI gg else cntI gg+1)),.set (.rows 31 1 1 (listF 1 [.sv 3 1 (uF (fun _=>b) (fun _=>w) (fun _=>s))] 1))]:=by
 have cg:=chg_con (VV b) (UU b) b w (DD b) s (YY b) hu
 have f6:=fo6_con b w b2 w2 s s2 bb gg VV DD YY UU cc 0 FF q1 q2 hv
 exact con_d (cm60_vq (wi:=wi) (we:=we) (b:=b) (w:=w) (b2:=b2) (w2:=w2) (s:=s) (s2:=s2) (bb:=bb) (gg:=gg) (VV:=VV) (DD:=DD) (YY:=YY) (UU:=UU) (cc:=cc) (FF:=FF) (q0:=q0)) (by repeat' first | exact trivial | assumption | exact rfl | exact nT (by assumption) | exact nF (by assumption) | exact nnT (by assumption) | exact nnF (by assumption) | assumption | assumption | exact part_con _ _ _ _ _ _ _ _ _ | assumption | exact clone6_con _ _ _ _ _ _ | exact clone6_con _ _ _ _ _ _ | exact part_con _ _ _ _ _ _ _ _ _ | omega | (simp;omega) | apply And.intro | decide)
theorem cn60_vq (wi:Int) (we:Int) (b w b2 w2:Int) (s s2:List Nat) (bb:Bool) (gg:Int->Bool) (VV:Int->Int) (DD:Int->List Nat) (YY:Int->Bool) (UU:Int->
 Int) (cc:Nat) (FF:Nat->Nat->CV) (q0:decide (we=0)=false):VD Try.prog 13 [.p 0 0,.l 2 0 1 2 3 true] [some (kO bb 1 (.sv 1 0 FF)),some (kM bb gg VV DD YY UU
 cc),some (cellsO 53 (a6 b w s b2 w2 s2))] (Orc.c (Orc.cal [2] (.tup [.i .i64 wi,.i .i64 we]) [.keep] (Orc.t Orc.z))) (.i .i64 2) [.keep,.keep,.keep] [] 3 (fun Lf=>True
 /\Con Try.prog 31 [.l 0 0 1 2 3 true] [some (cellsO 53 (a6 b w s b2 w2 s2))] (.tup [.i .i64 wi,.i .i64 we]) [.keep]/\(!decide (we=0))=true/\Lf)
 :=by unfold VD VQ;kernel_rfl
theorem cn6_con (b w b2 w2:Int) (s s2:List Nat) (bb:Bool) (gg:Int->Bool) (VV:Int->Int) (DD:Int->List Nat) (YY:Int->Bool) (UU:Int->Int) (cc:Nat) (FF:Nat->Nat->CV) (wi we:Int) (q0:decide (we=0)=false) (kw6:Con Try.prog 31 [.l 0 0 1 2 3 true] [some (cellsO 53 (a6 b w s b2 w2 s2))] (.tup [.i .i64 wi,.i .i64 we]) [.keep]):Con Try.prog 13 [.p 0 0,.l 2 0 1 2 3 true] [some (kO bb 1 (.sv 1 0 FF)),some (kM bb gg VV DD YY UU cc),some (cellsO 53 (a6 b w s b2 w2 s2))] (.i .i64 2) [.keep,.keep,.keep]:=by
 exact con_d (cn60_vq (wi:=wi) (we:=we) (b:=b) (w:=w) (b2:=b2) (w2:=w2) (s:=s) (s2:=s2) (bb:=bb) (gg:=gg) (VV:=VV) (DD:=DD) (YY:=YY) (UU:=UU) (cc:=cc) (FF:=FF) (q0:=q0)) (by repeat' first | exact trivial | assumption | exact rfl | exact nT (by assumption) | exact nF (by assumption) | exact nnT (by assumption) | exact nnF (by assumption) | assumption | apply And.intro | decide)
def dV (v:Int) (k:Nat):Int:=bif Nat.beq k 7 then v+1 else 0
def dD (d:List Nat) (k:Nat):List Nat:=bif Nat.beq k 7 then d else []
theorem owA0_vq (le:Int) (vv:Int) (ss:List Nat) (d0:List Nat) (q0:decide (le=0)=false) (n0:natsEq d0 d0=true) (n1:decide (vv+1=vv+1)=true) (n2 :
 (true && (decide (vv+1=vv+1) && (natsEq d0 d0 && true)))=true):VD Try.prog 6 [.agg [.i .i64 vv,.s ss],.s d0] [] (Orc.cal [] (.b true) [] (Orc.c (Orc.cal [] (.p 0
 0) [.set (kS false 1 []),.set (Ms.o Ms.nil false)] (Orc.cal [1,2] (.i .i64 le) [.keep,.keep] (Orc.t Orc.z))))) (.b true) [] [] 3 (fun Lf=>Con Try.prog 11 [] [] (.b true)
 []/\True/\Con Try.prog 8 [] [] (.p 0 0) [.set (kS false 1 []),.set (Ms.o Ms.nil false)]/\Con Try.prog 12 [.p 0 0,.i .i64 7,.agg [.i .i64 vv,.s ss]] [some (kS false 1
 []),some (Ms.o Ms.nil false)] (.i .i64 le) [.keep,.keep]/\(!decide (le=0))=true/\Lf):=by unfold VD VQ;kernel_rfl
theorem owA_con (m1 m2 m3:Ms) (le vv:Int) (ss d0:List Nat) (q0:decide (le=0)=false) (n0:natsEq d0 d0=true) (n1:decide (vv+1=vv+1)=true) (n2:(true && (decide (vv+1=vv+1) && (natsEq d0 d0 && true)))=true) (kldN:Con Try.prog 12 [.p 0 0,.i .i64 7,.agg [.i .i64 vv,.s ss]] [some (kS false 1 []),some (Ms.nil.o false)] (.i .i64 le) [.keep,.keep]):Con Try.prog 6 [.agg [.i .i64 vv,.s ss],.s d0] [] (.b true) []:=by
 exact con_d (owA0_vq (le:=le) (vv:=vv) (ss:=ss) (d0:=d0) (q0:=q0) (n0:=n0) (n1:=n1) (n2:=n2)) (by repeat' first | exact trivial | assumption | exact rfl | exact nT (by assumption) | exact nF (by assumption) | exact nnT (by assumption) | exact nnF (by assumption) | exact awake_con | exact new_con | assumption | omega | (simp;done) | apply And.intro | decide)
theorem owB0_vq (m1:Ms) (vv:Int) (ss:List Nat) (d0:List Nat) (n0:natsEq d0 d0=true) (n1:decide (vv+1=vv+1)=true) (n2:(true && (decide (vv+1=vv+1)
 && (natsEq d0 d0 && true)))=true):VD Try.prog 6 [.agg [.i .i64 vv,.s ss],.s d0] [] (Orc.cal [] (.b true) [] (Orc.c (Orc.cal [] (.p 0 0) [.set (kS false 1 []),.set
 (Ms.o Ms.nil false)] (Orc.cal [1,2] (.i .i64 0) [.set (kS true 2 []),.keep,.set (Ms.o m1 true)] (Orc.c (Orc.cal [1,3,4] (.i .i64 2) [.keep,.keep,.keep] (oc 12 (Orc.f
 (Orc.c Orc.z))))))))) (.b true) [] [] 5 (fun Lf=>Con Try.prog 11 [] [] (.b true) []/\True/\Con Try.prog 8 [] [] (.p 0 0) [.set (kS false 1 []),.set (Ms.o Ms.nil false)]
 /\Con Try.prog 12 [.p 0 0,.i .i64 7,.agg [.i .i64 vv,.s ss]] [some (kS false 1 []),some (Ms.o Ms.nil false)] (.i .i64 0) [.set (kS true 2 []),.keep,.set (Ms.o m1 true)]
 /\True/\rg (vv+1)/\Con Try.prog 13 [.p 0 0,.l 2 0 1 2 3 true] [some (kS true 1 []),some (Ms.o m1 true),some (cellsO 53 (a6 7 (vv+1) d0 (-9) 0 []))] (.i .i64 2)
 [.keep,.keep,.keep]/\True/\True/\rg (vv+1)/\True/\(!(true && (decide (vv+1=vv+1) && (natsEq d0 d0 && true))))=false/\Lf):=by unfold VD VQ;kernel_rfl
theorem owB_con (m1 m2 m3:Ms) (le vv:Int) (ss d0:List Nat) (hv:0<=vv/\vv<=1099511627776) (n0:natsEq d0 d0=true) (n1:decide (vv+1=vv+1)=true) (n2:(true && (decide (vv+1=vv+1) && (natsEq d0 d0 && true)))=true) (kldO:Con Try.prog 12 [.p 0 0,.i .i64 7,.agg [.i .i64 vv,.s ss]] [some (kS false 1 []),some (Ms.nil.o false)] (.i .i64 0) [.set (kS true 2 []),.keep,.set (m1.o true)]) (kcmN:Con Try.prog 13 [.p 0 0,.l 2 0 1 2 3 true] [some (kS true 1 []),some (m1.o true),some (cellsO 53 (a6 7 (vv+1) d0 (-9) 0 []))] (.i .i64 2) [.keep,.keep,.keep]):Con Try.prog 6 [.agg [.i .i64 vv,.s ss],.s d0] [] (.b true) []:=by
 have rv:rg (vv+1):=⟨by omega,by omega⟩
 exact con_d (owB0_vq (m1:=m1) (vv:=vv) (ss:=ss) (d0:=d0) (n0:=n0) (n1:=n1) (n2:=n2)) (by repeat' first | exact trivial | assumption | exact rfl | exact nT (by assumption) | exact nF (by assumption) | exact nnT (by assumption) | exact nnF (by assumption) | exact awake_con | exact new_con | assumption | assumption | omega | (simp;done) | apply And.intro | decide)
theorem owC0_vq (m1:Ms) (m2:Ms) (m3:Ms) (vv:Int) (ss:List Nat) (d0:List Nat) (n3:(decide (dV vv 7=vv+1) && (natsEq (dD d0 7) d0 && true))=true) (n0:natsEq
 d0 d0=true) (n1:decide (vv+1=vv+1)=true) (n2:(true && (decide (vv+1=vv+1) && (natsEq d0 d0 && true)))=true):VD Try.prog 6 [.agg [.i .i64 vv,.s ss],
 .s d0] [] (Orc.cal [] (.b true) [] (Orc.c (Orc.cal [] (.p 0 0) [.set (kS false 1 []),.set (Ms.o Ms.nil false)] (Orc.cal [1,2] (.i .i64 0) [.set (kS true 2 []),.keep,.set
 (Ms.o m1 true)] (Orc.c (Orc.cal [1,3,4] (.i .i64 0) [.set (kS true 3 [r1 7 (vv+1) d0]),.keep,.keep,.set (Ms.o m2 true),.gone] (oc 12 (Orc.f (oc 2 (Orc.cal [1,5]
 (.tup [.lr 2 3 0 1 false,.b true]) [.keep,.keep,.set (AObj.rows 53 3 1 (uF (fun x=>7) (fun x=>vv+1) fun x=>d0))] (Orc.cal [1,5] (.tup [.lr 2 3 0 1 false,.b
 true]) [.keep,.keep,.set (AObj.rows 53 3 1 (uF (fun x=>7) (fun x=>vv+1) fun x=>d0))] (oc 5 (Orc.cal [1,5] (.b true) [.set (kS true 2 []),.keep,.set (Ms.o m3
 true)] (Orc.cal [1,11] (.lr 2 3 0 1 false) [.keep,.keep,.set (AObj.rows 53 3 1 (uF (fun x=>7) (fun x=>vv+1) fun x=>d0))] (Orc.cal [1,11] (.lr 2 3 0 1 false)
 [.keep,.keep,.set (AObj.rows 53 3 1 (uF (fun x=>7) (fun x=>vv+1) fun x=>d0))] (oc 5 (Orc.cal [1,11] (.tup [.agg (l2 (fun k=>.i .i64 (dV vv k)) (fun k=>.s (dD
 d0 k)) 128),.agg (l1 (fun k=>.b (Nat.beq k 7)) 128)]) [.keep,.keep] (Orc.t (Orc.t (Orc.t (Orc.t (Orc.t (Orc.t (Orc.t (Orc.t (Orc.t (Orc.c (Orc.t (Orc.t (Orc.t (Orc.t
 (Orc.t (Orc.t (Orc.t (Orc.t (Orc.t (Orc.t (Orc.t (Orc.t Orc.z))))))))))))))))))))))))))))))))))))))) (.b true) [] [] 16 (fun Lf=>Con Try.prog 11 [] [] (.b true) []/\True/\
 Con Try.prog 8 [] [] (.p 0 0) [.set (kS false 1 []),.set (Ms.o Ms.nil false)]/\Con Try.prog 12 [.p 0 0,.i .i64 7,.agg [.i .i64 vv,.s ss]] [some (kS false 1 []),some
 (Ms.o Ms.nil false)] (.i .i64 0) [.set (kS true 2 []),.keep,.set (Ms.o m1 true)]/\True/\rg (vv+1)/\Con Try.prog 13 [.p 0 0,.l 2 0 1 2 3 true] [some (kS true 1 []),
 some (Ms.o m1 true),some (cellsO 53 (a6 7 (vv+1) d0 (-9) 0 []))] (.i .i64 0) [.set (kS true 3 [r1 7 (vv+1) d0]),.keep,.keep,.set (Ms.o m2 true),.gone]/\True/\True
 /\rg (vv+1)/\True/\(!(true && (decide (vv+1=vv+1) && (natsEq d0 d0 && true))))=false/\Con Try.prog 9 [.p 0 0] [some (kS true 1 [r1 7 (vv+1) d0]),some (Ms.o m2
 true)] (.tup [.lr 2 3 0 1 false,.b true]) [.keep,.keep,.set (AObj.rows 53 3 1 (uF (fun x=>7) (fun x=>vv+1) fun x=>d0))]/\Con Try.prog 9 [.p 0 0] [some (kS true 1
 [r1 7 (vv+1) d0]),some (Ms.o m2 true)] (.tup [.lr 2 3 0 1 false,.b true]) [.keep,.keep,.set (AObj.rows 53 3 1 (uF (fun x=>7) (fun x=>vv+1) fun x=>d0))]/\((0 :
 Int)<=(0:Int)/\(0:Int)<(1:Int))/\True/\0<1/\(1<=1/\True/\2<=140737488355328/\49344<=562949953421312)/\Con Try.prog 14 [.p 0 0] [some (kS true 1 [r1 7
 (vv+1) d0]),some (Ms.o m2 true)] (.b true) [.set (kS true 2 []),.keep,.set (Ms.o m3 true)]/\Con Try.prog 15 [.p 0 0] [some (kS true 1 []),some (Ms.o m3 true)] (.lr 2 3
 0 1 false) [.keep,.keep,.set (AObj.rows 53 3 1 (uF (fun x=>7) (fun x=>vv+1) fun x=>d0))]/\Con Try.prog 15 [.p 0 0] [some (kS true 1 []),some (Ms.o m3 true)] (.lr
 2 3 0 1 false) [.keep,.keep,.set (AObj.rows 53 3 1 (uF (fun x=>7) (fun x=>vv+1) fun x=>d0))]/\((0:Int)<=(0:Int)/\(0:Int)<(1:Int))/\True/\0<1/\Con
 Try.prog 7 [.p 0 0] [some (kS true 1 []),some (Ms.o m3 true)] (.tup [.agg (l2 (fun k=>.i .i64 (dV vv k)) (fun k=>.s (dD d0 k)) 128),.agg (l1 (fun k=>.b (Nat.beq k 7))
 128)]) [.keep,.keep]/\((0:Int)<=(0:Int)/\(0:Int)<(1:Int))/\0<1/\True/\rg (vv+1)/\True/\(true && (decide (vv+1=vv+1) && (natsEq d0 d0 && true))) =
 true/\(true && (decide (vv+1=vv+1) && (natsEq d0 d0 && true)))=true/\((0:Int)<=(0:Int)/\(0:Int)<(1:Int))/\(true && (decide (vv+1=vv+1) && (natsEq
 d0 d0 && true)))=true/\0<1/\(true && (decide (vv+1=vv+1) && (natsEq d0 d0 && true)))=true/\(true && (decide (vv+1=vv+1) && (natsEq d0 d0 && true))) =
 true/\((0:Int)<=(0:Int)/\(0:Int)<(1:Int))/\(true && (decide (vv+1=vv+1) && (natsEq d0 d0 && true)))=true/\0<1/\(true && (decide (vv+1=vv+1) &&
 (natsEq d0 d0 && true)))=true/\True/\(true && (decide (vv+1=vv+1) && (natsEq d0 d0 && true)))=true/\(true && (decide (vv+1=vv+1) && (natsEq d0 d0 &&
 true)))=true/\(true && (decide (vv+1=vv+1) && (natsEq d0 d0 && true)))=true/\(true && (decide (vv+1=vv+1) && (natsEq d0 d0 && true)))=true/\True/\(true
 && (decide (vv+1=vv+1) && (natsEq d0 d0 && true)))=true/\(true && (decide (vv+1=vv+1) && (natsEq d0 d0 && true)))=true/\rg (vv+1)/\(true && (decide (vv +
 1=vv+1) && (natsEq d0 d0 && true)))=true/\(true && (decide (vv+1=vv+1) && (natsEq d0 d0 && true)))=true/\(true && (decide (vv+1=vv+1) && (natsEq d0 d0
 && true)))=true/\True/\(true && (decide (vv+1=vv+1) && (natsEq d0 d0 && true)))=true/\(decide (dV vv 7=vv+1) && (natsEq (dD d0 7) d0 && true))=true/\
 (decide (dV vv 7=vv+1) && (natsEq (dD d0 7) d0 && true))=true/\(decide (dV vv 7=vv+1) && (natsEq (dD d0 7) d0 && true))=true/\(decide (dV vv 7=vv+1) &&
 (natsEq (dD d0 7) d0 && true))=true/\Lf):=by unfold VD VQ;kernel_rfl
theorem owC_con (m1 m2 m3:Ms) (le vv:Int) (ss d0:List Nat) (hv:0<=vv/\vv<=1099511627776) (n3:(decide (dV vv 7=vv+1) && (natsEq (dD d0 7) d0 && true))=true) (n0:natsEq d0 d0=true) (n1:decide (vv+1=vv+1)=true) (n2:(true && (decide (vv+1=vv+1) && (natsEq d0 d0 && true)))=true) (kldO:Con Try.prog 12 [.p 0 0,.i .i64 7,.agg [.i .i64 vv,.s ss]] [some (kS false 1 []),some (Ms.nil.o false)] (.i .i64 0) [.set (kS true 2 []),.keep,.set (m1.o true)]) (kcmO:Con Try.prog 13 [.p 0 0,.l 2 0 1 2 3 true] [some (kS true 1 []),some (m1.o true),some (cellsO 53 (a6 7 (vv+1) d0 (-9) 0 []))] (.i .i64 0) [.set (kS true 3 [r1 7 (vv+1) d0]),.keep,.keep,.set (m2.o true),.gone]) (kfiR:Con Try.prog 9 [.p 0 0] [some (kS true 1 [r1 7 (vv+1) d0]),some (m2.o true)] (.tup [.lr 2 3 0 1 false,.b true]) [.keep,.keep,.set (.rows 53 3 1 (uF (fun _=>7) (fun _=>vv+1) (fun _=>d0)))]) (klgO:Con Try.prog 14 [.p 0 0] [some (kS true 1 [r1 7 (vv+1) d0]),some (m2.o true)] (.b true) [.set (kS true 2 []),.keep,.set (m3.o true)]) (krdO:Con Try.prog 15 [.p 0 0] [some (kS true 1 []),some (m3.o true)] (.lr 2 3 0 1 false) [.keep,.keep,.set (.rows 53 3 1 (uF (fun _=>7) (fun _=>vv+1) (fun _=>d0)))]) (kdkO:Con Try.prog 7 [.p 0 0] [some (kS true 1 []),some (m3.o true)] (.tup [.agg (l2 (fun k=>.i .i64 (dV vv k)) (fun k=>.s (dD d0 k)) 128),.agg (l1 (fun k=>.b (Nat.beq k 7)) 128)]) [.keep,.keep]):Con Try.prog 6 [.agg [.i .i64 vv,.s ss],.s d0] [] (.b true) []:=by
 have rv:rg (vv+1):=⟨by omega,by omega⟩
 exact con_d (owC0_vq (m1:=m1) (m2:=m2) (m3:=m3) (vv:=vv) (ss:=ss) (d0:=d0) (n3:=n3) (n0:=n0) (n1:=n1) (n2:=n2)) (by repeat' first | exact trivial | assumption | exact rfl | exact nT (by assumption) | exact nF (by assumption) | exact nnT (by assumption) | exact nnF (by assumption) | exact awake_con | exact new_con | assumption | assumption | assumption | assumption | assumption | assumption | omega | (simp;done) | apply And.intro | decide)
section
variable (v:Int) (s d:List Nat)
noncomputable def w1:Ms:=Ms.nil.re.put 7 v s false 0
noncomputable def w2:Ms:=cmS (w1 v s).re (fun _=>7) (fun _=>v+1) (fun _=>d) 1
noncomputable def w3:Ms:=lgS (w2 v s d).re (fun _=>7) 1
theorem iS_ne {α:Type} {F:Int->α} {n x:Int} {u:α} (h:¬x=n):iS F n u x=F x:=by unfold iS;rw [decide_eq_false h];rfl
theorem w3_V (x:Int):(w3 v s d).V x=if x=7 then v+1 else 0:=by
 by_cases h:x=7
 · subst h;rw [if_pos rfl];kernel_rfl
 · rw [if_neg h]
   show iS (w2 v s d).V 7 _ x=0
   rw [iS_ne h]
   show iS (w1 v s).V 7 _ x=0
   rw [iS_ne h]
   show iS (fun _=>0) 7 _ x=0
   rw [iS_ne h]
theorem w3_D (x:Int):(w3 v s d).D x=if x=7 then d else []:=by
 by_cases h:x=7
 · subst h;rw [if_pos rfl];kernel_rfl
 · rw [if_neg h]
   show iS (w2 v s d).D 7 _ x=[]
   rw [iS_ne h]
   show iS (w1 v s).D 7 _ x=[]
   rw [iS_ne h]
   show iS (fun _=>[]) 7 _ x=[]
   rw [iS_ne h]
theorem w3_g (x:Int):(w3 v s d).g x=decide (x=7):=by
 by_cases h:x=7
 · subst h;kernel_rfl
 · rw [decide_eq_false h]
   show iS (w2 v s d).g 7 _ x=false
   rw [iS_ne h]
   show iS (w1 v s).g 7 _ x=false
   rw [iS_ne h]
   show iS (fun _=>false) 7 _ x=false
   rw [iS_ne h]
theorem w3_r:rdl (w3 v s d) 80=[7]:=by kernel_rfl
theorem w1_U:∀x,uB ((w1 v s).U x):=iS_all (fun _=>uB0) uB0
theorem w2_U:∀x,uB ((w2 v s d).U x):=iS_all (w1_U v s) (uBe (b:=1) (by kernel_rfl) ⟨by decide,by decide⟩)
theorem natsEq_refl (a:List Nat):natsEq a a=true:=(natsEq_iff a a).2 rfl
theorem natCast7 (k:Nat):Nat.beq k 7=decide ((k:Int)=7):=by
 by_cases h:k=7
 · subst h;rfl
 · rw [decide_eq_false (by omega)]
   cases hb:Nat.beq k 7 with
   | false=>rfl
   | true=>exact absurd (Nat.eq_of_beq_eq_true hb) h
theorem w6_con (hb:Byt d) (b w b2 w2:Int) (s2:List Nat):Con Try.prog 31 [.l 0 0 1 2 3 true] [some (cellsO 53 (a6 b w d b2 w2 s2))] (.tup [.i .i64 (wdN 1 (fun _=>b) (fun _=>w) (fun _=>d)),.i .i64 (encE 1 (fun _=>b) (fun _=>w) (fun _=>d))]) [.keep]:=by
 have h:=con_argsW (a:=[lit6 b w d b2 w2 s2]) (width_we (n:=1) (B:=fun _=>b) (W:=fun _=>w) (E:=fun _=>d) (by omega) (fun _ _=>hb)) ⟨lit6_w b w d b2 w2 s2,trivial⟩
 refine h.borrow [0] (((0+1*3<=6)/\True)/\True) (by kernel_rfl) (by kernel_rfl) (by kernel_rfl) ⟨⟨by decide,trivial⟩,trivial⟩ (by kernel_rfl) (by kernel_rfl) ?_
 intro ρ ρ' x hx
 cases hx with | tup _ _ h=>
 cases h with | cons _ _ _ _ h1 h=>
 cases h with | cons _ _ _ _ h2 h=>
 cases h;cases h1;cases h2
 exact .tup _ [_,_] (.cons _ _ _ _ (.i _ _) (.cons _ _ _ _ (.i _ _) .nil))
theorem cacheOwn_con (hd:Byt d):Con Try.prog 6 [.agg [.i .i64 v,.s s],.s d] [] (.b true) []:=by
 by_cases hl:ldE Ms.nil 7 v s=0
 · have hb:blB v s=true:=by
    unfold ldE at hl
    rw [(by kernel_rfl:hmB 7=true)] at hl
    cases h:blB v s with
    | true=>rfl
    | false=>rw [h] at hl;simp at hl
   have hv:0<=v/\v<=1099511627776:=by
    unfold blB wi at hb
    simp only [Bool.and_eq_true,decide_eq_true_eq] at hb
    exact hb.1
   have n0:natsEq d d=true:=natsEq_refl d
   have n1:decide (v+1=v+1)=true:=decide_eq_true rfl
   have n2:(true && (decide (v+1=v+1) && (natsEq d d && true)))=true:=by rw [n0,n1];rfl
   have ld:=load_ok false Ms.nil [] 7 v s hl
   have w6:=w6_con d hd 7 (v+1) (-9) 0 []
   cases he:encB 1 (fun _=>7) (fun _=>v+1) (fun _=>d) with
   | false=>
     refine owB_con (w1 v s) (w1 v s) (w1 v s) 0 v s d hv n0 n1 n2 ld ?_
     exact cn6_con 7 (v+1) (-9) 0 d [] true _ _ _ _ _ _ (rcL []) _ _ (by unfold encE;rw [he];rfl) w6
   | true=>
     have n3:(decide (dV v 7=v+1) && (natsEq (dD d 7) d && true))=true:=n2
     refine owC_con (w1 v s) (w2 v s d) (w3 v s d) 0 v s d hv n3 n0 n1 n2 ld ?_ (first_rows true (w2 v s d) (r1 7 (v+1) d) [] (Nat.zero_le _) (by simp)) (logged_ok true (w2 v s d) (r1 7 (v+1) d) [] (Nat.zero_le _) (by simp) (w2_U v s d)) ?_ ?_
     · have k:=cm6_con 7 (v+1) (-9) 0 d [] true (w1 v s).g (w1 v s).V (w1 v s).D (w1 v s).Y (w1 v s).U (w1 v s).c (rcL []) _ _ (by kernel_rfl) (by rw [(by kernel_rfl:(w1 v s).V 7=v)];exact n1) (by rw [(by kernel_rfl:(w1 v s).V 7=v)];omega) (by rw [(by kernel_rfl:(w1 v s).U 7=0)];decide) (by unfold encE;rw [he];rfl) w6
       rw [f4_set] at k
       have k2:Con Try.prog 13 [.p 0 0,.l 2 0 1 2 3 true] [some (kS true 1 []),some ((w1 v s).o true),some (cellsO 53 (a6 7 (v+1) d (-9) 0 []))] (.i .i64 0) [.set (kO true 3 (.lr 4 1 0 1 false)),.keep,.keep,.set ((w2 v s d).o true),.set (.rows 31 1 1 (listF 1 [.sv 3 1 (uF (fun _=>7) (fun _=>v+1) (fun _=>d))] 1))]:=k
       refine (k2.freeze (us':=[.set (kO true 3 (.sv 1 1 (shiftF 0 (listF 1 [.sv 3 1 (uF (fun _=>7) (fun _=>v+1) (fun _=>d))] 1)))),.keep,.keep,.set ((w2 v s d).o true),.gone]) (v':=.i .i64 0) 4 rfl ⟨?_,.refl _,.refl _,.refl _,rfl,trivial⟩ (.inl rfl)).post (.refl _) ⟨?_,.refl _,.refl _,.refl _,.refl _,trivial⟩
       · exact FO.cells ⟨.inl rfl,.inr ⟨by kernel_rfl,(show 1=1/\0+1<=1 from ⟨rfl,by omega⟩),rfl⟩,trivial⟩
       · refine OV.cells ⟨.refl _,?_,trivial⟩
         refine .svW fun i j hi hj=>.of ?_
         obtain rfl:i=0:=by omega
         obtain rfl:j=0:=by omega
         rfl
     · have h:=ready_rows true (w3 v s d) []
       rw [w3_r] at h
       refine h.post (.refl _) ⟨.refl _,.refl _,.rowsW fun i j hi hj=>.of ?_,trivial⟩
       have:i<1:=hi
       obtain rfl:i=0:=by omega
       match j,hj with
       | 0,_=>rfl
       | 1,_=>exact congrArg (CV.i .i64) (by kernel_rfl)
       | 2,_=>exact congrArg CV.s (by kernel_rfl)
     · have h:=disk_con true (.sv 1 0 (rcL [])) (w3 v s d).g (w3 v s d).V (w3 v s d).D (w3 v s d).Y (w3 v s d).U (w3 v s d).c (fun n hn=>by rw [w3_g] at hn;have:=of_decide_eq_true hn;omega)
       have e1:(fun k:Nat=>AV.i .i64 ((w3 v s d).V k))=fun k=>.i .i64 (dV v k):=by
        funext k
        rw [w3_V];unfold dV;rw [natCast7]
        by_cases q:(k:Int)=7<;>simp [q]
       have e2:(fun k:Nat=>AV.s ((w3 v s d).D k))=fun k=>.s (dD d k):=by
        funext k
        rw [w3_D];unfold dD;rw [natCast7]
        by_cases q:(k:Int)=7<;>simp [q]
       have e3:(fun k:Nat=>AV.b ((w3 v s d).g k))=fun k=>.b (Nat.beq k 7):=by
        funext k
        rw [w3_g,natCast7]
       rw [e1,e2,e3] at h
       exact h
 · exact owA_con Ms.nil Ms.nil Ms.nil (ldE Ms.nil 7 v s) v s d (decide_eq_false hl) (natsEq_refl d) (decide_eq_true rfl) (by rw [natsEq_refl d];simp) (load_no false Ms.nil [] 7 v s hl)
end
end Go.Proofs.Ly
