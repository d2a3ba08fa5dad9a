/- Runs over unknown values, told by the kernel: part GC. -/
import Derived.Test.YtfpebgpcpoefpaaGreatDoorGB
noncomputable section
open Int (ofNat)
set_option linter.unusedSimpArgs false
set_option linter.unusedVariables false
set_option maxRecDepth 20000
namespace Go.Proofs.Cl
open Go Go.Sim Go.Proofs Go.Proofs.Cd Go.Proofs.St Go.Proofs.YtfpebgpcpoefpaaGreatDoor
structure CS where
 n:Nat
 q:Nat->Nat
 d:Nat->List Nat
 sp:Nat->Nat
 dead:Bool
def CS.o (c:CS):AObj:=clO c.n c.q c.d c.sp c.dead
theorem has_vc (n:Nat) (cq:Nat->Nat) (cd:Nat->List Nat) (cs:Nat->Nat) (dd:Bool) (ss:SS) (i:Int) (K:Res->Orc->Prop):runK Tryz.prog 1000000 (.call 133 [.p 0 0,.i .i64 i] (mkH [some (clO n cq cd cs dd),some ss.o])) (.s (.t (.t (.inl (.c (.t (.t .z)))))) (of_ 4 .z)) K=((decide (0<=i)=true->decide (0<=i)=true/\decide (0<=i)=true/\True/\True/\True/\decide (0<=i)=true/\decide (0<=i)=true/\K (.rv (.b (decide (i<ofNat n))) ⟨zz1 (AObj.segs 175 771 [⟨1,1,1,oneF (CV.i .i64 (ofNat n))⟩,⟨2,3,256,cellF cq cd cs⟩,⟨770,1,1,oneF (CV.b dd)⟩] [(0,.p 1 0)]) (zzl (SS.o ss)) .e,2,[]⟩) .z)/\(decide (0<=i)=false->decide (0<=i)=false/\decide (0<=i)=false/\decide (0<=i)=false/\decide (0<=i)=false/\K (.rv (.b false) ⟨zz1 (AObj.segs 175 771 [⟨1,1,1,oneF (CV.i .i64 (ofNat n))⟩,⟨2,3,256,cellF cq cd cs⟩,⟨770,1,1,oneF (CV.b dd)⟩] [(0,.p 1 0)]) (zzl (SS.o ss)) .e,2,[]⟩) .z)):=by kernel_rfl
theorem len_vc (n:Nat) (cq:Nat->Nat) (cd:Nat->List Nat) (cs:Nat->Nat) (dd:Bool) (ss:SS) (K:Res->Orc->Prop):runK Tryz.prog 1000000 (.call 157 [.p 0 0] (mkH [some (clO n cq cd cs dd),some ss.o])) (.c .z) K=(True/\True/\True/\K (.rv (inv n) ⟨zz1 (AObj.segs 175 771 [⟨1,1,1,oneF (CV.i .i64 (ofNat n))⟩,⟨2,3,256,cellF cq cd cs⟩,⟨770,1,1,oneF (CV.b dd)⟩] [(0,.p 1 0)]) (zzl (SS.o ss)) .e,2,[]⟩) .z):=by kernel_rfl
theorem has_con (c:CS) (s:SS) (i:Int):Con Tryz.prog 133 [.p 0 0,.i .i64 i] [some c.o,some s.o] (.b (decide (0<=i/\i<ofNat c.n))) [.keep,.keep]:=by
 refine con_of_run [] [] ((has_vc c.n c.q c.d c.sp c.dead s i _).mpr ⟨fun h=>?_,fun h=>?_⟩)
 · have h':0<=i:=of_decide_eq_true h
   have e:decide (0<=i/\i<ofNat c.n)=decide (i<ofNat c.n):=by simp [h']
   rw [e]
   exact ⟨h,h,trivial,trivial,trivial,h,h,_,_,rfl,ret_k (by kernel_rfl)⟩
 · have h':¬0<=i:=of_decide_eq_false h
   have e:decide (0<=i/\i<ofNat c.n)=false:=by simp [h']
   rw [e]
   exact ⟨h,h,h,h,_,_,rfl,ret_k (by kernel_rfl)⟩
theorem len_con (c:CS) (s:SS):Con Tryz.prog 157 [.p 0 0] [some c.o,some s.o] (.i .i64 (ofNat c.n)) [.keep,.keep]:=
 con_of_run [] [] ((len_vc c.n c.q c.d c.sp c.dead s _).mpr ⟨trivial,trivial,trivial,_,_,rfl,ret_k (by kernel_rfl)⟩)
def CS.getQ (c:CS) (i:Int):Nat:=match decide (0<=i/\i<ofNat c.n) with
 | true=>c.q i.toNat
 | false=>0
def CS.getD (c:CS) (i:Int):List Nat:=match decide (0<=i/\i<ofNat c.n) with
 | true=>c.d i.toNat
 | false=>[]
def CS.at_ (c:CS) (i:Int):Int:=i*2+ofNat (c.sp i.toNat)
def CS.nx (c:CS) (i:Int):Int:=ofNat (c.q i.toNat)+1
def CS.no (c:CS) (i:Int) (x:List Nat):Int:=match c.dead with
 | true=>13
 | false=>match decide (0<=i/\i<ofNat c.n) with
   | false=>2
   | true=>match decide ((51:Int)<ofNat x.length) with
     | true=>2
     | false=>match decide ((1099511627776:Int)<=ofNat (c.q i.toNat)) with
       | true=>15
       | false=>0
def CS.putE (c:CS) (s:SS) (i:Int) (x:List Nat):Int:=match decide (c.no i x=0) with
 | false=>c.no i x
 | true=>match decide (cmE s (c.at_ i) (c.nx i) x=0) with
   | true=>0
   | false=>13
def CS.upd (c:CS) (k:Nat) (q:Nat) (x:List Nat) (p:Nat):CS:=
 { c with q:=fun j=>bif Nat.beq j k then q else c.q j,d:=fun j=>bif Nat.beq j k then x else c.d j,sp:=fun j=>bif Nat.beq j k then p else c.sp j}
def CS.putC (c:CS) (s:SS) (i:Int) (x:List Nat):CS:=match decide (c.no i x=0) with
 | false=>c
 | true=>match decide (cmE s (c.at_ i) (c.nx i) x=0) with
   | true=>c.upd i.toNat (c.q i.toNat+1) x (1-c.sp i.toNat)
   | false=>{ c with dead:=true}
def CS.putS (c:CS) (s:SS) (i:Int) (x:List Nat):SS:=match decide (c.no i x=0) with
 | false=>s
 | true=>cmS s (c.at_ i) (c.nx i) x
theorem setRow3 {f:Nat->Nat->CV} {k:Nat} {a b e:CV} (i j:Nat) (hj:j<3):CW (setRow f k 0 [a,b,e] i j) (bif Nat.beq i k then [a,b,e].getD j .p0 else f i j):=by
 have:j=0\/j=1\/j=2:=by omega
 rcases this with rfl | rfl | rfl<;>exact (zipCV_CW _ _ _).trans (.of (by cases Nat.beq i k<;>exact Eq.refl _))
def nwQ (q1 q2:Nat):Nat:=match Nat.blt q1 q2 with
 | true=>q2
 | false=>q1
def nwD (q1 q2:Nat) (d1 d2:List Nat):List Nat:=match Nat.blt q1 q2 with
 | true=>d2
 | false=>d1
def nwS (q1 q2:Nat):Nat:=match Nat.blt q1 q2 with
 | true=>0
 | false=>match Nat.beq q1 0 with
   | true=>0
   | false=>1
theorem newer_vc (q1 q2:Nat) (d1 d2:List Nat) (K:Res->Orc->Prop):runK Tryz.prog 1000000 (.call 128 [.agg [inv q1,.s d1],.agg [inv q2,.s d2]] (mkH [])) (.s (.s (ot 3 (.s .z .z)) (of_ 3 (.c .z))) (.s (ot 3 (.s .z .z)) (of_ 3 (.c .z)))) K=((fun (q6:Bool)=>((fun (q5:Bool)=>((fun (q4:List AV)=>((fun (q3:Bool)=>((fun (q0:Bool)=>(True/\True/\(decide (ofNat q1<ofNat q2)=true->True/\(q0=true->q0=true/\q0=true/\True/\q0=true/\((!q5)=true->K (.rv (.agg [inv q2,.s d2,.i .i64 1]) ⟨zz1 (AObj.cells 90 2 [] (zz1 (inv q1) (zzl (.s d1)) .e)) (zz1 (AObj.cells 90 2 [] (zz1 (inv q2) (zzl (.s d2)) .e)) (zzl (AObj.cells 90 2 [.i .i64 0,.s []] (zz1 (inv q2) (zzl (.s d2)) .e))) .e) (zzl (AObj.cells 172 3 q4 (zz1 (inv q2) (zzl (.s d2)) (zzl (.i .i64 1))))),4,[2,3,3,3,2,1,0]⟩) .z)/\((!q5)=false->K (.rv (.agg [inv q2,.s d2,.i .i64 0]) ⟨zz1 (AObj.cells 90 2 [] (zz1 (inv q1) (zzl (.s d1)) .e)) (zz1 (AObj.cells 90 2 [] (zz1 (inv q2) (zzl (.s d2)) .e)) (zzl (AObj.cells 90 2 [.i .i64 0,.s []] (zz1 (inv q2) (zzl (.s d2)) .e))) .e) (zzl (AObj.cells 172 3 q4 (zz1 (inv q2) (zzl (.s d2)) (zzl (.i .i64 0))))),4,[2,3,3,3,2,1,0]⟩) .z))/\(q0=false->q0=false/\q0=false/\q0=false/\K (.rv (.agg [inv q2,.s d2,.i .i64 0]) ⟨zz1 (AObj.cells 90 2 [] (zz1 (inv q1) (zzl (.s d1)) .e)) (zz1 (AObj.cells 90 2 [] (zz1 (inv q2) (zzl (.s d2)) .e)) (zzl (AObj.cells 90 2 [.i .i64 0,.s []] (zz1 (inv q2) (zzl (.s d2)) .e))) .e) (zzl
 (AObj.cells 172 3 q4 (zz1 (inv q2) (zzl (.s d2)) (zzl (.i .i64 0))))),4,[2,3,3,3,2,1,0]⟩) .z))/\(decide (ofNat q1<ofNat q2)=false->True/\(q3=true->q3=true/\q3=true/\True/\q3=true/\((!q6)=true->K (.rv (.agg [inv q1,.s d1,.i .i64 1]) ⟨zz1 (AObj.cells 90 2 [] (zz1 (inv q1) (zzl (.s d1)) .e)) (zz1 (AObj.cells 90 2 [] (zz1 (inv q2) (zzl (.s d2)) .e)) (zzl (AObj.cells 90 2 [.i .i64 0,.s []] (zz1 (inv q1) (zzl (.s d1)) .e))) .e) (zzl (AObj.cells 172 3 q4 (zz1 (inv q1) (zzl (.s d1)) (zzl (.i .i64 1))))),4,[2,3,3,2,1,0]⟩) .z)/\((!q6)=false->K (.rv (.agg [inv q1,.s d1,.i .i64 0]) ⟨zz1 (AObj.cells 90 2 [] (zz1 (inv q1) (zzl (.s d1)) .e)) (zz1 (AObj.cells 90 2 [] (zz1 (inv q2) (zzl (.s d2)) .e)) (zzl (AObj.cells 90 2 [.i .i64 0,.s []] (zz1 (inv q1) (zzl (.s d1)) .e))) .e) (zzl (AObj.cells 172 3 q4 (zz1 (inv q1) (zzl (.s d1)) (zzl (.i .i64 0))))),4,[2,3,3,2,1,0]⟩) .z))/\(q3=false->q3=false/\q3=false/\q3=false/\K (.rv (.agg [inv q1,.s d1,.i .i64 0]) ⟨zz1 (AObj.cells 90 2 [] (zz1 (inv q1) (zzl (.s d1)) .e)) (zz1 (AObj.cells 90 2 [] (zz1 (inv q2) (zzl (.s d2)) .e)) (zzl (AObj.cells 90 2 [.i .i64 0,.s []] (zz1 (inv q1) (zzl (.s d1)) .e))) .e) (zzl (AObj.cells 172 3 q4 (zz1 (inv q1) (zzl (.s d1)) (zzl (.i .i64 0))))),4,[2,3,3,2,1,0]⟩) .z)))) (decide (ofNat q2=ofNat q1) && (natsEq d2 d1 && true)))) (decide (ofNat q1=ofNat q1) && (natsEq d1 d1 && true)))) [.i .i64 0,.s [],.i .i64 0]))
 (decide (ofNat q2=0) && (natsEq d2 [] && true)))) (decide (ofNat q1=0) && (natsEq d1 [] && true))):=by kernel_rfl
theorem natsEq_same (a:List Nat):natsEq a a=true:=(natsEq_iff a a).2 rfl
theorem newer_con (q1 q2:Nat) (d1 d2:List Nat) (h:q1=0->d1=[]):Con Tryz.prog 128 [.agg [.i .i64 (ofNat q1),.s d1],.agg [.i .i64 (ofNat q2),.s d2]] [] (.agg [.i .i64 (ofNat (nwQ q1 q2)),.s (nwD q1 q2 d1 d2),.i .i64 (ofNat (nwS q1 q2))]) []:=by
 by_cases hlt:q1<q2
 · have b:Nat.blt q1 q2=true:=by rw [Nat.blt_eq];exact hlt
   have e1:nwQ q1 q2=q2:=by unfold nwQ;rw [b]
   have e2:nwD q1 q2 d1 d2=d2:=by unfold nwD;rw [b]
   have e3:nwS q1 q2=0:=by unfold nwS;rw [b]
   have d1':decide (ofNat q1<ofNat q2)=true:=by simp;omega
   have d2':(decide (ofNat q2=ofNat q1) && (natsEq d2 d1 && true))=false:=by
    have:decide (ofNat q2=ofNat q1)=false:=by simp;omega
    rw [this,Bool.false_and]
   rw [e1,e2,e3]
   refine con_of_run [] [] ((newer_vc q1 q2 d1 d2 _).mpr ?_)
   simp only [d1',d2',true_implies,false_implies,reduceCtorEq,and_true,true_and,Bool.true_eq_false,Bool.false_eq_true]
   repeat' first | exact trivial | refine And.intro ?_ ?_ | exact ⟨_,_,rfl,ret_k (by kernel_rfl)⟩
 · have b:Nat.blt q1 q2=false:=by rw [Bool.eq_false_iff,ne_eq,Nat.blt_eq];exact hlt
   have e1:nwQ q1 q2=q1:=by unfold nwQ;rw [b]
   have e2:nwD q1 q2 d1 d2=d1:=by unfold nwD;rw [b]
   have d1':decide (ofNat q1<ofNat q2)=false:=by simp<;>omega
   rw [e1,e2]
   by_cases hz:q1=0
   · have e3:nwS q1 q2=0:=by unfold nwS;rw [b,hz]
     have hd:=h hz
     subst hz;subst hd
     have dz:decide (ofNat 0=(0:Int))=true:=rfl
     rw [e3]
     refine con_of_run [] [] ((newer_vc 0 q2 [] d2 _).mpr ?_)
     simp only [d1',dz,decide_true,natsEq_same,Bool.and_self,Bool.false_and,Bool.not_false,Bool.not_true,true_implies,false_implies,reduceCtorEq,and_true,true_and,Bool.true_eq_false,Bool.false_eq_true]
     repeat' first | exact trivial | refine And.intro ?_ ?_ | exact ⟨_,_,rfl,ret_k (by kernel_rfl)⟩
   · have b2:Nat.beq q1 0=false:=by rw [Bool.eq_false_iff,ne_eq,Nat.beq_eq];exact hz
     have e3:nwS q1 q2=1:=by unfold nwS;rw [b,b2]
     have dz:decide (ofNat q1=(0:Int))=false:=decide_eq_false (by simp<;>omega)
     rw [e3]
     refine con_of_run [] [] ((newer_vc q1 q2 d1 d2 _).mpr ?_)
     simp only [d1',dz,decide_true,natsEq_same,Bool.and_self,Bool.false_and,Bool.not_false,Bool.not_true,true_implies,false_implies,reduceCtorEq,and_true,true_and,Bool.true_eq_false,Bool.false_eq_true]
     repeat' first | exact trivial | refine And.intro ?_ ?_ | exact ⟨_,_,rfl,ret_k (by kernel_rfl)⟩
theorem seeQ_zero (s:SS) (a:Int) (h:seeQ s a=0):seeD s a=[]:=by
 unfold seeQ at h
 unfold seeD
 cases hd:decide (s.rdE a=0) with
 | false=>rfl
 | true=>
   rw [hd] at h
   simp only at h⊢
   unfold lkQ at h
   unfold lkD
   cases ho:okB (rdC s a) with
   | false=>rw [cond_false]
   | true=>
     exfalso
     rw [ho,cond_true] at h
     unfold okB at ho
     simp only [Bool.and_eq_true,Nat.ble_eq] at ho
     have:=ho.2.2.1
     omega
def opQ (s:SS) (i:Nat):Nat:=nwQ (seeQ s (ofNat i*2+0)) (seeQ s (ofNat i*2+1))
def opD (s:SS) (i:Nat):List Nat:=nwD (seeQ s (ofNat i*2+0)) (seeQ s (ofNat i*2+1)) (seeD s (ofNat i*2+0)) (seeD s (ofNat i*2+1))
def opS (s:SS) (i:Nat):Nat:=nwS (seeQ s (ofNat i*2+0)) (seeQ s (ofNat i*2+1))
def opened (s:SS) (n:Nat):CS:=
 { n:=n,q:=fun i=>bif Nat.blt i n then opQ s i else 0,d:=fun i=>bif Nat.blt i n then opD s i else [],sp:=fun i=>bif Nat.blt i n then opS s i else 0,dead:=false}
def CS.oa (c:CS):AObj:=.segs 175 771 [⟨1,1,1,oneF (.i .i64 (ofNat c.n))⟩,⟨2,3,256,cellF c.q c.d c.sp⟩,⟨770,1,1,oneF (.b c.dead)⟩] [(0,.p 0 0)]
theorem openL_vc (s:SS) (n k:Nat) (ff fd:Nat->Nat->CV) (K:Res->Orc->Prop):runK Tryz.prog 1000000 (.code (loopAt Tryz.prog 100 0) 45 (mkT [(0,.p 0 0),(6,.p 1 0),(27,.i .i64 (ofNat n)),(28,.i .i64 (ofNat k))]) (mkH [some s.o,some (.segs 175 771 [⟨1,1,1,oneF (.i .i64 (ofNat n))⟩,⟨2,3,256,ff⟩,⟨770,1,1,fd⟩] [(0,.p 0 0)])])) (.s (.cal [0] (.agg [.i .i64 (ofNat (seeQ s (ofNat k*(2:Int)+(0:Int)))),.s (seeD s (ofNat k*(2:Int)+(0:Int)))]) [.keep] (.cal [0] (.agg [.i .i64 (ofNat (seeQ s (ofNat k*(2:Int)+(1:Int)))),.s (seeD s (ofNat k*(2:Int)+(1:Int)))]) [.keep] (.cal [] (.agg [.i .i64 (ofNat (nwQ (seeQ s (ofNat k*(2:Int)+(0:Int))) (seeQ s (ofNat k*(2:Int)+(1:Int))))),.s (nwD (seeQ s (ofNat k*(2:Int)+(0:Int))) (seeQ s (ofNat k*(2:Int)+(1:Int))) (seeD s (ofNat k*(2:Int)+(0:Int))) (seeD s (ofNat k*(2:Int)+(1:Int)))),.i .i64 (ofNat (nwS (seeQ s (ofNat k*(2:Int)+(0:Int))) (seeQ s (ofNat k*(2:Int)+(1:Int)))))]) [] (.s .z .z)))) .z) K=((fun (q0:Int)=>((decide (ofNat k<ofNat n)=true->Con Tryz.prog 129 [.p 0 0,inv k,.i .i64 0] [some (SS.o s)] (.agg [.i .i64 (ofNat (seeQ s q0)),.s (seeD s q0)]) [.keep]/\Con Tryz.prog 129 [.p 0 0,inv k,.i .i64 1] [some (SS.o s)] (.agg [.i .i64 (ofNat (seeQ s (ofNat k*(2:Int)+(1:Int)))),.s (seeD s (ofNat k*(2
 :Int)+(1:Int)))]) [.keep]/\Con Tryz.prog 128 [.agg [.i .i64 (ofNat (seeQ s q0)),.s (seeD s q0)],.agg [.i .i64 (ofNat (seeQ s (ofNat k*(2:Int)+(1:Int)))),.s (seeD s (ofNat k*(2:Int)+(1:Int)))]] [] (.agg [.i .i64 (ofNat (nwQ (seeQ s q0) (seeQ s (ofNat k*(2:Int)+(1:Int))))),.s (nwD (seeQ s q0) (seeQ s (ofNat k*(2:Int)+(1:Int))) (seeD s q0) (seeD s (ofNat k*(2:Int)+(1:Int)))),.i .i64 (ofNat (nwS (seeQ s q0) (seeQ s (ofNat k*(2:Int)+(1:Int)))))]) []/\True/\(0<=ofNat k/\ofNat k<256)/\k<256/\rg (ofNat k+1)/\K (.st .nrm (zz1 (.p 0 0) (zz0 (zz0 (zz1 (inv k) (zz0 (zzl (.p 1 0)) .e) (zz0 (zzl (.agg [.i .i64 (ofNat (nwQ (seeQ s q0) (seeQ s (ofNat k*(2:Int)+(1:Int))))),.s (nwD (seeQ s q0) (seeQ s (ofNat k*(2:Int)+(1:Int))) (seeD s q0) (seeD s (ofNat k*(2:Int)+(1:Int)))),.i .i64 (ofNat (nwS (seeQ s q0) (seeQ s (ofNat k*(2:Int)+(1:Int)))))])) .e)) (zz0 (zz0 (zzl (.agg [.i .i64 (ofNat (seeQ s q0)),.s (seeD s q0)])) .e) (zz1 (inv n) (zzl (.i .i64 (ofNat k+1))) .e))) (zz0 (zz0 (zz0 (zzl (.p 0 0)) .e) (zz0 (zzl (.p 1 2)) .e)) (zz0 (zz0 (zzn k) .e) (zzl (.b (decide (ofNat k<ofNat n))))))) (zz0 (zz0 (zz0 (zz0 (zzn k) .e) (zz0 (zzl (.p 1 0)) .e)) (zz0 (zz0 (zzl (.p 0 0)) .e) (zzl (.i .i64 (ofNat k+1))))) (zz1 (.p 1 0) (zz0 (zz0 (zzn k) .e) (zz0 (zzl (.ps 1 2 3 256 k)) .e)) (zz0 (zz0 (zzl
 (.agg [.i .i64 (ofNat (seeQ s (ofNat k*(2:Int)+(1:Int)))),.s (seeD s (ofNat k*(2:Int)+(1:Int)))])) .e) (zzn k))))) ⟨zz1 (SS.o s) (zzl (AObj.segs 175 771 [⟨1,1,1,oneF (CV.i .i64 (ofNat n))⟩,⟨2,3,256,setRow ff k 0 [CV.i .i64 (ofNat (nwQ (seeQ s q0) (seeQ s (ofNat k*(2:Int)+(1:Int))))),CV.s (nwD (seeQ s q0) (seeQ s (ofNat k*(2:Int)+(1:Int))) (seeD s q0) (seeD s (ofNat k*(2:Int)+(1:Int)))),CV.i .i64 (ofNat (nwS (seeQ s q0) (seeQ s (ofNat k*(2:Int)+(1:Int)))))]⟩,⟨770,1,1,fd⟩] [(0,.p 0 0)])) .e,2,[1]⟩) .z)/\(decide (ofNat k<ofNat n)=false->K (.st (.exit 0) (zz1 (.p 0 0) (zz0 (zz0 .e (zz0 .e (zzn n))) (zz0 .e (zz0 .e (zzl (.b (decide (ofNat k<ofNat n))))))) (zz0 (zz0 .e (zz0 .e (zzn k))) (zzl (.p 1 0)))) ⟨zz1 (SS.o s) (zzl (AObj.segs 175 771 [⟨1,1,1,oneF (CV.i .i64 (ofNat n))⟩,⟨2,3,256,ff⟩,⟨770,1,1,fd⟩] [(0,.p 0 0)])) .e,2,[]⟩) .z))) (ofNat k*(2:Int)+(0:Int))):=by kernel_rfl
theorem cellF_of {q:Nat->Nat} {d:Nat->List Nat} {sp:Nat->Nat} {i j:Nat} (hj:j<3):cellF q d sp i j=[CV.i .i64 (ofNat (q i)),.s (d i),.i .i64 (ofNat (sp i))].getD j .p0:=by
 have:j=0\/j=1\/j=2:=by omega
 rcases this with rfl | rfl | rfl<;>exact Eq.refl _
def zeroF:Nat->Nat->CV:=cellF (fun _=>0) (fun _=>[]) (fun _=>0)
theorem openL_seg (s:SS) (n:Nat) (hn:n<=256) (hs:s.n<=512) (hb:Byt s) :
 LDoes Tryz.prog (loopAt Tryz.prog 100 0) 45 1 (mkT [(0,.p 0 0),(6,.p 1 0),(27,.i .i64 (ofNat n)),(28,.i .i64 0)]) [some s.o,some (.segs 175 771 [⟨1,1,1,oneF (.i .i64 (ofNat n))⟩,⟨2,3,256,zeroF⟩,⟨770,1,1,oneF (.b false)⟩] [(0,.p 0 0)])] (.exit 0) (mkT [(6,.p 1 0)]) [some s.o,some (opened s n).oa]:=by
 refine loop_indV (D:=Nat×(Nat->Nat->CV)) (l':=[(6,.p 1 0)]) (fun d=>([(0,.p 0 0),(6,.p 1 0),(27,.i .i64 (ofNat n)),(28,.i .i64 (ofNat d.1))],[some s.o,some (.segs 175 771 [⟨1,1,1,oneF (.i .i64 (ofNat n))⟩,⟨2,3,256,d.2⟩,⟨770,1,1,oneF (.b false)⟩] [(0,.p 0 0)])])) (fun d=>n-d.1)
  (fun d=>d.1<=n/\(∀i j,i<d.1->j<3->CW (d.2 i j) (cellF (opened s n).q (opened s n).d (opened s n).sp i j))/\∀i j,d.1<=i->j<3->CW (d.2 i j) (zeroF i j)) ?_ (0,zeroF) ⟨Nat.zero_le _,fun i j hi=>by omega,fun i j _ _=>.refl _⟩
 rintro ⟨k,f⟩ ⟨hk,h1,h2⟩
 simp only at hk h1 h2
 refine ⟨by simp,_,_,(openL_vc s n k f _ _).mpr ⟨fun hlt=>?_,fun hge=>?_⟩⟩
 · have hlt:k<n:=by have:=of_decide_eq_true hlt;simp at this;omega
   have w1:=look_con s (ofNat k) 0 hs hb ⟨by simp,by simp;omega⟩ (by omega)
   have w2:=look_con s (ofNat k) 1 hs hb ⟨by simp,by simp;omega⟩ (by omega)
   have w3:=newer_con (seeQ s (ofNat k*2+0)) (seeQ s (ofNat k*2+1)) (seeD s (ofNat k*2+0)) (seeD s (ofNat k*2+1)) (seeQ_zero s _)
   refine ⟨w1,w2,w3,trivial,⟨by simp,by simp;omega⟩,by omega,⟨by simp;omega,by simp;omega⟩,.inl ⟨(k+1,setRow f k 0 [.i .i64 (ofNat (opQ s k)),.s (opD s k),.i .i64 (ofNat (opS s k))]),[0,1],[],_,_,
    [(0,.p 0 0),(6,.p 1 0),(27,.i .i64 (ofNat n)),(28,.i .i64 (ofNat (k+1)))],[some s.o,some (.segs 175 771 [⟨1,1,1,oneF (.i .i64 (ofNat n))⟩,⟨2,3,256,setRow f k 0 [.i .i64 (ofNat (opQ s k)),.s (opD s k),.i .i64 (ofNat (opS s k))]⟩,⟨770,1,1,oneF (.b false)⟩] [(0,.p 0 0)])],
    ⟨hlt,?_,?_⟩,by simp only;omega,rfl,st_k [0,1] (by kernel_rfl),.refl _,OVL.refl _⟩⟩
   · intro i j hi hj
     simp only at hi⊢
     refine (setRow3 i j hj).trans ?_
     cases hbq:Nat.beq i k with
     | true=>
       have e:=Nat.eq_of_beq_eq_true hbq
       subst e
       rw [cond_true,cellF_of hj]
       have b:Nat.blt i n=true:=by rw [Nat.blt_eq];exact hlt
       have q1:(opened s n).q i=opQ s i:=by show (bif Nat.blt i n then opQ s i else 0)= _;rw [b,cond_true]
       have q2:(opened s n).d i=opD s i:=by show (bif Nat.blt i n then opD s i else [])= _;rw [b,cond_true]
       have q3:(opened s n).sp i=opS s i:=by show (bif Nat.blt i n then opS s i else 0)= _;rw [b,cond_true]
       rw [q1,q2,q3]
       exact .refl _
     | false=>
       have e:i≠k:=by rintro rfl;simp at hbq
       rw [cond_false]
       exact h1 i j (by omega) hj
   · intro i j hi hj
     simp only at hi⊢
     refine (setRow3 i j hj).trans ?_
     have hbq:Nat.beq i k=false:=by rw [Bool.eq_false_iff,ne_eq,Nat.beq_eq];omega
     rw [hbq,cond_false]
     exact h2 i j (by omega) hj
 · have:k=n:=by have:=of_decide_eq_false hge;simp at this;omega
   subst this
   refine .inr ⟨[0,1],[],_,_,[(6,.p 1 0)],[some s.o,some (.segs 175 771 [⟨1,1,1,oneF (.i .i64 (ofNat k))⟩,⟨2,3,256,f⟩,⟨770,1,1,oneF (.b false)⟩] [(0,.p 0 0)])],rfl,by simp,st_k [0,1] (by kernel_rfl),.refl _,.refl _,.segsW ⟨.refl _,⟨rfl,rfl,rfl,fun i j hi hj=>?_⟩,.refl _,trivial⟩,trivial⟩
   by_cases c:i<k
   · exact h1 i j c hj
   · refine (h2 i j (by omega) hj).trans (.of ?_)
     have hj3:j<3:=hj
     show zeroF i j=cellF (opened s k).q (opened s k).d (opened s k).sp i j
     unfold zeroF
     rw [cellF_of hj3,cellF_of hj3]
     have b:Nat.blt i k=false:=by rw [Bool.eq_false_iff,ne_eq,Nat.blt_eq];omega
     have q1:(opened s k).q i=0:=by show (bif Nat.blt i k then opQ s i else 0)= _;rw [b,cond_false]
     have q2:(opened s k).d i=[]:=by show (bif Nat.blt i k then opD s i else [])= _;rw [b,cond_false]
     have q3:(opened s k).sp i=0:=by show (bif Nat.blt i k then opS s i else 0)= _;rw [b,cond_false]
     rw [q1,q2,q3]
def zc (m:Nat):List AV:=Nat.rec (motive:=fun _=>List AV) [.b false] (fun _ ih=>.i .i64 0 :: .s [] :: .i .i64 0 :: ih) m
def clL (n:Int):List AV:=.p 0 0 :: .i .i64 n :: zc 256
theorem zc_s (m:Nat):zc (m+1)=.i .i64 0 :: .s [] :: .i .i64 0 :: zc m:=rfl
theorem zc_len:∀m,(zc m).length=3*m+1
 | 0=>rfl
 | m+1=>by rw [zc_s];simp only [List.length_cons,zc_len m];omega
theorem zc_at:∀(m i j:Nat),i<m->j<3->(zc m)[i*3+j]? =some ([AV.i .i64 0,.s [],.i .i64 0].getD j .p0)
 | m+1,0,j,_,hj=>by
   rw [zc_s]
   have:j=0\/j=1\/j=2:=by omega
   rcases this with rfl | rfl | rfl<;>rfl
 | m+1,i+1,j,hi,hj=>by
   rw [zc_s,show (i+1)*3+j=(i*3+j)+3 by omega]
   simp only [List.getElem?_cons_succ]
   exact zc_at m i j (by omega) hj
theorem zc_last:∀m,(zc m)[3*m]? =some (.b false)
 | 0=>rfl
 | m+1=>by
   rw [zc_s,show 3*(m+1)=3*m+3 by omega]
   simp only [List.getElem?_cons_succ]
   exact zc_last m
theorem clL_len (n:Int):(clL n).length=771:=by
 show (zc 256).length+1+1=771
 rw [zc_len]
theorem cl_ox (n:Nat):OX (some (cellsO 175 (clL (ofNat n)))) (some (.segs 175 771 [⟨1,1,1,oneF (.i .i64 (ofNat n))⟩,⟨2,3,256,zeroF⟩,⟨770,1,1,oneF (.b false)⟩] [(0,.p 0 0)])):=by
 have hl:=clL_len (ofNat n)
 have at_:∀p v,p<771->(clL (ofNat n))[p]? =some v->cellAt 771 [] (setAll .e 0 (clL (ofNat n))) p=some v:=by
  intro p v hp h
  rw [<-hl,cellsD_at (by omega)];exact h
 unfold cellsO
 rw [hl]
 refine .cellsSegs (fun g hg=>?_) (fun y hy=>?_)
 · simp only [List.mem_cons,List.mem_nil_iff,or_false] at hg
   rcases hg with rfl | rfl | rfl
   · refine ⟨by simp only;omega,fun i j hi hj=>?_⟩
     have hi:i<1:=hi
     have hj:j<1:=hj
     obtain rfl:i=0:=by omega
     obtain rfl:j=0:=by omega
     exact ⟨.i .i64 (ofNat n),at_ 1 _ (by omega) rfl,fun ρ x hx=>by cases hx;exact .i _ _⟩
   · refine ⟨by simp only;omega,fun i j hi hj=>?_⟩
     have hi:i<256:=hi
     have hj:j<3:=hj
     refine ⟨[AV.i .i64 0,.s [],.i .i64 0].getD j .p0,?_,?_⟩
     · show cellAt 771 [] (setAll .e 0 (clL (ofNat n))) (2+i*3+j)= _
       refine at_ _ _ (by omega) ?_
       rw [show 2+i*3+j=(i*3+j)+1+1 by omega]
       show (zc 256)[i*3+j]? = _
       exact zc_at 256 i j hi hj
     · have:j=0\/j=1\/j=2:=by omega
       rcases this with rfl | rfl | rfl
       · intro ρ x hx;cases hx;exact .i _ _
       · intro ρ x hx;cases hx with | s _ _ e=>exact .s _ _ e
       · intro ρ x hx;cases hx;exact .i _ _
   · refine ⟨by simp only;omega,fun i j hi hj=>?_⟩
     have hi:i<1:=hi
     have hj:j<1:=hj
     obtain rfl:i=0:=by omega
     obtain rfl:j=0:=by omega
     refine ⟨.b false,?_,fun ρ x hx=>by cases hx;exact .b _⟩
     show cellAt 771 [] (setAll .e 0 (clL (ofNat n))) (770+0*1+0)= _
     refine at_ _ _ (by omega) ?_
     show (zc 256)[768]? = _
     exact zc_last 256
 · simp only [List.mem_cons,List.mem_nil_iff,or_false] at hy
   subst hy
   exact at_ 0 _ (by omega) rfl
theorem openL_lp (s:SS) (n:Nat) (hn:n<=256) (hs:s.n<=512) (hb:Byt s) :
 LDoes Tryz.prog (loopAt Tryz.prog 100 0) 45 1 (mkT [(0,.p 0 0),(6,.p 1 0),(27,.i .i64 (ofNat n)),(28,.i .i64 0)]) [some s.o,some (cellsO 175 (clL (ofNat n)))] (.exit 0) (mkT [(6,.p 1 0)]) [some s.o,some (opened s n).oa]:=by
 exact (openL_seg s n hn hs hb).ovl ⟨.refl _,.x (cl_ox n),trivial⟩
theorem open_vc (s:SS) (n:Int) (K:Res->Orc->Prop):runK Tryz.prog 1000000 (.call 100 [.p 0 0,.i .i64 n] (mkH [some s.o])) (.c (.s (.t (.f (.s .z (.cal [0] (inv (SS.n s)) [.keep] (.s .z (.cal [0] (.b (SS.off s)) [.keep] (.s .z (.c (.lop [0,1] [0,6,27,28] 1 (.exit 0) [(6,.p 1 0)] [some (SS.o s),some (CS.oa (opened s (Int.toNat n)))] .z))))))))) (.f (.t (.c .z))))) K=(True/\((!decide (n<1))=true->(!decide (n<1))=true/\decide (n<1)=false/\(decide (256<n)=true->K (.rv (.tup [.p0,.i .i64 2]) ⟨zzl (SS.o s),1,[]⟩) .z)/\(decide (256<n)=false->Con Tryz.prog 126 [.p 0 0] [some (SS.o s)] (inv (SS.n s)) [.keep]/\rg (n*2)/\(decide (ofNat (SS.n s)<n*2)=true->K (.rv (.tup [.p0,.i .i64 12]) ⟨zzl (SS.o s),1,[]⟩) .z)/\(decide (ofNat (SS.n s)<n*2)=false->Con Tryz.prog 127 [.p 0 0] [some (SS.o s)] (.b (SS.off s)) [.keep]/\(SS.off s=true->K (.rv (.tup [.p0,.i .i64 13]) ⟨zzl (SS.o s),1,[]⟩) .z)/\(SS.off s=false->LDoes Tryz.prog (loopAt Tryz.prog 100 0) 45 1 (mkT [(0,.p 0 0),(6,.p 1 0),(27,.i .i64 n),(28,.i .i64 0)]) [some (SS.o s),some (cellsO 175 (clL n))] (.exit 0) (mkT [(6,.p 1 0)]) [some (SS.o s),some (CS.oa (opened s (Int.toNat n)))]/\K (.rv (.tup [.p 2 0,.i .i64 0]) ⟨zz1 (SS.o s) (zz0 .e .e) (zzl (CS.oa (opened s (Int.toNat n)))),3,[2,1,0,1]⟩) .z))))/\((!decide (n<1))=false->(!decide (n<1))=false/\decide (n<1)=true/\K (.rv (.tup [.p0,.i .i64 2]) ⟨zzl (SS.o s),1,[]⟩) .z))
 :=by kernel_rfl
theorem open_con (s:SS) (n:Nat) (h1:1<=n) (h2:n<=256) (h3:2*n<=s.n) (hs:s.n<=512) (ho:s.off=false) (hb:Byt s) :
 Con Tryz.prog 100 [.p 0 0,.i .i64 (ofNat n)] [some s.o] (.tup [.p 1 0,.i .i64 0]) [.keep,.set (opened s n).oa]:=by
 have d1:decide (ofNat n<1)=false:=by simp;omega
 have d2:decide ((256:Int)<ofNat n)=false:=by simp;omega
 have d3:decide (ofNat s.n<ofNat n*2)=false:=by simp;omega
 refine con_of_run [] [2] ((open_vc s (ofNat n) _).mpr ⟨trivial,fun h=>⟨h,d1,fun h=>(by rw [d2] at h;cases h),fun _=>⟨len2_con s,by simp<;>omega,fun h=>(by rw [d3] at h;cases h),fun _=>⟨off2_con s,fun h=>(by rw [ho] at h;cases h),fun _=>⟨Eq.mp (by kernel_rfl) (openL_lp s n h2 hs hb),?_⟩⟩⟩⟩,fun h=>(by rw [d1] at h;cases h)⟩)
 exact ⟨_,_,rfl,ret_k (by kernel_rfl)⟩
structure Inv (c:CS) (s:SS) (m:Nat):Prop where
 hc:c.n<=256
 hs:2*c.n<=s.n
 sp:∀k,c.sp k<=1
 ok:OkM s m
 byt:Byt s
theorem Inv.mono {c:CS} {s:SS} {m k:Nat} (h:Inv c s m) (hm:m<=k):Inv c s k:=⟨h.hc,h.hs,h.sp,h.ok.mono hm,h.byt⟩
theorem Byt.new (n:Nat):Byt (SS.new n):=⟨fun _ _=>⟨0,by decide,rfl⟩,fun w hw=>by cases hw⟩
theorem OkM.new {n:Nat} (h:n<=512):OkM (SS.new n) 0:=⟨h,Nat.le_refl 0,Nat.le_refl 0,(by decide:(0:Nat)<9223372036854775808),fun w hw=>by cases hw⟩
theorem wrS_n (s:SS) (a:Int) (L:Nat) (bs:Nat->Int):(s.wrS a L bs).n=s.n:=by
 unfold SS.wrS
 split
 · rfl
 · split
   · rcases pay_or (s.wrote a.toNat bs) with e | e | e<;>rw [e]<;>rfl
   · rfl
theorem bar_n (s:SS):s.bar.n=s.n:=by
 unfold SS.bar
 split<;>rfl
theorem cmS_n (s:SS) (a q:Int) (d:List Nat):(cmS s a q d).n=s.n:=by
 unfold cmS
 split
 · rw [bar_n];exact wrS_n _ _ _ _
 · exact wrS_n _ _ _ _
theorem cmS_ok {s:SS} {m a:Nat} (h:OkM s m) (ha:a<s.n) (q:Int) (d:List Nat):OkM (cmS s (ofNat a) q d) (m+1):=by
 unfold cmS
 split
 · exact OkM.bar (h.wrS ha _)
 · exact h.wrS ha _
theorem cmS_byt {s:SS} {a:Nat} (h:Byt s) (ha:a<s.n) (q:Int) (d:List Nat) (hd:∀x∈d,x<256):Byt (cmS s (ofNat a) q d):=by
 have hb:∀j,∃n:Nat,n<256/\(fun k=>ofNat (sectB q.toNat d k)) j=ofNat n:=fun j=>⟨sectB q.toNat d j,sectB_lt hd j,rfl⟩
 unfold cmS
 split
 · exact Byt.bar (h.wrS ha hb)
 · exact h.wrS ha hb
theorem no_in {c:CS} {i:Int} {x:List Nat} (h:c.no i x=0):c.dead=false/\(0<=i/\i<ofNat c.n)/\x.length<=51/\c.q i.toNat<1099511627776:=by
 unfold CS.no at h
 split at h
 · cases h
 · rename_i hd
   split at h
   · cases h
   · rename_i hi
     split at h
     · cases h
     · rename_i hl
       split at h
       · cases h
       · rename_i hq
         have h1:=of_decide_eq_true hi
         have h2:=of_decide_eq_false hl
         have h3:=of_decide_eq_false hq
         simp at h2 h3
         exact ⟨hd,h1,by omega,by omega⟩
theorem Inv.at_ {c:CS} {s:SS} {m:Nat} (h:Inv c s m) {i:Int} (hi:0<=i/\i<ofNat c.n):c.at_ i=ofNat (i.toNat*2+c.sp i.toNat)/\i.toNat*2+c.sp i.toNat<s.n:=by
 have:=h.hs;have:=h.sp i.toNat
 have h2:=hi.2;simp at h2
 refine ⟨?_,by omega⟩
 unfold CS.at_
 simp;omega
theorem Inv.put {c:CS} {s:SS} {m:Nat} (h:Inv c s m) (i:Int) (x:List Nat) (hx:∀b∈x,b<256):Inv (c.putC s i x) (c.putS s i x) (m+1):=by
 cases hd:decide (c.no i x=0) with
 | false=>
   have e1:c.putC s i x=c:=by unfold CS.putC;rw [hd]
   have e2:c.putS s i x=s:=by unfold CS.putS;rw [hd]
   rw [e1,e2];exact h.mono (Nat.le_succ m)
 | true=>
   obtain ⟨_,hi,hl,_⟩:=no_in (of_decide_eq_true hd)
   obtain ⟨ea,ha⟩:=h.at_ hi
   have e2:c.putS s i x=cmS s (ofNat (i.toNat*2+c.sp i.toNat)) (c.nx i) x:=by unfold CS.putS;rw [hd,<-ea]
   have ok:=cmS_ok h.ok ha (c.nx i) x
   have bt:=cmS_byt h.byt ha (c.nx i) x hx
   have en:=cmS_n s (ofNat (i.toNat*2+c.sp i.toNat)) (c.nx i) x
   rw [<-e2] at ok bt en
   have hs:=h.hs
   cases hE:decide (cmE s (c.at_ i) (c.nx i) x=0) with
   | true=>
     have e1:c.putC s i x=c.upd i.toNat (c.q i.toNat+1) x (1-c.sp i.toNat):=by unfold CS.putC;rw [hd];simp only;rw [hE]
     rw [e1]
     refine ⟨h.hc,by rw [en];exact hs,fun k=>?_,ok,bt⟩
     show (bif Nat.beq k i.toNat then 1-c.sp i.toNat else c.sp k)<=1
     cases Nat.beq k i.toNat with
     | true=>rw [cond_true];omega
     | false=>rw [cond_false];exact h.sp k
   | false=>
     have e1:c.putC s i x={ c with dead:=true}:=by unfold CS.putC;rw [hd];simp only;rw [hE]
     rw [e1]
     exact ⟨h.hc,by rw [en];exact hs,h.sp,ok,bt⟩
theorem nwS_le (a b:Nat):nwS a b<=1:=by
 unfold nwS
 split
 · omega
 · split<;>omega
theorem Inv.opened {s:SS} {n m:Nat} (h1:n<=256) (h2:2*n<=s.n) (ok:OkM s m) (hb:Byt s):Inv (opened s n) s m:=
 ⟨h1,h2,fun k=>by
   show (bif Nat.blt k n then opS s k else 0)<=1
   cases Nat.blt k n
   · rw [cond_false];omega
   · rw [cond_true];exact nwS_le _ _,ok,hb⟩
theorem OkM.arm {s:SS} {m:Nat} (h:OkM s m) {k:Int} (hk:k<=9223372036854775807):OkM (s.arm k) m:=⟨h.n,h.P,h.wr,by show k.toNat<_;omega,h.at_⟩
theorem Byt.arm {s:SS} (h:Byt s) (k:Int):Byt (s.arm k):=⟨h.dur,h.P⟩
theorem lay_byt {s:SS} (h:Byt s) (q:Nat) (b:Bool):Byt (s.lay q (fun _=>0) b):=⟨fun i j=>by
 show ∃n:Nat,n<256/\(bif Nat.beq i q then (fun _=>(0:Int)) else s.dur i) j=ofNat n
 cases Nat.beq i q
 · exact h.dur i j
 · exact ⟨0,by decide,rfl⟩,h.P⟩
theorem revived_or (s:SS) (kk:Int) (tt:Bool):s.revived kk tt=s\/(s.revived kk tt).n=s.n/\(s.revived kk tt).wr=s.wr/\(s.revived kk tt).left=s.left/\(s.revived kk tt).P=[]/\(s.revived kk tt).off=false/\(Byt s->Byt (s.revived kk tt)):=by
 unfold SS.revived
 split
 · exact .inl rfl
 · refine .inr ?_
   split
   · exact ⟨rfl,rfl,rfl,rfl,rfl,fun h=>⟨(lay_byt (h.flush _) _ true).dur,fun w hw=>by cases hw⟩⟩
   · exact ⟨rfl,rfl,rfl,rfl,rfl,fun h=>⟨(h.flush _).dur,fun w hw=>by cases hw⟩⟩
theorem OkM.revived {s:SS} {m:Nat} (h:OkM s m) (kk:Int) (tt:Bool):OkM (s.revived kk tt) m:=by
 rcases revived_or s kk tt with e | ⟨e1,e2,e3,e4,_,_⟩
 · rw [e];exact h
 · exact ⟨by rw [e1];exact h.n,by rw [e4];exact Nat.zero_le _,by rw [e2];exact h.wr,by rw [e3];exact h.left,fun w hw=>by rw [e4] at hw;cases hw⟩
theorem Byt.revived {s:SS} (h:Byt s) (kk:Int) (tt:Bool):Byt (s.revived kk tt):=by
 rcases revived_or s kk tt with e | ⟨_,_,_,_,_,e⟩
 · rw [e];exact h
 · exact e h
end Go.Proofs.Cl
/- A replica's block: its cells, and whether it is dead. -/
namespace Go.Proofs.Cl
open Go Go.Sim Go.Proofs Go.Proofs.St
def z0 {α:Type} (a b:T α):T α:=T.n none a b
def z1 {α:Type} (v:α) (a b:T α):T α:=T.n (some v) a b
def zl {α:Type} (v:α):T α:=T.n (some v) T.e T.e
def rclO (n:Nat) (q:Nat->Nat) (d:Nat->List Nat) (sp:Nat->Nat) (dead rd:Bool):AObj:=
 .segs 177 772 [⟨1,1,1,oneF (.i .i64 (ofNat n))⟩,⟨2,3,256,cellF q d sp⟩,⟨770,1,1,oneF (.b dead)⟩,⟨771,1,1,oneF (.b rd)⟩] [(0,.p 1 0)]
def CS.ro (c:CS) (rd:Bool):AObj:=rclO c.n c.q c.d c.sp c.dead rd
end Go.Proofs.Cl
namespace Go.Proofs.Cl
open Go Go.Sim Go.Proofs Go.Proofs.Cd Go.Proofs.St Go.Proofs.YtfpebgpcpoefpaaGreatDoor
theorem numR_vc (L n i:Nat) (b:Nat->Nat) (K:Res->Orc->Prop):runK Tryz.prog 1000000 (.code (loopAt Tryz.prog 78 0) 43 (mkT [(0,.sv 1 L (byF b)),(5,.i .i64 (ofNat n)),(7,.i .i64 (ofNat i))]) (mkH [])) (.s (.s .z (.s .z (.s (.t (.t (.s .z .z))) (.f (.f (.c .z)))))) .z) K=((fun (q11:AV)=>((fun (q10:AV)=>((fun (q9:AV)=>((fun (q8:AV)=>((fun (q7:AV)=>((fun (q6:AV)=>((fun (q5:AV)=>((fun (q4:AV)=>((fun (q3:AV)=>((fun (q2:AV)=>((fun (q1:AV)=>((fun (q0:AV)=>((decide (ofNat i<9)=true->(decide (ofNat i=ofNat L)=true->K (.st .ret (zz1 (.sv 1 L (byF b)) (zz0 (zz1 (.i .i64 0) (zzn i) (zzl (.sv 1 L (byF b)))) (zz1 (inv n) (zzn i) (zzl q6))) (zz1 (.i .i64 0) (zz1 (.i .i64 10) (zzl q7) (zzn L)) (zz1 (inv i) (zzn i) .e))) ⟨.e,0,[]⟩) .z)/\(decide (ofNat i=ofNat L)=false->(0<=ofNat i/\ofNat i<↑L)/\True/\True/\rg (wrapA .u8 ↑(BitVec.toNat (BitVec.ofInt 8 (ofNat (b i)) &&& ~~~BitVec.ofInt 8 128)))/\rg (7*ofNat i)/\(0:Int)<=(7:Int)*ofNat i/\True/\(0<=ofNat i/\ofNat i<↑L)/\True/\(decide (128<=ofNat (b i))=true->rg (ofNat i+1)/\K (.st .nrm (zz1 (.sv 1 L (byF b)) (zz0 (zz0 (zz1 q8 (zzl (.sv 1 L (byF b))) (zzl q1)) (zz1 (.sv 1 L (byF b)) (zzl q3) (zzl (.pv 1 (byF b i))))) (zz1 q0 (zz1 (inv i) (zzl (.pv 1 (byF b i))) (zzl (.sv 1 L (byF b)))) (zz1 q6 (zzn i) (zzl q9)))) (zz0 (zz0 (zz1 q7 (zzn i) (zzl q0)) (zz1 (inv L) (zzl q2)
 (zzl q4))) (zz1 (inv i) (zz1 (inv i) (zzl q4) (zz1 (inv i) (zzl q8) .e)) (zz1 (inv n) (zzl q11) .e)))) ⟨.e,0,[]⟩) .z)/\(decide (128<=ofNat (b i))=false->(0<=ofNat i/\ofNat i<↑L)/\True/\(decide (ofNat (b i)=0)=true->decide (ofNat (b i)=0)=true/\decide (ofNat (b i)=0)=true/\(decide (0<ofNat i)=true->K (.st .ret (zz1 (.sv 1 L (byF b)) (zz0 (zz1 (.i .i64 0) (zz1 (inv i) (zz1 (.sv 1 L (byF b)) (zzn i) .e) (zzl q1)) (zz1 (.sv 1 L (byF b)) (zz1 q3 (zzl q5) .e) (zzl (.pv 1 (byF b i))))) (zz1 q0 (zz1 (inv i) (zz1 (.pv 1 (byF b i)) (zzl q4) .e) (zzl (.sv 1 L (byF b)))) (zz1 q6 (zz1 (inv i) (zzl q10) .e) (zzl q9)))) (zz1 (.i .i64 0) (zz1 (.i .i64 11) (zz1 q7 (zz1 (inv i) (zzl (.pv 1 (byF b i))) .e) (zzl q0)) (zz1 (inv L) (zz1 q2 (zzn i) .e) (zzl q4))) (zz1 (inv i) (zz1 (inv i) (zz1 q4 (zzl q5) .e) (zzn i)) (zz1 (inv n) (zz1 q11 (zzl q10) .e) (zzl (.sv 1 L (byF b))))))) ⟨.e,0,[]⟩) .z)/\(decide (0<ofNat i)=false->rg (ofNat i+1)/\K (.st .ret (zz1 (.sv 1 L (byF b)) (zz0 (zz1 q8 (zz1 (inv i) (zz1 (.sv 1 L (byF b)) (zzn i) .e) (zz1 q1 (zzl q0) .e)) (zz1 (.sv 1 L (byF b)) (zz1 q3 (zzl q5) .e) (zzl (.pv 1 (byF b i))))) (zz1 q0 (zz1 (inv i) (zz1 (.pv 1 (byF b i)) (zzl q4) .e) (zz1 (.sv 1 L (byF b)) (zzl q8) .e)) (zz1 q6 (zz1 (inv i) (zzl q10) .e) (zzl q9)))) (zz1 q0 (zz1 (.i .i64 0) (zz1 q7 (zz1 (inv i) (zzl (.pv 1 (byF b i))) .e) (zz1 q0 (zzn i) .e)) (zz1 (inv L) (zz1 q2 (zzn i) .e) (zzl q4))) (zz1 (inv i) (zz1 (inv
 i) (zz1 q4 (zzl q5) .e) (zzn i)) (zz1 (inv n) (zz1 q11 (zzl q10) .e) (zzl (.sv 1 L (byF b))))))) ⟨.e,0,[]⟩) .z))/\(decide (ofNat (b i)=0)=false->decide (ofNat (b i)=0)=false/\decide (ofNat (b i)=0)=false/\rg (ofNat i+1)/\K (.st .ret (zz1 (.sv 1 L (byF b)) (zz0 (zz1 q8 (zz1 (inv i) (zz1 (.sv 1 L (byF b)) (zzn i) .e) (zz1 q1 (zzl q0) .e)) (zz1 (.sv 1 L (byF b)) (zz1 q3 (zzl q5) .e) (zzl (.pv 1 (byF b i))))) (zz1 q0 (zz1 (inv i) (zz1 (.pv 1 (byF b i)) (zzl q4) .e) (zz1 (.sv 1 L (byF b)) (zzl q8) .e)) (zz1 q6 (zz1 (inv i) zzu .e) (zzl q9)))) (zz1 q0 (zz1 (.i .i64 0) (zz1 q7 (zz1 (inv i) (zzl (.pv 1 (byF b i))) .e) (zz1 q0 (zzn i) .e)) (zz1 (inv L) (zz1 q2 zzu .e) (zzl q4))) (zz1 (inv i) (zz1 (inv i) (zz1 q4 (zzl q5) .e) (zzn i)) (zz1 (inv n) (zz1 q11 (zzl (.b false)) .e) (zzl (.sv 1 L (byF b))))))) ⟨.e,0,[]⟩) .z))))/\(decide (ofNat i<9)=false->K (.st (.exit 0) (zz1 (.sv 1 L (byF b)) (zz0 (zz0 (zzn i) .e) (zzn n)) (zz0 (zz0 (zzl q7) .e) .e)) ⟨.e,0,[]⟩) .z))) (.i .i64 (wrapA .i64 ↑(BitVec.toNat (BitVec.ofInt 64 (ofNat n) ||| BitVec.ofInt 64 (wrapA .i64 (wrapA .u8 ↑(BitVec.toNat (BitVec.ofInt 8 (ofNat (b i)) &&& ~~~BitVec.ofInt 8 128))*2 ^ min (Int.toNat (7*ofNat i)) 64)))))))) (.i .i64 (wrapA .i64 (wrapA .u8 ↑(BitVec.toNat (BitVec.ofInt 8 (ofNat (b i)) &&& ~~~BitVec.ofInt 8 128))*2 ^ min (Int.toNat (7*ofNat i)) 64))))) (.i .i64 (wrapA .u8 ↑(BitVec.toNat (BitVec.ofInt 8 (ofNat (b i)) &&&
 ~~~BitVec.ofInt 8 128)))))) (.i .u8 (wrapA .u8 ↑(BitVec.toNat (BitVec.ofInt 8 (ofNat (b i)) &&& ~~~BitVec.ofInt 8 128)))))) (.i .u8 (ofNat (b i))))) (.b (decide (ofNat (b i)=0))))) (.b (decide (ofNat i=ofNat L))))) (.b (decide (ofNat i<9))))) (.i .i64 (ofNat i+1)))) (.b (decide (128<=ofNat (b i)))))) (.b (decide (0<ofNat i))))) (.i .i64 (7*ofNat i))):=by kernel_rfl
def nV (b:Nat->Nat):Nat->Nat
 | 0=>0
 | i+1=>nV b i+b i % 128*2 ^ (7*i)
theorem nV_lt (b:Nat->Nat):∀i,nV b i<2 ^ (7*i)
 | 0=>(by decide:0<2 ^ (7*0))
 | i+1=>by
   have h:=nV_lt b i
   have h1:b i % 128<=127:=by omega
   have h2:b i % 128*2 ^ (7*i)<=127*2 ^ (7*i):=Nat.mul_le_mul_right _ h1
   have e:2 ^ (7*(i+1))=128*2 ^ (7*i):=by
    rw [show 7*(i+1)=7*i+7 by omega,Nat.pow_add,Nat.mul_comm]
   show nV b i+b i % 128*2 ^ (7*i)<_
   rw [e];omega
theorem low7 (x:Nat) (h:x<256):(BitVec.ofInt 8 (ofNat x) &&& ~~~BitVec.ofInt 8 (128:Int)).toNat=x % 128:=by
 have key:∀x:Fin 256,(BitVec.ofInt 8 (ofNat x.1) &&& ~~~BitVec.ofInt 8 (128:Int)).toNat=x.1 % 128:=by decide
 exact key ⟨x,h⟩
theorem wrap64 {m:Nat} (h:m<9223372036854775808):wrapA .i64 (ofNat m)=ofNat m:=by
 show (match Nat.blt m 9223372036854775808 with | true=>ofNat m | false=>IntKind.i64.wrap (ofNat m))= _
 rw [show Nat.blt m 9223372036854775808=true by rw [Nat.blt_eq];exact h]
def nvT (n i x:Nat):Int:=wrapA IntKind.i64 ↑(BitVec.toNat (BitVec.ofInt 64 (ofNat n) ||| BitVec.ofInt 64 (wrapA IntKind.i64 (wrapA IntKind.u8 ↑(BitVec.toNat (BitVec.ofInt 8 (ofNat x) &&& ~~~BitVec.ofInt 8 (128:Int)))*(2:Int) ^ min (Int.toNat ((7:Int)*ofNat i)) 64))))
theorem num_step {n i x:Nat} (hi:i<9) (hn:n<2 ^ (7*i)) (hx:x<256) :
 nvT n i x=ofNat (n+x % 128*2 ^ (7*i)):=by
 unfold nvT
 rw [low7 x hx]
 have e1:wrapA IntKind.u8 (↑(x % 128):Int)=ofNat (x % 128):=by
  show ofNat (x % 128 % 256)= _
  rw [Nat.mod_eq_of_lt (by omega)]
 have e2:min (Int.toNat ((7:Int)*ofNat i)) 64=7*i:=by
  have:Int.toNat ((7:Int)*ofNat i)=7*i:=by simp;omega
  rw [this];omega
 have hp:2 ^ (7*i)<=2 ^ 56:=Nat.pow_le_pow_right (by decide) (by omega)
 have hd:x % 128<=127:=by omega
 have hm:x % 128*2 ^ (7*i)<=127*2 ^ (7*i):=Nat.mul_le_mul_right _ hd
 have h56:(2:Nat) ^ 56=72057594037927936:=by decide
 rw [h56] at hp
 have e3:ofNat (x % 128)*(2:Int) ^ (7*i)=ofNat (x % 128*2 ^ (7*i)):=by
  simp [Int.natCast_mul,Int.natCast_pow]
 rw [e1,e2,e3,wrap64 (m:=x % 128*2 ^ (7*i)) (by omega),BitVec.toNat_or,ofInt_nat,ofInt_nat]
 have n1:n % 2 ^ 64=n:=Nat.mod_eq_of_lt (by omega)
 have n2:x % 128*2 ^ (7*i) % 2 ^ 64=x % 128*2 ^ (7*i):=Nat.mod_eq_of_lt (by omega)
 rw [n1,n2]
 have e4:n ||| x % 128*2 ^ (7*i)=n+x % 128*2 ^ (7*i):=by
  rw [Nat.or_comm,Nat.mul_comm,<-Nat.two_pow_add_eq_or_of_lt hn (x % 128)]
  omega
 rw [e4]
 exact wrap64 (by omega)
def nm (b:Nat->Nat) (L:Nat):Nat->Nat->Option (Nat×Nat×Nat)
 | 0,_=>none
 | k+1,i=>match Nat.beq i L with
   | true=>some (0,0,10)
   | false=>match Nat.ble 128 (b i) with
     | true=>nm b L k (i+1)
     | false=>match Nat.beq (b i) 0 && Nat.blt 0 i with
       | true=>some (0,0,11)
       | false=>some (nV b (i+1),i+1,0)
def nmv (b:Nat->Nat) (L:Nat):Nat:=((nm b L 9 0).getD (0,0,11)).1
def nmz (b:Nat->Nat) (L:Nat):Nat:=((nm b L 9 0).getD (0,0,11)).2.1
def nme (b:Nat->Nat) (L:Nat):Nat:=((nm b L 9 0).getD (0,0,11)).2.2
def numI (b:Nat->Nat) (L i:Nat):List (Nat×AV)×List (Option AObj):=([(0,.sv 1 L (byF b)),(5,.i .i64 (ofNat (nV b i))),(7,.i .i64 (ofNat i))],[])
theorem numR_lp (b:Nat->Nat) (L:Nat) (hb:∀k,b k<256) (v z e:Nat) (h:nm b L 9 0=some (v,z,e)) :
 LDoes Tryz.prog (loopAt Tryz.prog 78 0) 43 0 (mkT [(0,.sv 1 L (byF b)),(5,.i .i64 0),(7,.i .i64 0)]) [] .ret (mkT [(2,.i .i64 (ofNat v)),(3,.i .i64 (ofNat z)),(4,.i .i64 (ofNat e))]) []:=by
 refine loop_indV (D:=Nat) (l':=[(2,.i .i64 (ofNat v)),(3,.i .i64 (ofNat z)),(4,.i .i64 (ofNat e))]) (numI b L) (fun i=>9-i) (fun i=>i<=9/\i<=L/\nm b L (9-i) i=some (v,z,e)) ?_ 0 ⟨by decide,Nat.zero_le _,h⟩
 rintro i ⟨h9,hL,hr⟩
 refine ⟨Nat.zero_le _,1000000,?_⟩
 have hlt:i<9:=by
  rcases Nat.lt_or_ge i 9 with q | q
  · exact q
  · have:i=9:=by omega
    subst this;cases hr
 rw [show 9-i=(9-(i+1))+1 by omega] at hr
 have hr:(match Nat.beq i L with
  | true=>some (0,0,10)
  | false=>match Nat.ble 128 (b i) with
    | true=>nm b L (9-(i+1)) (i+1)
    | false=>match Nat.beq (b i) 0 && Nat.blt 0 i with
      | true=>some (0,0,11)
      | false=>some (nV b (i+1),i+1,0))=some (v,z,e):=hr
 refine ⟨_,(numR_vc L (nV b i) i b _).mpr ⟨fun _=>⟨fun hq=>?_,fun hq=>?_⟩,fun h0=>absurd (of_decide_eq_false h0) (by simp;omega)⟩⟩
 · have:i=L:=Int.ofNat.inj (of_decide_eq_true hq)
   subst this
   rw [Nat.beq_refl] at hr
   cases hr
   exact .inr ⟨[],[],_,_,[(2,.i .i64 0),(3,.i .i64 0),(4,.i .i64 10)],[],rfl,by simp,st_k [] (by kernel_rfl),.refl _,.refl _⟩
 · have hne:i≠L:=fun q=>of_decide_eq_false hq (by rw [q])
   have hil:i<L:=by omega
   have b1:(0:Int)<=ofNat i/\ofNat i<(L:Int):=⟨by simp,by simp;omega⟩
   rw [show Nat.beq i L=false by rw [Bool.eq_false_iff,ne_eq,Nat.beq_eq];exact hne] at hr
   have hx:=hb i
   have b2:(-9223372036854775808:Int)<=wrapA IntKind.u8 ↑(BitVec.toNat (BitVec.ofInt 8 (ofNat (b i)) &&& ~~~BitVec.ofInt 8 (128:Int)))/\wrapA IntKind.u8 ↑(BitVec.toNat (BitVec.ofInt 8 (ofNat (b i)) &&& ~~~BitVec.ofInt 8 (128:Int)))<=(9223372036854775807:Int):=by
    rw [low7 _ hx]
    show (-9223372036854775808:Int)<=ofNat (b i % 128 % 256)/\ofNat (b i % 128 % 256)<=(9223372036854775807:Int)
    constructor<;>simp<;>omega
   have b3:(-9223372036854775808:Int)<=(7:Int)*ofNat i/\(7:Int)*ofNat i<=(9223372036854775807:Int):=⟨by simp;omega,by simp;omega⟩
   have b4:(0:Int)<=(7:Int)*ofNat i:=by simp;omega
   have b5:(-9223372036854775808:Int)<=ofNat i+1/\ofNat i+1<=(9223372036854775807:Int):=⟨by simp;omega,by simp;omega⟩
   have st:=num_step (n:=nV b i) hlt (nV_lt b i) hx
   refine ⟨b1,trivial,trivial,b2,b3,b4,trivial,b1,trivial,fun hg=>?_,fun hg=>⟨b1,trivial,fun hz=>⟨hz,hz,fun hp=>?_,fun hp=>⟨b5,?_⟩⟩,fun hz=>⟨hz,hz,b5,?_⟩⟩⟩
   · have:128<=b i:=by have:=of_decide_eq_true hg;simp at this;omega
     rw [Nat.ble_eq_true_of_le this] at hr
     refine ⟨b5,.inl ⟨i+1,[],[],_,_,[(0,.sv 1 L (byF b)),(5,.i .i64 (nvT (nV b i) i (b i))),(7,.i .i64 (ofNat i+1))],[],⟨by omega,by omega,hr⟩,by show 9-(i+1)<9-i;omega,rfl,st_k [] (by kernel_rfl),?_,.refl _⟩⟩
     rw [st];exact .refl _
   all_goals
    have hlo:¬128<=b i:=by have:=of_decide_eq_false hg;simp at this;omega
    rw [show Nat.ble 128 (b i)=false by rw [Bool.eq_false_iff,ne_eq,Nat.ble_eq];exact hlo] at hr
   · have h0:b i=0:=by have:=of_decide_eq_true hz;simpa using this
     have hp':0<i:=by have:=of_decide_eq_true hp;simpa using this
     rw [h0,show Nat.blt 0 i=true by rw [Nat.blt_eq];exact hp'] at hr
     cases hr
     exact .inr ⟨[],[],_,_,[(2,.i .i64 0),(3,.i .i64 0),(4,.i .i64 11)],[],rfl,by simp,st_k [] (by kernel_rfl),.refl _,.refl _⟩
   · have hp':¬0<i:=by have:=of_decide_eq_false hp;simpa using this
     rw [show Nat.blt 0 i=false by rw [Bool.eq_false_iff,ne_eq,Nat.blt_eq];exact hp',Bool.and_false] at hr
     cases hr
     refine .inr ⟨[],[],_,_,[(2,.i .i64 (nvT (nV b i) i (b i))),(3,.i .i64 (ofNat i+1)),(4,.i .i64 0)],[],rfl,by simp,st_k [] (by kernel_rfl),?_,.refl _⟩
     rw [st];exact .refl _
   · have h0:b i≠0:=by have:=of_decide_eq_false hz;simpa using this
     rw [show Nat.beq (b i) 0=false by rw [Bool.eq_false_iff,ne_eq,Nat.beq_eq];exact h0,Bool.false_and] at hr
     cases hr
     refine .inr ⟨[],[],_,_,[(2,.i .i64 (nvT (nV b i) i (b i))),(3,.i .i64 (ofNat i+1)),(4,.i .i64 0)],[],rfl,by simp,st_k [] (by kernel_rfl),?_,.refl _⟩
     rw [st];exact .refl _
theorem numX_lp (b:Nat->Nat) (L:Nat) (hb:∀k,b k<256) (h:nm b L 9 0=none) :
 LDoes Tryz.prog (loopAt Tryz.prog 78 0) 43 0 (mkT [(0,.sv 1 L (byF b)),(5,.i .i64 0),(7,.i .i64 0)]) [] (.exit 0) (mkT []) []:=by
 refine loop_indV (D:=Nat) (l':=[]) (numI b L) (fun i=>9-i) (fun i=>i<=9/\i<=L/\nm b L (9-i) i=none) ?_ 0 ⟨by decide,Nat.zero_le _,h⟩
 rintro i ⟨h9,hL,hr⟩
 refine ⟨Nat.zero_le _,1000000,?_⟩
 by_cases hlt:i<9
 · rw [show 9-i=(9-(i+1))+1 by omega] at hr
   have hr:(match Nat.beq i L with
    | true=>some (0,0,10)
    | false=>match Nat.ble 128 (b i) with
      | true=>nm b L (9-(i+1)) (i+1)
      | false=>match Nat.beq (b i) 0 && Nat.blt 0 i with
        | true=>some (0,0,11)
        | false=>some (nV b (i+1),i+1,0))=none:=hr
   have hne:i≠L:=fun q=>by
    rw [q,Nat.beq_refl] at hr;cases hr
   rw [show Nat.beq i L=false by rw [Bool.eq_false_iff,ne_eq,Nat.beq_eq];exact hne] at hr
   have h128:128<=b i:=by
    rcases Nat.lt_or_ge (b i) 128 with q | q
    · rw [show Nat.ble 128 (b i)=false by rw [Bool.eq_false_iff,ne_eq,Nat.ble_eq];omega] at hr
      cases hz:(Nat.beq (b i) 0 && Nat.blt 0 i)<;>rw [hz] at hr<;>cases hr
    · exact q
   rw [Nat.ble_eq_true_of_le h128] at hr
   have hx:=hb i
   have b1:(0:Int)<=ofNat i/\ofNat i<(L:Int):=⟨by simp,by simp;omega⟩
   have b2:(-9223372036854775808:Int)<=wrapA IntKind.u8 ↑(BitVec.toNat (BitVec.ofInt 8 (ofNat (b i)) &&& ~~~BitVec.ofInt 8 (128:Int)))/\wrapA IntKind.u8 ↑(BitVec.toNat (BitVec.ofInt 8 (ofNat (b i)) &&& ~~~BitVec.ofInt 8 (128:Int)))<=(9223372036854775807:Int):=by
    rw [low7 _ hx]
    show (-9223372036854775808:Int)<=ofNat (b i % 128 % 256)/\ofNat (b i % 128 % 256)<=(9223372036854775807:Int)
    constructor<;>simp<;>omega
   have b3:(-9223372036854775808:Int)<=(7:Int)*ofNat i/\(7:Int)*ofNat i<=(9223372036854775807:Int):=⟨by simp;omega,by simp;omega⟩
   have b4:(0:Int)<=(7:Int)*ofNat i:=by simp;omega
   have b5:(-9223372036854775808:Int)<=ofNat i+1/\ofNat i+1<=(9223372036854775807:Int):=⟨by simp;omega,by simp;omega⟩
   have st:=num_step (n:=nV b i) hlt (nV_lt b i) hx
   refine ⟨_,(numR_vc L (nV b i) i b _).mpr ⟨fun _=>⟨fun hq=>absurd (Int.ofNat.inj (of_decide_eq_true hq)) hne,fun hq=>?_⟩,fun h0=>absurd (of_decide_eq_false h0) (by simp;omega)⟩⟩
   refine ⟨b1,trivial,trivial,b2,b3,b4,trivial,b1,trivial,fun hg=>?_,fun hg=>absurd (of_decide_eq_false hg) (by simp;omega)⟩
   refine ⟨b5,.inl ⟨i+1,[],[],_,_,[(0,.sv 1 L (byF b)),(5,.i .i64 (nvT (nV b i) i (b i))),(7,.i .i64 (ofNat i+1))],[],⟨by omega,by omega,hr⟩,by show 9-(i+1)<9-i;omega,rfl,st_k [] (by kernel_rfl),?_,.refl _⟩⟩
   rw [st];exact .refl _
 · exact ⟨_,(numR_vc L (nV b i) i b _).mpr ⟨fun h0=>absurd (of_decide_eq_true h0) (by simp;omega),fun h0=>.inr ⟨[],[],_,_,[],[],rfl,by simp,st_k [] (by kernel_rfl),.refl _,.refl _⟩⟩⟩
end Go.Proofs.Cl
namespace Go.Proofs.Cl
open Go Go.Sim Go.Proofs Go.Proofs.Cd Go.Proofs.St
def rdO (L:Nat) (b:Nat->Nat) (e:Int):AObj:=.cells 142 2 [] (setAll .e 0 [.sv 1 L (byF b),.i .i64 e])
def shB (z:Nat) (b:Nat->Nat):Nat->Nat:=fun k=>b (z+k)
def tB (t:List Nat):Nat->Nat:=fun i=>t.getD i 0
end Go.Proofs.Cl
namespace Go.Proofs.Cl
open Go Go.Sim Go.Proofs Go.Proofs.Cd Go.Proofs.St Go.Proofs.YtfpebgpcpoefpaaGreatDoor
theorem numA_vc (L:Nat) (b:Nat->Nat) (K:Res->Orc->Prop):runK Tryz.prog 1000000 (.call 78 [.sv 1 L (byF b)] (mkH [])) (.lop [] [0,5,7] 0 .ret [(2,.i .i64 (ofNat (nmv b L))),(3,.i .i64 (ofNat (nmz b L))),(4,.i .i64 (ofNat (nme b L)))] [] .z) K=(LDoes Tryz.prog (loopAt Tryz.prog 78 0) 43 0 (mkT [(0,.sv 1 L (byF b)),(5,.i .i64 0),(7,.i .i64 0)]) [] .ret (mkT [(2,.i .i64 (ofNat (nmv b L))),(3,.i .i64 (ofNat (nmz b L))),(4,.i .i64 (ofNat (nme b L)))]) []/\K (.rv (.tup [inv (nmv b L),inv (nmz b L),inv (nme b L)]) ⟨.e,0,[]⟩) .z):=by kernel_rfl
theorem numB_vc (L:Nat) (b:Nat->Nat) (K:Res->Orc->Prop):runK Tryz.prog 1000000 (.call 78 [.sv 1 L (byF b)] (mkH [])) (.lop [] [0,5,7] 0 (.exit 0) [] [] .z) K=(LDoes Tryz.prog (loopAt Tryz.prog 78 0) 43 0 (mkT [(0,.sv 1 L (byF b)),(5,.i .i64 0),(7,.i .i64 0)]) [] (.exit 0) (mkT []) []/\K (.rv (.tup [.i .i64 0,.i .i64 0,.i .i64 11]) ⟨.e,0,[]⟩) .z):=by kernel_rfl
theorem cloneS_vc (m:Nat) (b:Nat->Nat) (K:Res->Orc->Prop):runK Tryz.prog 1000000 (.call 88 [.sv 1 (m+1) (byF b)] (mkH [])) (.c (.s .z .z)) K=(True/\((1=1/\0+(m+1)<=m+1)/\True/\True/\0+(m+1)<=140737488355328/\(3*(0+(m+1))+1536)*1<=562949953421312)/\K (.rv (.sv 1 (m+1) fun k x=>CV.i .u8 (ofNat (b k))) ⟨zz0 (zz0 .e .e) .e,2,[1,1,0,0]⟩) .z):=by kernel_rfl
theorem clone0_vc (K:Res->Orc->Prop):runK Tryz.prog 1000000 (.call 88 [.l0] (mkH [])) (.c .z) K=(True/\K (.rv .l0 ⟨.e,0,[]⟩) .z):=by kernel_rfl
theorem clonez_vc (K:Res->Orc->Prop):runK Tryz.prog 1000000 (.call 88 [.lz] (mkH [])) (.c .z) K=(True/\K (.rv (.l 0 0 0 0 1 true) ⟨zzl (AObj.cells 5 0 [] .e),1,[0,0]⟩) .z):=by kernel_rfl
theorem newRL_vc (L:Nat) (b:Nat->Nat) (K:Res->Orc->Prop):runK Tryz.prog 1000000 (.call 76 [.lr 0 1 0 L false] (mkH [some (.rows 5 1 L (byF b))])) (.cal [0] (.sv 1 L (byF b)) [.gone] .z) K=(Con Tryz.prog 88 [.lr 0 1 0 L false] [some (.rows 5 1 L (byF b))] (.sv 1 L (byF b)) [.gone]/\K (.rv (.p 1 0) ⟨zz0 (zzl (AObj.cells 142 2 [] (zz1 (.sv 1 L (byF b)) (zzl (.i .i64 0)) .e))) .e,2,[1,0]⟩) .z):=by kernel_rfl
theorem rdNum_vc (L:Nat) (b:Nat->Nat) (e:Int) (K:Res->Orc->Prop):runK Tryz.prog 1000000 (.call 51 [.p 0 0] (mkH [some (rdO L b e)])) (.inl (.c (.s .z (.cal [] (.tup [inv (nmv b L),inv (nmz b L),inv (nme b L)]) [] .z)))) K=(True/\True/\((!decide (e=0))=true->K (.rv (.i .i64 0) ⟨zzl (AObj.cells 142 2 [] (zz1 (.sv 1 L (byF b)) (zzl (.i .i64 e)) .e)),1,[]⟩) .z)/\((!decide (e=0))=false->True/\Con Tryz.prog 78 [.sv 1 L (byF b)] [] (.tup [inv (nmv b L),inv (nmz b L),inv (nme b L)]) []/\True/\True/\(0<=ofNat (nmz b L)/\True/\nmz b L<=L/\L<=L)/\True/\K (.rv (inv (nmv b L)) ⟨zzl (AObj.cells 142 2 [] (zz1 (.sv 1 (L-nmz b L) (shiftF (nmz b L) (byF b))) (zzn (nme b L)) .e)),1,[0,0]⟩) .z)):=by kernel_rfl
theorem blockOf_vc (t:List Nat) (K:Res->Orc->Prop):runK Tryz.prog 1000000 (.call 109 [.s t] (mkH [])) (.s (.cal [1] (.p 1 0) [.gone,.set (rdO (List.length t) (tB t) 0)] (.cal [2] (inv (nmv (tB t) (List.length t))) [.set (rdO (List.length t-nmz (tB t) (List.length t)) (shB (nmz (tB t) (List.length t)) (tB t)) (ofNat (nme (tB t) (List.length t))))] (.inl (.c (.inl (.c (.s (.t (.inl (.inl (.s (ot 3 (.s (ot 5 (.f (.s .z .z))) (of_ 4 (.t (.f (.c .z)))))) (of_ 3 (oc 5 (.t (.f (.c .z))))))))) (.f (.f (.t (.c .z))))))))))) .z) K=((fun (q3:Nat)=>((fun (q2:AV)=>((fun (q1:AV)=>((fun (q0:Int)=>(True/\Con Tryz.prog 76 [.lr 0 1 0 (List.length t) false] [some (.rows 5 1 (List.length t) fun i x=>CV.i .u8 (ofNat (List.getD t i 0)))] (.p 1 0) [.gone,.set (rdO (List.length t) (tB t) 0)]/\Con Tryz.prog 51 [.p 0 0] [some (rdO (List.length t) (tB t) 0)] q2 [.set (rdO q3 (shB (nmz (tB t) (List.length t)) (tB t)) (ofNat (nme (tB t) (List.length t))))]/\True/\True/\rg q0/\(0<=ofNat (List.length t)-ofNat q3/\True/\Int.toNat q0<=List.length t/\List.length t<=List.length t)/\True/\True/\((!!decide (ofNat (nme (tB t) (List.length t))=0))=true->(!!decide (ofNat (nme (tB t) (List.length t))=0))=true/\True/\(decide (1<=ofNat (nmv (tB t) (List.length t)))=true->decide (1<=ofNat (nmv (tB t) (List.length t)))=true/\decide (1<=ofNat (nmv (tB t) (List.length t)))=true/\decide (1<=ofNat (nmv (tB t)
 (List.length t)))=true/\(decide (ofNat (nmv (tB t) (List.length t))<=1099511627776)=true->True/\decide (ofNat (nmv (tB t) (List.length t))<=1099511627776)=true/\decide (ofNat (nmv (tB t) (List.length t))<=1099511627776)=true/\decide (ofNat (nmv (tB t) (List.length t))<=1099511627776)=true/\decide (ofNat (nmv (tB t) (List.length t))<=1099511627776)=true/\(!!decide (ofNat (nme (tB t) (List.length t))=0))=true/\True/\(!decide (ofNat (nme (tB t) (List.length t))=0))=false/\((!decide (ofNat (List.length (List.take (List.length t-Int.toNat q0) (List.drop (Int.toNat q0) t)))<=44))=true->K (.rv (.agg [.i .i64 0,.s []]) ⟨zz1 (AObj.cells 90 2 [.i .i64 0,.s []] (zz1 (.i .i64 0) (zzl (.s [])) .e)) (zz0 (zzl (AObj.cells 90 2 [.i .i64 0,.s []] (zz1 q2 (zzl (.s (List.take (List.length t-Int.toNat q0) (List.drop (Int.toNat q0) t)))) .e))) .e) (zz1 (AObj.cells 142 2 [] (zz1 q1 (zzn (nme (tB t) (List.length t))) .e)) (zzl (AObj.cells 90 2 [] (zz1 q2 (zzl (.s (List.take (List.length t-Int.toNat q0) (List.drop (Int.toNat q0) t)))) .e))) .e),5,[0,4,3,3,2,2,1,1,0]⟩) .z)/\((!decide (ofNat (List.length (List.take (List.length t-Int.toNat q0) (List.drop (Int.toNat q0) t)))<=44))=false->K (.rv (.agg [inv (nmv (tB t) (List.length t)),.s (List.take (List.length t-Int.toNat q0) (List.drop (Int.toNat q0) t))]) ⟨zz1 (AObj.cells 90 2 [.i .i64 0,.s []] (zz1 q2 (zzl (.s (List.take (List.length t -
 Int.toNat q0) (List.drop (Int.toNat q0) t)))) .e)) (zz0 (zzl (AObj.cells 90 2 [.i .i64 0,.s []] (zz1 q2 (zzl (.s (List.take (List.length t-Int.toNat q0) (List.drop (Int.toNat q0) t)))) .e))) .e) (zz1 (AObj.cells 142 2 [] (zz1 q1 (zzn (nme (tB t) (List.length t))) .e)) (zzl (AObj.cells 90 2 [] (zz1 q2 (zzl (.s (List.take (List.length t-Int.toNat q0) (List.drop (Int.toNat q0) t)))) .e))) .e),5,[0,4,3,3,2,2,1,1,0]⟩) .z))/\(decide (ofNat (nmv (tB t) (List.length t))<=1099511627776)=false->decide (ofNat (nmv (tB t) (List.length t))<=1099511627776)=false/\decide (ofNat (nmv (tB t) (List.length t))<=1099511627776)=false/\decide (ofNat (nmv (tB t) (List.length t))<=1099511627776)=false/\decide (ofNat (nmv (tB t) (List.length t))<=1099511627776)=false/\(!!decide (ofNat (nme (tB t) (List.length t))=0))=true/\True/\(!decide (ofNat (nme (tB t) (List.length t))=0))=false/\K (.rv (.agg [.i .i64 0,.s []]) ⟨zz1 (AObj.cells 90 2 [.i .i64 0,.s []] (zz1 (.i .i64 0) (zzl (.s [])) .e)) (zz0 (zzl (AObj.cells 90 2 [.i .i64 0,.s []] (zz1 q2 (zzl (.s (List.take (List.length t-Int.toNat q0) (List.drop (Int.toNat q0) t)))) .e))) .e) (zz1 (AObj.cells 142 2 [] (zz1 q1 (zzn (nme (tB t) (List.length t))) .e)) (zzl (AObj.cells 90 2 [] (zz1 q2 (zzl (.s (List.take (List.length t-Int.toNat q0) (List.drop (Int.toNat q0) t)))) .e))) .e),5,[0,4,3,3,2,2,1,1,0]⟩) .z))/\(decide (1<=ofNat (nmv (tB t) (List.length t))) =
 false->decide (1<=ofNat (nmv (tB t) (List.length t)))=false/\decide (1<=ofNat (nmv (tB t) (List.length t)))=false/\decide (1<=ofNat (nmv (tB t) (List.length t)))=false/\(!!decide (ofNat (nme (tB t) (List.length t))=0))=true/\True/\(!decide (ofNat (nme (tB t) (List.length t))=0))=false/\K (.rv (.agg [.i .i64 0,.s []]) ⟨zz1 (AObj.cells 90 2 [.i .i64 0,.s []] (zz1 (.i .i64 0) (zzl (.s [])) .e)) (zz0 (zzl (AObj.cells 90 2 [.i .i64 0,.s []] (zz1 q2 (zzl (.s (List.take (List.length t-Int.toNat q0) (List.drop (Int.toNat q0) t)))) .e))) .e) (zz1 (AObj.cells 142 2 [] (zz1 q1 (zzn (nme (tB t) (List.length t))) .e)) (zzl (AObj.cells 90 2 [] (zz1 q2 (zzl (.s (List.take (List.length t-Int.toNat q0) (List.drop (Int.toNat q0) t)))) .e))) .e),5,[0,4,3,3,2,2,1,1,0]⟩) .z))/\((!!decide (ofNat (nme (tB t) (List.length t))=0))=false->(!!decide (ofNat (nme (tB t) (List.length t))=0))=false/\(!!decide (ofNat (nme (tB t) (List.length t))=0))=false/\(!decide (ofNat (nme (tB t) (List.length t))=0))=true/\K (.rv (.agg [.i .i64 0,.s []]) ⟨zz1 (AObj.cells 90 2 [.i .i64 0,.s []] (zz1 (.i .i64 0) (zzl (.s [])) .e)) (zz0 (zzl (AObj.cells 90 2 [.i .i64 0,.s []] (zz1 q2 (zzl (.s (List.take (List.length t-Int.toNat q0) (List.drop (Int.toNat q0) t)))) .e))) .e) (zzl (AObj.cells 142 2 [] (zz1 q1 (zzn (nme (tB t) (List.length t))) .e))),4,[0,3,3,2,2,1,1,0]⟩) .z))) (ofNat (List.length t)-ofNat
 q3))) (.sv 1 q3 (byF (shB (nmz (tB t) (List.length t)) (tB t)))))) (inv (nmv (tB t) (List.length t))))) (List.length t-nmz (tB t) (List.length t))):=by kernel_rfl
theorem nm_le (b:Nat->Nat) (L:Nat):∀k i v z e,i<=L->nm b L k i=some (v,z,e)->z<=L
 | 0,i,v,z,e,_,h=>by cases h
 | k+1,i,v,z,e,hi,h=>by
   have h:(match Nat.beq i L with
    | true=>some (0,0,10)
    | false=>match Nat.ble 128 (b i) with
      | true=>nm b L k (i+1)
      | false=>match Nat.beq (b i) 0 && Nat.blt 0 i with
        | true=>some (0,0,11)
        | false=>some (nV b (i+1),i+1,0))=some (v,z,e):=h
   cases h1:Nat.beq i L with
   | true=>rw [h1] at h;cases h;exact Nat.zero_le _
   | false=>
     have hne:i≠L:=fun q=>by rw [q,Nat.beq_refl] at h1;cases h1
     rw [h1] at h
     cases h2:Nat.ble 128 (b i) with
     | true=>rw [h2] at h;exact nm_le b L k (i+1) v z e (by omega) h
     | false=>
       rw [h2] at h
       cases h3:(Nat.beq (b i) 0 && Nat.blt 0 i) with
       | true=>rw [h3] at h;cases h;exact Nat.zero_le _
       | false=>rw [h3] at h;cases h;omega
theorem nmz_le (b:Nat->Nat) (L:Nat):nmz b L<=L:=by
 unfold nmz
 cases h:nm b L 9 0 with
 | none=>exact Nat.zero_le _
 | some q=>obtain ⟨v,z,e⟩:=q;exact nm_le b L 9 0 v z e (Nat.zero_le _) h
theorem num_con (b:Nat->Nat) (L:Nat) (hb:∀k,b k<256):Con Tryz.prog 78 [.sv 1 L (byF b)] [] (.tup [.i .i64 (ofNat (nmv b L)),.i .i64 (ofNat (nmz b L)),.i .i64 (ofNat (nme b L))]) []:=by
 cases h:nm b L 9 0 with
 | none=>
   have e1:nmv b L=0:=by unfold nmv;rw [h];rfl
   have e2:nmz b L=0:=by unfold nmz;rw [h];rfl
   have e3:nme b L=11:=by unfold nme;rw [h];rfl
   rw [e1,e2,e3]
   exact con_plain rfl ((numB_vc L b _).mpr ⟨numX_lp b L hb h,_,_,rfl,rfl⟩)
 | some q=>
   obtain ⟨v,z,e⟩:=q
   have e1:nmv b L=v:=by unfold nmv;rw [h];rfl
   have e2:nmz b L=z:=by unfold nmz;rw [h];rfl
   have e3:nme b L=e:=by unfold nme;rw [h];rfl
   have lp:=numR_lp b L hb v z e h
   rw [<-e1,<-e2,<-e3] at lp
   exact con_plain rfl ((numA_vc L b _).mpr ⟨lp,_,_,rfl,rfl⟩)
theorem cloneB_con (L:Nat) (b:Nat->Nat) (hL:L<=1073741824):Con Tryz.prog 88 [.sv 1 L (byF b)] [] (.sv 1 L (byF b)) []:=by
 cases L with
 | succ m=>exact con_of_run [] [] ((cloneS_vc m b _).mpr ⟨trivial,⟨⟨rfl,by omega⟩,trivial,trivial,by omega,by omega⟩,_,_,rfl,ret_k (by kernel_rfl)⟩)
 | zero=>
   have h0:Con Tryz.prog 88 [.l0] [] (.sv 1 0 (byF b)) []:=by
    have h:=con_of_run (v:=.l0) (us:=[]) [] [] ((clone0_vc _).mpr ⟨trivial,_,_,rfl,ret_k (by kernel_rfl)⟩)
    exact h.post (VW.nil _ _) trivial
   have hz:Con Tryz.prog 88 [.lz] [] (.sv 1 0 (byF b)) []:=by
    have h:=con_of_run (v:=.sv 1 0 (listF 1 [] 0)) (us:=[]) [0] [] ((clonez_vc _).mpr ⟨trivial,_,_,rfl,ret_fz [0] ((0+0*1<=0)/\True) (by kernel_rfl) (by kernel_rfl) ⟨by omega,trivial⟩ (by kernel_rfl) rfl (by kernel_rfl) (by kernel_rfl) rfl trivial⟩)
    exact h.post (VW.sv fun i j hi=>absurd hi (Nat.not_lt_zero i)) trivial
   intro ρ w args' hv hh hoff
   cases hv with | cons _ _ v' _ h1 h2=>
   cases h1 with | sv _ _ _ _ hc=>
   cases hc with
   | sv0=>exact h0 ρ w _ (.cons _ _ _ _ .l0 h2) hh hoff
   | svz _ _ a c=>exact hz ρ w _ (.cons _ _ _ _ (.lz a c) h2) hh hoff
   | sv _ _ _ B o cap g q1 q2 q3=>exact hz ρ w _ (.cons _ _ _ _ (.lz _ cap) h2) hh hoff
theorem cloneBL_con (L:Nat) (b:Nat->Nat) (hL:L<=1073741824):Con Tryz.prog 88 [.lr 0 1 0 L false] [some (.rows 5 1 L (byF b))] (.sv 1 L (byF b)) [.gone]:=
 ((cloneB_con L b hL).slot rfl (by kernel_rfl) (by kernel_rfl)).thaw (us0:=[.gone]) 0 (e:=5) (sz:=1) (n:=L) (f:=byF b) rfl ⟨rfl,trivial⟩ ⟨.inr ⟨by kernel_rfl,⟨rfl,by omega⟩,rfl⟩,trivial⟩ rfl
theorem newRL_con (L:Nat) (b:Nat->Nat) (hL:L<=1073741824):Con Tryz.prog 76 [.lr 0 1 0 L false] [some (.rows 5 1 L (byF b))] (.p 1 0) [.gone,.set (rdO L b 0)]:=
 con_of_run [] [1] ((newRL_vc L b _).mpr ⟨cloneBL_con L b hL,_,_,rfl,ret_k (by kernel_rfl)⟩)
theorem rdNum_con (L:Nat) (b:Nat->Nat) (hb:∀k,b k<256):Con Tryz.prog 51 [.p 0 0] [some (rdO L b 0)] (.i .i64 (ofNat (nmv b L))) [.set (rdO (L-nmz b L) (shB (nmz b L) b) (ofNat (nme b L)))]:=by
 have k:Con Tryz.prog 51 [.p 0 0] [some (rdO L b 0)] (.i .i64 (ofNat (nmv b L))) [.set (.cells 142 2 [] (setAll .e 0 [.sv 1 (L-nmz b L) (shiftF (nmz b L) (byF b)),.i .i64 (ofNat (nme b L))]))]:=
  con_of_run [] [] ((rdNum_vc L b 0 _).mpr ⟨trivial,trivial,fun h=>(by cases h),fun _=>⟨trivial,num_con b L hb,trivial,trivial,⟨by simp,trivial,nmz_le b L,Nat.le_refl _⟩,trivial,_,_,rfl,ret_k (by kernel_rfl)⟩⟩)
 have e:shiftF (nmz b L) (byF b)=byF (shB (nmz b L) b):=by
  funext i j
  rw [shiftF_eq];rfl
 rw [e] at k
 exact k
theorem rdNumE_con (L:Nat) (b:Nat->Nat) (e:Int) (he:e≠0):Con Tryz.prog 51 [.p 0 0] [some (rdO L b e)] (.i .i64 0) [.keep]:=by
 have d:(!decide (e=0))=true:=by rw [decide_eq_false he];rfl
 exact con_of_run [] [] ((rdNum_vc L b e _).mpr ⟨trivial,trivial,fun _=>⟨_,_,rfl,ret_k (by kernel_rfl)⟩,fun h=>(by rw [d] at h;cases h)⟩)
def okBlk (t:List Nat):Bool:=Nat.beq (nme (tB t) t.length) 0 && (Nat.ble 1 (nmv (tB t) t.length) && (Nat.ble (nmv (tB t) t.length) 1099511627776 && Nat.ble (t.length-nmz (tB t) t.length) 44))
def blkQ (t:List Nat):Nat:=bif okBlk t then nmv (tB t) t.length else 0
def blkD (t:List Nat):List Nat:=bif okBlk t then t.drop (nmz (tB t) t.length) else []
theorem tB_lt {t:List Nat} (h:∀x∈t,x<256) (k:Nat):tB t k<256:=by
 unfold tB
 rw [List.getD_eq_getElem?_getD]
 cases hk:t[k]? with
 | none=>decide
 | some x=>exact h x (List.mem_of_getElem? hk)
theorem take_rest {t:List Nat} {z:Nat} (h:z<=t.length):List.take (t.length-Int.toNat (ofNat t.length-ofNat (t.length-z))) (List.drop (Int.toNat (ofNat t.length-ofNat (t.length-z))) t)=t.drop z:=by
 have e:Int.toNat (ofNat t.length-ofNat (t.length-z))=z:=by simp;omega
 rw [e]
 exact List.take_of_length_le (by simp)
theorem blockOf_con (t:List Nat) (ht:∀x∈t,x<256) (hL:t.length<=1073741824):Con Tryz.prog 109 [.s t] [] (.agg [.i .i64 (ofNat (blkQ t)),.s (blkD t)]) []:=by
 have hz:=nmz_le (tB t) t.length
 have c1:Con Tryz.prog 76 [.lr 0 1 0 t.length false] [some (.rows 5 1 t.length fun i _=>.i .u8 (ofNat (t.getD i 0)))] (.p 1 0) [.gone,.set (rdO t.length (tB t) 0)]:=newRL_con t.length (tB t) hL
 have c2:=rdNum_con t.length (tB t) (tB_lt ht)
 have r1:(-9223372036854775808:Int)<=ofNat t.length-ofNat (t.length-nmz (tB t) t.length)/\ofNat t.length-ofNat (t.length-nmz (tB t) t.length)<=(9223372036854775807:Int):=⟨by simp<;>omega,by simp<;>omega⟩
 have r2:(0:Int)<=ofNat t.length-ofNat (t.length-nmz (tB t) t.length)/\True/\Int.toNat (ofNat t.length-ofNat (t.length-nmz (tB t) t.length))<=t.length/\t.length<=t.length:=⟨by simp<;>omega,trivial,by simp<;>omega,Nat.le_refl _⟩
 have no:okBlk t=false->Con Tryz.prog 109 [.s t] [] (.agg [.i .i64 0,.s []]) []->Con Tryz.prog 109 [.s t] [] (.agg [.i .i64 (ofNat (blkQ t)),.s (blkD t)]) []:=fun h k=>by
  have e1:blkQ t=0:=by unfold blkQ;rw [h];rfl
  have e2:blkD t=[]:=by unfold blkD;rw [h];rfl
  rw [e1,e2];exact k
 by_cases hE:nme (tB t) t.length=0
 · have dE:(!!decide (ofNat (nme (tB t) t.length)=(0:Int)))=true:=by rw [hE];rfl
   have dE2:(!decide (ofNat (nme (tB t) t.length)=(0:Int)))=false:=by rw [hE];rfl
   by_cases h1:1<=nmv (tB t) t.length
   · have d1:decide ((1:Int)<=ofNat (nmv (tB t) t.length))=true:=decide_eq_true (by simp;omega)
     by_cases h2:nmv (tB t) t.length<=1099511627776
     · have d2:decide (ofNat (nmv (tB t) t.length)<=(1099511627776:Int))=true:=decide_eq_true (by simp;omega)
       by_cases h3:t.length-nmz (tB t) t.length<=44
       · have ok:okBlk t=true:=by
          unfold okBlk
          rw [hE,Nat.ble_eq_true_of_le h1,Nat.ble_eq_true_of_le h2,Nat.ble_eq_true_of_le h3];rfl
         have e1:blkQ t=nmv (tB t) t.length:=by unfold blkQ;rw [ok];rfl
         have e2:blkD t=t.drop (nmz (tB t) t.length):=by unfold blkD;rw [ok];rfl
         rw [e1,e2,<-take_rest hz]
         refine con_plain rfl ((blockOf_vc t _).mpr ⟨trivial,c1,c2,trivial,trivial,r1,r2,trivial,trivial,fun _=>⟨dE,trivial,fun _=>⟨d1,d1,d1,fun _=>⟨trivial,d2,d2,d2,d2,dE,trivial,dE2,fun h=>?_,fun _=>⟨_,_,rfl,rfl⟩⟩,fun h=>(by rw [d2] at h;cases h)⟩,fun h=>(by rw [d1] at h;cases h)⟩,fun h=>(by rw [dE] at h;cases h)⟩)
         rw [take_rest hz] at h
         simp at h;omega
       · have ok:okBlk t=false:=by
          unfold okBlk
          rw [show Nat.ble (t.length-nmz (tB t) t.length) 44=false by rw [Bool.eq_false_iff,ne_eq,Nat.ble_eq];exact h3]
          simp
         refine no ok (con_plain rfl ((blockOf_vc t _).mpr ⟨trivial,c1,c2,trivial,trivial,r1,r2,trivial,trivial,fun _=>⟨dE,trivial,fun _=>⟨d1,d1,d1,fun _=>⟨trivial,d2,d2,d2,d2,dE,trivial,dE2,fun _=>⟨_,_,rfl,rfl⟩,fun h=>?_⟩,fun h=>(by rw [d2] at h;cases h)⟩,fun h=>(by rw [d1] at h;cases h)⟩,fun h=>(by rw [dE] at h;cases h)⟩))
         rw [take_rest hz] at h
         simp at h;omega
     · have d2:decide (ofNat (nmv (tB t) t.length)<=(1099511627776:Int))=false:=decide_eq_false (by simp;omega)
       have ok:okBlk t=false:=by
        unfold okBlk
        rw [show Nat.ble (nmv (tB t) t.length) 1099511627776=false by rw [Bool.eq_false_iff,ne_eq,Nat.ble_eq];exact h2]
        simp
       exact no ok (con_plain rfl ((blockOf_vc t _).mpr ⟨trivial,c1,c2,trivial,trivial,r1,r2,trivial,trivial,fun _=>⟨dE,trivial,fun _=>⟨d1,d1,d1,fun h=>(by rw [d2] at h;cases h),fun _=>⟨d2,d2,d2,d2,dE,trivial,dE2,_,_,rfl,rfl⟩⟩,fun h=>(by rw [d1] at h;cases h)⟩,fun h=>(by rw [dE] at h;cases h)⟩))
   · have d1:decide ((1:Int)<=ofNat (nmv (tB t) t.length))=false:=decide_eq_false (by simp;omega)
     have ok:okBlk t=false:=by
      unfold okBlk
      rw [show Nat.ble 1 (nmv (tB t) t.length)=false by rw [Bool.eq_false_iff,ne_eq,Nat.ble_eq];exact h1]
      simp
     exact no ok (con_plain rfl ((blockOf_vc t _).mpr ⟨trivial,c1,c2,trivial,trivial,r1,r2,trivial,trivial,fun _=>⟨dE,trivial,fun h=>(by rw [d1] at h;cases h),fun _=>⟨d1,d1,d1,dE,trivial,dE2,_,_,rfl,rfl⟩⟩,fun h=>(by rw [dE] at h;cases h)⟩))
 · have dE:(!!decide (ofNat (nme (tB t) t.length)=(0:Int)))=false:=by
    rw [decide_eq_false (by simp;exact hE)];rfl
   have dE2:(!decide (ofNat (nme (tB t) t.length)=(0:Int)))=true:=by
    rw [decide_eq_false (by simp;exact hE)];rfl
   have ok:okBlk t=false:=by
    unfold okBlk
    rw [show Nat.beq (nme (tB t) t.length) 0=false by rw [Bool.eq_false_iff,ne_eq,Nat.beq_eq];exact hE]
    rfl
   exact no ok (con_plain rfl ((blockOf_vc t _).mpr ⟨trivial,c1,c2,trivial,trivial,r1,r2,trivial,trivial,fun h=>(by rw [dE] at h;cases h),fun _=>⟨dE,dE,dE2,_,_,rfl,rfl⟩⟩))
end Go.Proofs.Cl
namespace Go.Proofs.Cl
open Go Go.Sim Go.Proofs Go.Proofs.Cd Go.Proofs.St
def w0O:AObj:=.cells 99 2 [.p0,.i .i64 0] .e
def wO (k:Nat):AObj:=.cells 99 2 [.p0,.i .i64 0] (setAll .e 0 [.p 1 0,.i .i64 (ofNat k)])
def shO (A k:Nat):AObj:=.cells 157 1 [] (setAll .e 0 [.lr A 1 0 k false])
def lyB (g:Nat->Int) (k:Nat) (x:Int):Nat->Int:=fun i=>bif Nat.blt i k then g i else x
def iF (b:Nat->Int):Nat->Nat->CV:=fun k _=>.i .u8 (b k)
end Go.Proofs.Cl
namespace Go.Proofs.Cl
open Go Go.Sim Go.Proofs Go.Proofs.Cd Go.Proofs.St Go.Proofs.YtfpebgpcpoefpaaGreatDoor
theorem lay0_vc (x:Int) (K:Res->Orc->Prop):runK Tryz.prog 1000000 (.call 83 [.p 0 0,.i .u8 x] (mkH [some w0O])) (oc 15 (.inl (oc 7 .z))) K=(True/\True/\True/\True/\True/\True/\True/\True/\True/\True/\True/\rg (1)/\True/\K (.rv (.tup []) ⟨zz1 (AObj.cells 99 2 [.p0,.i .i64 0] (zz1 (.p 1 0) (zzl (.i .i64 1)) .e)) (zz1 (AObj.cells 157 1 [] (zzl (.l 3 0 1 1 1 false))) (zzl (AObj.cells 5 1 [] (zzl (.i .u8 x)))) .e) (zzl (AObj.cells 5 1 [] (zzl (.i .u8 x)))),4,[0,1,3,2,0,1]⟩) .z):=by kernel_rfl
theorem layR_vc (x:Int) (k:Nat) (g:Nat->Int) (h:decide (ofNat k<ofNat k)=false) (K:Res->Orc->Prop):runK Tryz.prog 1000000 (.call 83 [.p 0 0,.i .u8 x] (mkH [some (wO k),some (shO 2 k),some (.rows 5 1 k (Cl.iF g))])) (oc 14 (.f .z)) K=(True/\True/\True/\True/\True/\decide (ofNat k<ofNat k)=false/\True/\True/\True/\(0+k<=k/\True/\k+1<=140737488355328/\(3*(k+1)+1536)*1<=562949953421312)/\True/\True/\rg (ofNat k+1)/\True/\K (.rv (.tup []) ⟨zz1 (AObj.cells 99 2 [.p0,.i .i64 0] (zz1 (.p 1 0) (zzl (.i .i64 (ofNat k+1))) .e)) (zz1 (AObj.cells 157 1 [] (zzl (.lr 4 1 0 (addN k 1) false))) (zzl (AObj.cells 5 1 [] (zzl (.i .u8 x)))) .e) (zz0 (zzl (AObj.rows 5 1 (addN k 1) (appZ k (fun k x=>CV.i .u8 (g k)) fun x_1 j=>List.getD [CV.i .u8 x] j CV.p0))) .e),5,[0,1,4,2,3]⟩) .z):=by kernel_rfl
theorem w0_vc (n:Nat) (K:Res->Orc->Prop):runK Tryz.prog 1000000 (.code (loopAt Tryz.prog 54 0) 21 (mkT [(0,.p 0 0),(1,.i .i64 (ofNat n))]) (mkH [some w0O])) (.s (.cal [0] (.tup []) [.set (wO 1),.set (shO 2 1),.set (AObj.rows 5 1 1 (iF fun x=>wrapA .u8 ↑(BitVec.toNat (BitVec.ofInt 8 (wrapA .u8 (ofNat n)) ||| BitVec.ofInt 8 128))))] .z) .z) K=((fun (q0:AV)=>((decide (128<=ofNat n)=true->True/\True/\Con Tryz.prog 83 [.p 0 0,.i .u8 (wrapA .u8 ↑(BitVec.toNat (BitVec.ofInt 8 (wrapA .u8 (ofNat n)) ||| BitVec.ofInt 8 128)))] [some w0O] (.tup []) [.set (wO 1),.set (shO 2 1),.set (AObj.rows 5 1 1 (iF fun x=>wrapA .u8 ↑(BitVec.toNat (BitVec.ofInt 8 (wrapA .u8 (ofNat n)) ||| BitVec.ofInt 8 128))))]/\(0:Int)<=(7:Int)/\K (.st .nrm (zz1 (.p 0 0) (zz1 q0 (zz0 (zz0 (zzl (.i .u8 (wrapA .u8 ↑(BitVec.toNat (BitVec.ofInt 8 (wrapA .u8 (ofNat n)) ||| BitVec.ofInt 8 128))))) .e) (zzl q0)) (zz0 (zzl (.b (decide (128<=ofNat n)))) (zzn n))) (zz0 (zz0 (zz1 (inv n) zzu .e) (zzl (.p 0 0))) (zz0 (zzn n) (zzl (.i .u8 (wrapA .u8 (ofNat n))))))) ⟨zz1 (AObj.cells 99 2 [.p0,.i .i64 0] (zz1 (.p 1 0) (zzl (.i .i64 1)) .e)) (zzl (AObj.cells 157 1 [] (zzl (.lr 2 1 0 1 false)))) (zzl (AObj.rows 5 1 1 (iF fun x=>wrapA .u8 ↑(BitVec.toNat (BitVec.ofInt 8 (wrapA .u8 (ofNat n)) ||| BitVec.ofInt 8 128))))),2+1,[2,1,0]⟩) .z)/\(decide (128<=ofNat n)=false->K (.st (.exit 0) (zz1 (.p 0 0) (zz1 (inv n) .e (zz0 (zzl (.b (decide (128<=
 ofNat n)))) .e)) (zz0 (zz0 (zzn n) .e) .e)) ⟨zzl (AObj.cells 99 2 [.p0,.i .i64 0] .e),1,[]⟩) .z))) (.i .i64 (Int.fdiv (ofNat n) 128))):=by kernel_rfl
theorem wR_vc (n k:Nat) (g:Nat->Int) (K:Res->Orc->Prop):runK Tryz.prog 1000000 (.code (loopAt Tryz.prog 54 0) 21 (mkT [(0,.p 0 0),(1,.i .i64 (ofNat n))]) (mkH [some (wO k),some (shO 2 k),some (.rows 5 1 k (Cl.iF g))])) (.s (.cal [0,1,2] (.tup []) [.set (wO (k+1)),.set (shO 3 (k+1)),.gone,.set (AObj.rows 5 1 (k+1) (iF (lyB g k (wrapA .u8 ↑(BitVec.toNat (BitVec.ofInt 8 (wrapA .u8 (ofNat n)) ||| BitVec.ofInt 8 128))))))] .z) .z) K=((fun (q1:AV)=>((fun (q0:Nat->Nat->CV)=>((decide (128<=ofNat n)=true->True/\True/\Con Tryz.prog 83 [.p 0 0,.i .u8 (wrapA .u8 ↑(BitVec.toNat (BitVec.ofInt 8 (wrapA .u8 (ofNat n)) ||| BitVec.ofInt 8 128)))] [some (wO k),some (shO 2 k),some (.rows 5 1 k (iF g))] (.tup []) [.set (wO (k+1)),.set (shO 3 (k+1)),.gone,.set (AObj.rows 5 1 (k+1) q0)]/\(0:Int)<=(7:Int)/\K (.st .nrm (zz1 (.p 0 0) (zz1 q1 (zz0 (zz0 (zzl (.i .u8 (wrapA .u8 ↑(BitVec.toNat (BitVec.ofInt 8 (wrapA .u8 (ofNat n)) ||| BitVec.ofInt 8 128))))) .e) (zzl q1)) (zz0 (zzl (.b (decide (128<=ofNat n)))) (zzn n))) (zz0 (zz0 (zz1 (inv n) zzu .e) (zzl (.p 0 0))) (zz0 (zzn n) (zzl (.i .u8 (wrapA .u8 (ofNat n))))))) ⟨zz1 (AObj.cells 99 2 [.p0,.i .i64 0] (zz1 (.p 1 0) (zzn (k+1)) .e)) (zz1 (AObj.cells 157 1 [] (zzl (.lr 3 1 0 (k+1) false))) (zzl (AObj.rows 5 1 (k+1) q0)) .e) (zz0 .e .e),3+1,[3,2,1,0]⟩) .z)/\(decide (128<=ofNat n)=false->K (.st (.exit 0) (zz1 (.p 0 0) (zz1 (inv n) .e (zz0
 (zzl (.b (decide (128<=ofNat n)))) .e)) (zz0 (zz0 (zzn n) .e) .e)) ⟨zz1 (AObj.cells 99 2 [.p0,.i .i64 0] (zz1 (.p 1 0) (zzn k) .e)) (zzl (AObj.cells 157 1 [] (zzl (.lr 2 1 0 k false)))) (zzl (AObj.rows 5 1 k (iF g))),3,[]⟩) .z))) (iF (lyB g k (wrapA .u8 ↑(BitVec.toNat (BitVec.ofInt 8 (wrapA .u8 (ofNat n)) ||| BitVec.ofInt 8 128))))))) (.i .i64 (Int.fdiv (ofNat n) 128))):=by kernel_rfl
theorem lay0_con (x:Int):Con Tryz.prog 83 [.p 0 0,.i .u8 x] [some w0O] (.tup []) [.set (wO 1),.set (shO 2 1),.set (.rows 5 1 1 (Cl.iF fun _=>x))]:=by
 have k:Con Tryz.prog 83 [.p 0 0,.i .u8 x] [some w0O] (.tup []) [.set (wO 1),.set (.cells 157 1 [] (setAll .e 0 [.l 2 0 1 1 1 false])),.set (cellsO 5 [.i .u8 x])]:=
  con_of_run [] [1,3] ((lay0_vc x _).mpr (by
   repeat' first | exact trivial | apply And.intro | decide | exact ⟨_,_,rfl,ret_is (by kernel_rfl) rfl (by kernel_rfl) (by kernel_rfl) rfl (by refine ⟨?_,?_,?_,?_,?_,?_,trivial⟩<;>kernel_rfl)⟩))
 refine k.post (.refl _) ⟨.refl _,.cellsD (dflt:=[]) (l:=[.l 2 0 1 1 1 false]) (l':=[.lr 2 1 0 1 false]) ⟨⟨fun _=>rfl,fun ρ x h=>h.l_lr⟩,trivial⟩,.x (OX.cellsRows (f:=fun i=>Cl.iF (fun _=>x) i 0) rfl fun i hi=>?_),trivial⟩
 have:i=0:=by omega
 subst this
 exact ⟨_,rfl,fun ρ y h=>by cases h;exact .i _ _⟩
theorem lay_app (g:Nat->Int) (k:Nat) (x:Int) (i j:Nat) (hi:i<k+1) (hj:j<1):CW (appZ k (Cl.iF g) (fun _ j=>List.getD [CV.i .u8 x] j .p0) i j) (Cl.iF (lyB g k x) i j):=by
 have:j=0:=by omega
 subst this
 have h:=appZ_i (n:=k) (f:=Cl.iF g) (g:=fun _ j=>List.getD [CV.i .u8 x] j .p0) (i:=i) (j:=0) (k:=.u8) (a:=g i) (b:=x) rfl rfl
 refine .of ?_
 rw [h]
 unfold Cl.iF lyB
 by_cases q:i<k
 · rw [if_pos q,show Nat.blt i k=true by rw [Nat.blt_eq];exact q];rfl
 · rw [if_neg q,show Nat.blt i k=false by rw [Bool.eq_false_iff,ne_eq,Nat.blt_eq];exact q];rfl
theorem layR_con (x:Int) (k:Nat) (g:Nat->Int) (hk:k<=1073741824):Con Tryz.prog 83 [.p 0 0,.i .u8 x] [some (wO k),some (shO 2 k),some (.rows 5 1 k (Cl.iF g))] (.tup []) [.set (wO (k+1)),.set (shO 3 (k+1)),.gone,.set (.rows 5 1 (k+1) (Cl.iF (lyB g k x)))]:=by
 have d:decide (ofNat k<ofNat k)=false:=decide_eq_false (by simp)
 have sz:0+k<=k/\True/\k+1<=140737488355328/\(3*(k+1)+1536)*1<=562949953421312:=⟨by omega,trivial,by omega,by omega⟩
 have b:(-9223372036854775808:Int)<=ofNat k+1/\ofNat k+1<=(9223372036854775807:Int):=⟨by simp;omega,by simp;omega⟩
 have q:Con Tryz.prog 83 [.p 0 0,.i .u8 x] [some (wO k),some (shO 2 k),some (.rows 5 1 k (Cl.iF g))] (.tup []) [.set (wO (k+1)),.set (shO 3 (addN k 1)),.gone,.set (.rows 5 1 (addN k 1) (appZ k (Cl.iF g) fun _ j=>List.getD [CV.i .u8 x] j .p0))]:=
  con_of_run [] [4] ((layR_vc x k g d _).mpr (by
   repeat' first | exact trivial | assumption | apply And.intro | exact ⟨_,_,rfl,ret_is (by kernel_rfl) rfl (by kernel_rfl) (by kernel_rfl) rfl (by refine ⟨?_,?_,?_,?_,?_,?_,trivial⟩<;>kernel_rfl)⟩))
 rw [addN_eq] at q
 exact q.post (.refl _) ⟨.refl _,.refl _,.refl _,.rowsW fun i j hi hj=>lay_app g k x i j hi hj,trivial⟩
def chN (n:Nat):Int:=wrapA IntKind.u8 ↑(BitVec.toNat (BitVec.ofInt 8 (wrapA IntKind.u8 (ofNat n)) ||| BitVec.ofInt 8 (128:Int)))
theorem chN_eq (n:Nat):chN n=ofNat (n % 128+128):=by
 have key:∀x:Fin 256,(BitVec.ofInt 8 (ofNat x.1) ||| BitVec.ofInt 8 (128:Int)).toNat=x.1 % 128+128:=by decide
 have e:wrapA IntKind.u8 (ofNat n)=ofNat (n % 256):=rfl
 unfold chN
 rw [e,key ⟨n % 256,Nat.mod_lt _ (by decide)⟩]
 show ofNat ((n % 256 % 128+128) % 256)= _
 congr 1
 omega
theorem fdiv128 (n:Nat):Int.fdiv (ofNat n) (128:Int)=ofNat (n / 128):=by
 cases n<;>rfl
def fW (n:Nat):Nat->Int:=fun i=>chN (n / 128 ^ i)
def gW (g:Nat->Int) (k n:Nat):Nat->Int:=fun i=>bif Nat.blt i k then g i else chN (n / 128 ^ (i-k))
def mRf:Nat->Nat->Nat
 | 0,_=>0
 | f+1,n=>match Nat.blt n 128 with
   | true=>0
   | false=>mRf f (n / 128)+1
def mR (n:Nat):Nat:=mRf 10 n
def lst (n:Nat):Nat:=n / 128 ^ mR n
theorem mRf_ok:∀(f n:Nat),n<128 ^ (f+1)->mRf f n<=f/\(∀j,j<mRf f n->128<=n / 128 ^ j)/\n / 128 ^ mRf f n<128
 | 0,n,h=>⟨Nat.le_refl _,fun j hj=>absurd hj (Nat.not_lt_zero j),by show n / 1<128;rw [Nat.div_one];simpa using h⟩
 | f+1,n,h=>by
   cases hb:Nat.blt n 128 with
   | true=>
     have e:mRf (f+1) n=0:=by show (match Nat.blt n 128 with | true=>0 | false=>_)=0;rw [hb]
     have:n<128:=by rwa [Nat.blt_eq] at hb
     rw [e]
     exact ⟨Nat.zero_le _,fun j hj=>absurd hj (Nat.not_lt_zero j),by show n / 1<128;rw [Nat.div_one];exact this⟩
   | false=>
     have e:mRf (f+1) n=mRf f (n / 128)+1:=by show (match Nat.blt n 128 with | true=>0 | false=>mRf f (n / 128)+1)= _;rw [hb]
     have hn:¬n<128:=by rw [Bool.eq_false_iff,ne_eq,Nat.blt_eq] at hb;exact hb
     have hd:n / 128<128 ^ (f+1):=by
      rw [Nat.div_lt_iff_lt_mul (by decide),<-Nat.pow_succ];exact h
     obtain ⟨i1,i2,i3⟩:=mRf_ok f (n / 128) hd
     have ed:∀j,n / 128 / 128 ^ j=n / 128 ^ (j+1):=fun j=>by rw [Nat.div_div_eq_div_mul,Nat.pow_succ,Nat.mul_comm]
     rw [e]
     refine ⟨by omega,fun j hj=>?_,?_⟩
     · cases j with
       | zero=>show 128<=n / 1;rw [Nat.div_one];omega
       | succ j=>rw [<-ed];exact i2 j (by omega)
     · rw [<-ed];exact i3
theorem mR_ok {n:Nat} (h:n<9223372036854775808):mR n<=10/\(∀j,j<mR n->128<=n / 128 ^ j)/\n / 128 ^ mR n<128:=mRf_ok 10 n (Nat.lt_of_lt_of_le h (by decide))
theorem le_dec {x:Nat} (h:decide ((128:Int)<=ofNat x)=true):128<=x:=by
 have:=of_decide_eq_true h
 simp at this;omega
theorem lt_dec {x:Nat} (h:decide ((128:Int)<=ofNat x)=false):x<128:=by
 have:=of_decide_eq_false h
 simp at this;omega
theorem div_s (n j:Nat):n / 128 ^ j / 128=n / 128 ^ (j+1):=by rw [Nat.div_div_eq_div_mul,Nat.pow_succ]
def wI (n k:Nat) (g:Nat->Int) (j:Nat):List (Nat×AV)×List (Option AObj):=([(0,.p 0 0),(1,.i .i64 (ofNat (n / 128 ^ j)))],[some (wO (k+j)),some (shO 2 (k+j)),some (.rows 5 1 (k+j) (Cl.iF (gW g k n)))])
theorem lpC (n k:Nat) (g:Nat->Int) (hn:n<9223372036854775808) (hk:k<=1073741000) (s:Nat) (hs:s<=mR n) :
 LDoes Tryz.prog (loopAt Tryz.prog 54 0) 21 2 (mkT (wI n k g s).1) (wI n k g s).2 (.exit 0) (mkT [(0,.p 0 0),(1,.i .i64 (ofNat (lst n)))]) [some (wO (k+mR n)),some (shO 2 (k+mR n)),some (.rows 5 1 (k+mR n) (Cl.iF (gW g k n)))]:=by
 obtain ⟨m10,mge,mlt⟩:=mR_ok hn
 refine loop_indV (D:=Nat) (l':=[(0,.p 0 0),(1,.i .i64 (ofNat (lst n)))]) (wI n k g) (fun j=>mR n-j) (fun j=>j<=mR n) ?_ s hs
 intro j hj
 refine ⟨by simp [wI],1000000,?_⟩
 refine ⟨_,(wR_vc (n / 128 ^ j) (k+j) (gW g k n) _).mpr ⟨fun h0=>?_,fun h0=>?_⟩⟩
 · have hlt:j<mR n:=by
    rcases Nat.lt_or_ge j (mR n) with q | q
    · exact q
    · have:j=mR n:=by omega
      subst this
      have:=le_dec h0
      omega
   have c:=layR_con (chN (n / 128 ^ j)) (k+j) (gW g k n) (by omega)
   refine ⟨trivial,trivial,c,by decide,.inl ⟨j+1,[0,1,3],[],_,_,[(0,.p 0 0),(1,.i .i64 (Int.fdiv (ofNat (n / 128 ^ j)) 128))],[some (wO (k+j+1)),some (shO 2 (k+j+1)),some (.rows 5 1 (k+j+1) (Cl.iF (lyB (gW g k n) (k+j) (chN (n / 128 ^ j)))))],hlt,by show mR n-(j+1)<mR n-j;omega,rfl,
    st_is [0,1,3] (by kernel_rfl) rfl rfl rfl (by refine ⟨?_,?_,?_,?_,?_,?_,trivial⟩<;>kernel_rfl) rfl,?_,.refl _,.refl _,.rowsW fun i z hi hz=>.of ?_,trivial⟩⟩
   · rw [fdiv128,div_s];exact .refl _
   · show CV.i .u8 (bif Nat.blt i (k+j) then gW g k n i else chN (n / 128 ^ j))=CV.i .u8 (gW g k n i)
     by_cases q:i<k+j
     · rw [show Nat.blt i (k+j)=true by rw [Nat.blt_eq];exact q];rfl
     · have:i=k+j:=by have hi:i<k+j+1:=hi;omega
       subst this
       rw [show Nat.blt (k+j) (k+j)=false by rw [Bool.eq_false_iff,ne_eq,Nat.blt_eq];omega]
       unfold gW
       rw [show Nat.blt (k+j) k=false by rw [Bool.eq_false_iff,ne_eq,Nat.blt_eq];omega,Nat.add_sub_cancel_left]
       rfl
 · have:j=mR n:=by
    have h0:=lt_dec h0
    rcases Nat.lt_or_ge j (mR n) with q | q
    · have:=mge j q
      omega
    · omega
   subst this
   exact .inr ⟨[0,1,2],[],_,_,[(0,.p 0 0),(1,.i .i64 (ofNat (n / 128 ^ mR n)))],[some (wO (k+mR n)),some (shO 2 (k+mR n)),some (.rows 5 1 (k+mR n) (Cl.iF (gW g k n)))],rfl,by simp,
    st_is [0,1,2] (by kernel_rfl) rfl rfl rfl (by refine ⟨?_,?_,?_,?_,?_,?_,trivial⟩<;>kernel_rfl) rfl,.refl _,.refl _⟩
end Go.Proofs.Cl
