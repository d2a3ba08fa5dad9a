/- Runs over unknown values, told by the kernel: part GD. -/
import Derived.Test.YtfpebgpcpoefpaaGreatDoorGC
noncomputable section
open Int (ofNat)
set_option linter.unusedSimpArgs false
set_option linter.unusedVariables false
set_option maxRecDepth 20000
namespace Go.Proofs.Cl
open Go Go.Sim Go.Proofs Go.Proofs.Cd Go.Proofs.St Go.Proofs.YtfpebgpcpoefpaaGreatDoor
theorem wnA_vc (n:Nat) (K:Res->Orc->Prop):runK Tryz.prog 1000000 (.call 54 [.p 0 0,inv n] (mkH [some w0O])) (.c (.lop [0] [0,1] 1 (.exit 0) [(0,.p 0 0),(1,.i .i64 (ofNat (lst n)))] [some (wO (mR n)),some (shO 2 (mR n)),some (.rows 5 1 (mR n) (iF (fW n)))] (.cal [0,1,2] (.tup []) [.set (wO (mR n+1)),.set (shO 3 (mR n+1)),.gone,.set (AObj.rows 5 1 (mR n+1) (iF (lyB (fW n) (mR n) (wrapA .u8 (ofNat (lst n))))))] .z))) K=((fun (q1:Nat->Nat->CV)=>((fun (q0:List (Option AObj))=>(True/\LDoes Tryz.prog (loopAt Tryz.prog 54 0) 21 1 (mkT [(0,.p 0 0),(1,.i .i64 (if 0>ofNat n then 0 else ofNat n))]) [some w0O] (.exit 0) (mkT [(0,.p 0 0),(1,.i .i64 (ofNat (lst n)))]) q0/\True/\Con Tryz.prog 83 [.p 0 0,.i .u8 (wrapA .u8 (ofNat (lst n)))] q0 (.tup []) [.set (wO (mR n+1)),.set (shO 3 (mR n+1)),.gone,.set (AObj.rows 5 1 (mR n+1) q1)]/\K (.rv (.tup []) ⟨zz1 (AObj.cells 99 2 [.p0,.i .i64 0] (zz1 (.p 1 0) (zzn (mR n+1)) .e)) (zz1 (AObj.cells 157 1 [] (zzl (.lr 3 1 0 (mR n+1) false))) (zzl (AObj.rows 5 1 (mR n+1) q1)) .e) (zz0 .e .e),4,[3,2,1,0,2,1,0]⟩) .z)) [some (wO (mR n)),some (shO 2 (mR n)),some (.rows 5 1 (mR n) (iF (fW n)))])) (iF (lyB (fW n) (mR n) (wrapA .u8 (ofNat (lst n)))))):=by kernel_rfl
theorem wnB_vc (n:Nat) (K:Res->Orc->Prop):runK Tryz.prog 1000000 (.call 54 [.p 0 0,inv n] (mkH [some w0O])) (.c (.lop [0] [0,1] 1 (.exit 0) [(0,.p 0 0),(1,.i .i64 (if 0>ofNat n then 0 else ofNat n))] [some w0O] (.cal [0] (.tup []) [.set (wO 1),.set (shO 2 1),.set (AObj.rows 5 1 1 (iF fun x=>wrapA .u8 (if 0>ofNat n then 0 else ofNat n)))] .z))) K=((fun (q0:Int)=>(True/\LDoes Tryz.prog (loopAt Tryz.prog 54 0) 21 1 (mkT [(0,.p 0 0),(1,.i .i64 q0)]) [some w0O] (.exit 0) (mkT [(0,.p 0 0),(1,.i .i64 q0)]) [some w0O]/\True/\Con Tryz.prog 83 [.p 0 0,.i .u8 (wrapA .u8 q0)] [some w0O] (.tup []) [.set (wO 1),.set (shO 2 1),.set (AObj.rows 5 1 1 (iF fun x=>wrapA .u8 q0))]/\K (.rv (.tup []) ⟨zz1 (AObj.cells 99 2 [.p0,.i .i64 0] (zz1 (.p 1 0) (zzl (.i .i64 1)) .e)) (zzl (AObj.cells 157 1 [] (zzl (.lr 2 1 0 1 false)))) (zzl (AObj.rows 5 1 1 (iF fun x=>wrapA .u8 q0))),3,[2,1,0,0]⟩) .z)) (if 0>ofNat n then 0 else ofNat n)):=by kernel_rfl
theorem wnC_vc (n k:Nat) (g:Nat->Int) (K:Res->Orc->Prop):runK Tryz.prog 1000000 (.call 54 [.p 0 0,inv n] (mkH [some (wO k),some (shO 2 k),some (.rows 5 1 k (Cl.iF g))])) (.c (.lop [0,1,2] [0,1] 2 (.exit 0) [(0,.p 0 0),(1,.i .i64 (ofNat (lst n)))] [some (wO (k+mR n)),some (shO 2 (k+mR n)),some (.rows 5 1 (k+mR n) (iF (gW g k n)))] (.cal [0,1,3] (.tup []) [.set (wO (k+mR n+1)),.set (shO 3 (k+mR n+1)),.gone,.set (AObj.rows 5 1 (k+mR n+1) (iF (lyB (gW g k n) (k+mR n) (wrapA .u8 (ofNat (lst n))))))] .z))) K=((fun (q1:Nat->Nat->CV)=>((fun (q0:List (Option AObj))=>(True/\LDoes Tryz.prog (loopAt Tryz.prog 54 0) 21 2 (mkT [(0,.p 0 0),(1,.i .i64 (if 0>ofNat n then 0 else ofNat n))]) [some (wO k),some (shO 2 k),some (.rows 5 1 k (iF g))] (.exit 0) (mkT [(0,.p 0 0),(1,.i .i64 (ofNat (lst n)))]) q0/\True/\Con Tryz.prog 83 [.p 0 0,.i .u8 (wrapA .u8 (ofNat (lst n)))] q0 (.tup []) [.set (wO (k+mR n+1)),.set (shO 3 (k+mR n+1)),.gone,.set (AObj.rows 5 1 (k+mR n+1) q1)]/\K (.rv (.tup []) ⟨zz1 (AObj.cells 99 2 [.p0,.i .i64 0] (zz1 (.p 1 0) (zzn (k+mR n+1)) .e)) (zz1 (AObj.cells 157 1 [] (zzl (.lr 4 1 0 (k+mR n+1) false))) (zz0 .e .e) .e) (zz0 (zzl (AObj.rows 5 1 (k+mR n+1) q1)) .e),5,[4,3,1,0,3,2,1,0]⟩) .z)) [some (wO (k+mR n)),some (shO 2 (k+mR n)),some (.rows 5 1 (k+mR n) (iF (gW g k n)))])) (iF (lyB (gW g k n) (k+mR n) (wrapA .u8 (ofNat (lst
 n)))))):=by kernel_rfl
def aI (n:Nat):Nat->List (Nat×AV)×List (Option AObj)
 | 0=>([(0,.p 0 0),(1,.i .i64 (ofNat n))],[some w0O])
 | j+1=>([(0,.p 0 0),(1,.i .i64 (ofNat (n / 128 ^ (j+1))))],[some (wO (j+1)),some (shO 2 (j+1)),some (.rows 5 1 (j+1) (Cl.iF (fW n)))])
theorem lpA (n:Nat) (hn:n<9223372036854775808) (h128:128<=n) :
 LDoes Tryz.prog (loopAt Tryz.prog 54 0) 21 1 (mkT [(0,.p 0 0),(1,.i .i64 (ofNat n))]) [some w0O] (.exit 0) (mkT [(0,.p 0 0),(1,.i .i64 (ofNat (lst n)))]) [some (wO (mR n)),some (shO 2 (mR n)),some (.rows 5 1 (mR n) (Cl.iF (fW n)))]:=by
 obtain ⟨m10,mge,mlt⟩:=mR_ok hn
 have m1:1<=mR n:=by
  rcases Nat.eq_zero_or_pos (mR n) with q | q
  · rw [q] at mlt
    have:n / 128 ^ 0=n:=Nat.div_one n
    omega
  · exact q
 refine loop_indV (D:=Nat) (l':=[(0,.p 0 0),(1,.i .i64 (ofNat (lst n)))]) (aI n) (fun j=>mR n-j) (fun j=>j<=mR n) ?_ 0 (Nat.zero_le _)
 intro j hj
 cases j with
 | zero=>
   refine ⟨by simp [aI],1000000,_,(w0_vc n _).mpr ⟨fun _=>⟨trivial,trivial,lay0_con (chN n),by decide,?_⟩,fun h0=>absurd (lt_dec h0) (by omega)⟩⟩
   refine .inl ⟨1,[0,1,2],[],_,_,[(0,.p 0 0),(1,.i .i64 (Int.fdiv (ofNat n) 128))],[some (wO 1),some (shO 2 1),some (.rows 5 1 1 (Cl.iF fun _=>chN n))],m1,by show mR n-1<mR n-0;omega,rfl,
    st_is [0,1,2] (by kernel_rfl) rfl rfl rfl (by refine ⟨?_,?_,?_,?_,?_,?_,trivial⟩<;>kernel_rfl) rfl,?_,.refl _,.refl _,.rowsW fun i z hi hz=>.of ?_,trivial⟩
   · rw [fdiv128]
     show TVL _ [(0,.p 0 0),(1,.i .i64 (ofNat (n / 128 ^ 1)))]
     rw [Nat.pow_one];exact .refl _
   · have:i=0:=by omega
     subst this
     show CV.i .u8 (chN n)=CV.i .u8 (chN (n / 128 ^ 0))
     rw [show n / 128 ^ 0=n from Nat.div_one n]
 | succ j=>
   refine ⟨by simp [aI],1000000,_,(wR_vc (n / 128 ^ (j+1)) (j+1) (fW n) _).mpr ⟨fun h0=>?_,fun h0=>?_⟩⟩
   · have hlt:j+1<mR n:=by
      rcases Nat.lt_or_ge (j+1) (mR n) with q | q
      · exact q
      · have:j+1=mR n:=by omega
        rw [this] at h0
        have:=le_dec h0
        omega
     have c:=layR_con (chN (n / 128 ^ (j+1))) (j+1) (fW n) (by omega)
     refine ⟨trivial,trivial,c,by decide,.inl ⟨j+1+1,[0,1,3],[],_,_,[(0,.p 0 0),(1,.i .i64 (Int.fdiv (ofNat (n / 128 ^ (j+1))) 128))],[some (wO (j+1+1)),some (shO 2 (j+1+1)),some (.rows 5 1 (j+1+1) (Cl.iF (lyB (fW n) (j+1) (chN (n / 128 ^ (j+1))))))],hlt,by show mR n-(j+1+1)<mR n-(j+1);omega,rfl,
      st_is [0,1,3] (by kernel_rfl) rfl rfl rfl (by refine ⟨?_,?_,?_,?_,?_,?_,trivial⟩<;>kernel_rfl) rfl,?_,.refl _,.refl _,.rowsW fun i z hi hz=>.of ?_,trivial⟩⟩
     · rw [fdiv128,div_s];exact .refl _
     · show CV.i .u8 (bif Nat.blt i (j+1) then fW n i else chN (n / 128 ^ (j+1)))=CV.i .u8 (fW n i)
       by_cases q:i<j+1
       · rw [show Nat.blt i (j+1)=true by rw [Nat.blt_eq];exact q];rfl
       · have:i=j+1:=by have hi:i<j+1+1:=hi;omega
         subst this
         rw [show Nat.blt (j+1) (j+1)=false by rw [Bool.eq_false_iff,ne_eq,Nat.blt_eq];omega];rfl
   · have e:j+1=mR n:=by
      have h0:=lt_dec h0
      rcases Nat.lt_or_ge (j+1) (mR n) with q | q
      · have:=mge (j+1) q
        omega
      · omega
     refine .inr ⟨[0,1,2],[],_,_,[(0,.p 0 0),(1,.i .i64 (ofNat (n / 128 ^ (j+1))))],[some (wO (j+1)),some (shO 2 (j+1)),some (.rows 5 1 (j+1) (Cl.iF (fW n)))],rfl,by simp,
      st_is [0,1,2] (by kernel_rfl) rfl rfl rfl (by refine ⟨?_,?_,?_,?_,?_,?_,trivial⟩<;>kernel_rfl) rfl,?_,?_⟩
     · unfold lst;rw [e];exact .refl _
     · rw [e];exact .refl _
theorem lpB (n:Nat) (h:n<128) (x:Int) (hx:x=ofNat n):LDoes Tryz.prog (loopAt Tryz.prog 54 0) 21 1 (mkT [(0,.p 0 0),(1,.i .i64 x)]) [some w0O] (.exit 0) (mkT [(0,.p 0 0),(1,.i .i64 x)]) [some w0O]:=by
 subst hx
 refine loop_indV (D:=Unit) (l':=[(0,.p 0 0),(1,.i .i64 (ofNat n))]) (fun _=>([(0,.p 0 0),(1,.i .i64 (ofNat n))],[some w0O])) (fun _=>0) (fun _=>True) ?_ () trivial
 intro _ _
 exact ⟨by simp,1000000,_,(w0_vc n _).mpr ⟨fun h0=>absurd (le_dec h0) (by omega),fun _=>.inr ⟨[0],[],_,_,[(0,.p 0 0),(1,.i .i64 (ofNat n))],[some w0O],rfl,by simp,st_k [0] (by kernel_rfl),.refl _,.refl _⟩⟩⟩
def wl (n:Nat):Nat:=mR n+1
def wB (n:Nat):Nat->Int:=fun i=>bif Nat.blt i (mR n) then chN (n / 128 ^ i) else ofNat (lst n)
def wG (g:Nat->Int) (k n:Nat):Nat->Int:=fun i=>bif Nat.blt i k then g i else wB n (i-k)
theorem max0 (n:Nat):(if (0:Int)>ofNat n then (0:Int) else ofNat n)=ofNat n:=if_neg (by simp)
theorem u8_lo {n:Nat} (h:n<256):wrapA IntKind.u8 (ofNat n)=ofNat n:=by
 show ofNat (n % 256)= _
 rw [Nat.mod_eq_of_lt h]
theorem wnum0_con (n:Nat) (hn:n<9223372036854775808):Con Tryz.prog 54 [.p 0 0,.i .i64 (ofNat n)] [some w0O] (.tup []) [.set (wO (wl n)),.set (shO 2 (wl n)),.set (.rows 5 1 (wl n) (Cl.iF (wB n)))]:=by
 obtain ⟨m10,mge,mlt⟩:=mR_ok hn
 by_cases h128:n<128
 · have e0:mR n=0:=by
    rcases Nat.eq_zero_or_pos (mR n) with q | q
    · exact q
    · have:=mge 0 q
      have e:n / 128 ^ 0=n:=Nat.div_one n
      omega
   have k:Con Tryz.prog 54 [.p 0 0,.i .i64 (ofNat n)] [some w0O] (.tup []) [.set (wO 1),.set (shO 2 1),.set (.rows 5 1 1 (Cl.iF fun _=>wrapA IntKind.u8 (if (0:Int)>ofNat n then (0:Int) else ofNat n)))]:=
    con_of_run [] [1,2] ((wnB_vc n _).mpr ⟨trivial,lpB n h128 _ (max0 n),trivial,lay0_con _,_,_,rfl,ret_is (by kernel_rfl) rfl (by kernel_rfl) (by kernel_rfl) rfl (by refine ⟨?_,?_,?_,?_,?_,?_,trivial⟩<;>kernel_rfl)⟩)
   unfold wl
   rw [e0]
   refine k.post (.refl _) ⟨.refl _,.refl _,.rowsW fun i j hi hj=>.of ?_,trivial⟩
   have:i=0:=by omega
   subst this
   show CV.i .u8 (wrapA IntKind.u8 (if (0:Int)>ofNat n then (0:Int) else ofNat n))=CV.i .u8 (bif Nat.blt 0 (mR n) then chN (n / 128 ^ 0) else ofNat (n / 128 ^ mR n))
   rw [e0,max0,u8_lo (by omega),show n / 128 ^ 0=n from Nat.div_one n];rfl
 · have lp:=lpA n hn (by omega)
   rw [<-max0 n] at lp
   have k:Con Tryz.prog 54 [.p 0 0,.i .i64 (ofNat n)] [some w0O] (.tup []) [.set (wO (mR n+1)),.set (shO 2 (mR n+1)),.set (.rows 5 1 (mR n+1) (Cl.iF (lyB (fW n) (mR n) (wrapA IntKind.u8 (ofNat (lst n))))))]:=
    con_of_run [] [1,3] ((wnA_vc n _).mpr ⟨trivial,lp,trivial,layR_con _ _ _ (by omega),_,_,rfl,ret_is (by kernel_rfl) rfl (by kernel_rfl) (by kernel_rfl) rfl (by refine ⟨?_,?_,?_,?_,?_,?_,trivial⟩<;>kernel_rfl)⟩)
   refine k.post (.refl _) ⟨.refl _,.refl _,.rowsW fun i j hi hj=>.of ?_,trivial⟩
   show CV.i .u8 (bif Nat.blt i (mR n) then fW n i else wrapA IntKind.u8 (ofNat (lst n)))=CV.i .u8 (bif Nat.blt i (mR n) then chN (n / 128 ^ i) else ofNat (lst n))
   rw [u8_lo (show lst n<256 by unfold lst;omega)];rfl
theorem wnumR_con (n k:Nat) (g:Nat->Int) (hn:n<9223372036854775808) (hk:k<=1073741000):Con Tryz.prog 54 [.p 0 0,.i .i64 (ofNat n)] [some (wO k),some (shO 2 k),some (.rows 5 1 k (Cl.iF g))] (.tup [])
 [.set (wO (k+wl n)),.set (shO 3 (k+wl n)),.gone,.set (.rows 5 1 (k+wl n) (Cl.iF (wG g k n)))]:=by
 obtain ⟨m10,mge,mlt⟩:=mR_ok hn
 have lp0:LDoes Tryz.prog (loopAt Tryz.prog 54 0) 21 2 (mkT [(0,.p 0 0),(1,.i .i64 (ofNat n))]) [some (wO k),some (shO 2 k),some (.rows 5 1 k (Cl.iF g))] (.exit 0) (mkT [(0,.p 0 0),(1,.i .i64 (ofNat (lst n)))]) [some (wO (k+mR n)),some (shO 2 (k+mR n)),some (.rows 5 1 (k+mR n) (Cl.iF (gW g k n)))]:=by
  have h:=lpC n k g hn hk 0 (Nat.zero_le _)
  unfold wI at h
  rw [show n / 128 ^ 0=n from Nat.div_one n] at h
  refine h.ovl ⟨.refl _,.refl _,.rowsW fun i j hi hj=>.of ?_,trivial⟩
  show CV.i .u8 (g i)=CV.i .u8 (bif Nat.blt i k then g i else chN (n / 128 ^ (i-k)))
  rw [show Nat.blt i k=true by rw [Nat.blt_eq];exact hi];rfl
 have lp:=lp0
 rw [<-max0 n] at lp
 have q:Con Tryz.prog 54 [.p 0 0,.i .i64 (ofNat n)] [some (wO k),some (shO 2 k),some (.rows 5 1 k (Cl.iF g))] (.tup [])
  [.set (wO (k+mR n+1)),.set (shO 3 (k+mR n+1)),.gone,.set (.rows 5 1 (k+mR n+1) (Cl.iF (lyB (gW g k n) (k+mR n) (wrapA IntKind.u8 (ofNat (lst n))))))]:=
  con_of_run [] [4] ((wnC_vc n k g _).mpr ⟨trivial,lp,trivial,layR_con _ _ _ (by omega),_,_,rfl,ret_is (by kernel_rfl) rfl (by kernel_rfl) (by kernel_rfl) rfl (by refine ⟨?_,?_,?_,?_,?_,?_,trivial⟩<;>kernel_rfl)⟩)
 refine q.post (.refl _) ⟨.refl _,.refl _,.refl _,.rowsW fun i j hi hj=>.of ?_,trivial⟩
 show CV.i .u8 (bif Nat.blt i (k+mR n) then (bif Nat.blt i k then g i else chN (n / 128 ^ (i-k))) else wrapA IntKind.u8 (ofNat (lst n)))=CV.i .u8 (bif Nat.blt i k then g i else (bif Nat.blt (i-k) (mR n) then chN (n / 128 ^ (i-k)) else ofNat (lst n)))
 rw [u8_lo (show lst n<256 by unfold lst;omega)]
 by_cases h1:i<k
 · rw [show Nat.blt i k=true by rw [Nat.blt_eq];exact h1,show Nat.blt i (k+mR n)=true by rw [Nat.blt_eq];omega];rfl
 · rw [show Nat.blt i k=false by rw [Bool.eq_false_iff,ne_eq,Nat.blt_eq];exact h1]
   by_cases h2:i<k+mR n
   · rw [show Nat.blt i (k+mR n)=true by rw [Nat.blt_eq];exact h2,show Nat.blt (i-k) (mR n)=true by rw [Nat.blt_eq];omega];rfl
   · rw [show Nat.blt i (k+mR n)=false by rw [Bool.eq_false_iff,ne_eq,Nat.blt_eq];exact h2,show Nat.blt (i-k) (mR n)=false by rw [Bool.eq_false_iff,ne_eq,Nat.blt_eq];omega];rfl
theorem cloneSI_vc (m:Nat) (g:Nat->Int) (K:Res->Orc->Prop):runK Tryz.prog 1000000 (.call 88 [.sv 1 (m+1) (Cl.iF g)] (mkH [])) (.c (.s .z .z)) K=(True/\((1=1/\0+(m+1)<=m+1)/\True/\True/\0+(m+1)<=140737488355328/\(3*(0+(m+1))+1536)*1<=562949953421312)/\K (.rv (.sv 1 (m+1) fun k x=>CV.i .u8 (g k)) ⟨zz0 (zz0 .e .e) .e,2,[1,1,0,0]⟩) .z):=by kernel_rfl
theorem wby_vc (k:Nat) (g:Nat->Int) (K:Res->Orc->Prop):runK Tryz.prog 1000000 (.call 57 [.p 0 0] (mkH [some (wO k),some (shO 2 k),some (.rows 5 1 k (Cl.iF g))])) (oc 7 (.cal [2] (.sv 1 k (iF g)) [.gone] .z)) K=(True/\True/\True/\True/\True/\True/\(True/\0<=ofNat k/\0<=k/\k<=k/\(0=0\/0<k))/\Con Tryz.prog 88 [.lr 0 1 0 k false] [some (.rows 5 1 k (iF g))] (.sv 1 k (iF g)) [.gone]/\K (.rv (.sv 1 k (iF g)) ⟨zz1 (AObj.cells 99 2 [.p0,.i .i64 0] (zz1 (.p 1 0) (zzn k) .e)) (zzl (AObj.cells 157 1 [] (zzl (.lr 2 1 0 k false)))) (zz0 .e .e),3,[2]⟩) .z):=by kernel_rfl
theorem blockText_vc (n:Nat) (d:List Nat) (K:Res->Orc->Prop):runK Tryz.prog 1000000 (.call 123 [.agg [inv n,.s d]] (mkH [])) (.s .z (.cal [1] (.tup []) [.set (wO (wl n)),.set (shO 2 (wl n)),.set (AObj.rows 5 1 (wl n) (iF (wB n)))] (.cal [1,2,3] (.sv 1 (wl n) (iF (wB n))) [.keep,.keep,.gone] .z))) K=((fun (q0:Bool)=>(True/\(q0=true->K (.rv (.s []) ⟨zzl (AObj.cells 90 2 [] (zz1 (inv n) (zzl (.s d)) .e)),1,[0]⟩) .z)/\(q0=false->True/\Con Tryz.prog 54 [.p 0 0,inv n] [some w0O] (.tup []) [.set (wO (wl n)),.set (shO 2 (wl n)),.set (AObj.rows 5 1 (wl n) (iF (wB n)))]/\Con Tryz.prog 57 [.p 0 0] [some (wO (wl n)),some (shO 2 (wl n)),some (.rows 5 1 (wl n) (iF (wB n)))] (.sv 1 (wl n) (iF (wB n))) [.keep,.keep,.gone]/\U8s (wl n) (iF (wB n))/\True/\List.length (bytesF (wl n) (iF (wB n)))+List.length d<=1073741824/\K (.rv (.s (bytesF (wl n) (iF (wB n)) ++ d)) ⟨zz1 (AObj.cells 90 2 [] (zz1 (inv n) (zzl (.s d)) .e)) (zz1 (AObj.cells 99 2 [.p0,.i .i64 0] (zz1 (.p 2 0) (zzn (wl n)) .e)) (zz0 .e .e) .e) (zzl (AObj.cells 157 1 [] (zzl (.lr 3 1 0 (wl n) false)))),4,[3,3,2,1,1,0]⟩) .z))) (decide (ofNat n=0) && (natsEq d [] && true))):=by kernel_rfl
theorem metaText_vc (a b c d e:Nat) (K:Res->Orc->Prop):runK Tryz.prog 1000000 (.call 104 [.agg [inv a,inv b,inv c,inv d,inv e]] (mkH [])) (.s .z (.inl (.inl (.cal [1] (.tup []) [.set (wO (wl a)),.set (shO 2 (wl a)),.set (AObj.rows 5 1 (wl a) (iF (wB a)))] (.inl (.cal [1,2,3] (.tup []) [.set (wO (wl a+wl b)),.set (shO 3 (wl a+wl b)),.gone,.set (AObj.rows 5 1 (wl a+wl b) (iF (wG (wB a) (wl a) b)))] (.inl (oc 2 (.inl (.cal [1,2,4] (.tup []) [.set (wO (wl a+wl b+wl c)),.set (shO 3 (wl a+wl b+wl c)),.gone,.set (AObj.rows 5 1 (wl a+wl b+wl c) (iF (wG (wG (wB a) (wl a) b) (wl a+wl b) c)))] (.inl (oc 2 (.inl (.cal [1,2,5] (.tup []) [.set (wO (wl a+wl b+wl c+wl d)),.set (shO 3 (wl a+wl b+wl c+wl d)),.gone,.set (AObj.rows 5 1 (wl a+wl b+wl c+wl d) (iF (wG (wG (wG (wB a) (wl a) b) (wl a+wl b) c) (wl a+wl b+wl c) d)))] (.inl (oc 2 (.inl (.cal [1,2,6] (.tup []) [.set (wO (wl a+wl b+wl c+wl d+wl e)),.set (shO 3 (wl a+wl b+wl c+wl d+wl e)),.gone,.set (AObj.rows 5 1 (wl a+wl b+wl c+wl d+wl e) (iF (wG (wG (wG (wG (wB a) (wl a) b) (wl a+wl b) c) (wl a+wl b+wl c) d) (wl a+wl b+wl c+wl d) e)))] (.inl (.c (.cal [1,2,7] (.sv 1 (wl a+wl b+wl c+wl d+wl e) (iF (wG (wG (wG (wG (wB a) (wl a) b) (wl a+wl b) c) (wl a+wl b+wl c) d) (wl a+wl b+wl c+wl d) e))) [.keep,.keep,.gone] .z))))))))))))))))))))) K=((fun (q2:Nat->Nat->CV)=>((fun (q1:Bool)=>((fun (q0 :
 Nat->Nat->CV)=>(True/\(q1=true->K (.rv (.s []) ⟨zzl (AObj.cells 127 5 [] (zz1 (inv a) (zz1 (inv b) (zzn d) .e) (zz1 (inv c) (zzn e) .e))),1,[0]⟩) .z)/\(q1=false->True/\Con Tryz.prog 54 [.p 0 0,inv a] [some w0O] (.tup []) [.set (wO (wl a)),.set (shO 2 (wl a)),.set (AObj.rows 5 1 (wl a) (iF (wB a)))]/\True/\Con Tryz.prog 54 [.p 0 0,inv b] [some (wO (wl a)),some (shO 2 (wl a)),some (.rows 5 1 (wl a) (iF (wB a)))] (.tup []) [.set (wO (wl a+wl b)),.set (shO 3 (wl a+wl b)),.gone,.set (AObj.rows 5 1 (wl a+wl b) (iF (wG (wB a) (wl a) b)))]/\True/\Con Tryz.prog 54 [.p 0 0,inv c] [some (wO (wl a+wl b)),some (shO 2 (wl a+wl b)),some (.rows 5 1 (wl a+wl b) (iF (wG (wB a) (wl a) b)))] (.tup []) [.set (wO (wl a+wl b+wl c)),.set (shO 3 (wl a+wl b+wl c)),.gone,.set (AObj.rows 5 1 (wl a+wl b+wl c) (iF (wG (wG (wB a) (wl a) b) (wl a+wl b) c)))]/\rg (1)/\True/\Con Tryz.prog 54 [.p 0 0,inv d] [some (wO (wl a+wl b+wl c)),some (shO 2 (wl a+wl b+wl c)),some (.rows 5 1 (wl a+wl b+wl c) (iF (wG (wG (wB a) (wl a) b) (wl a+wl b) c)))] (.tup []) [.set (wO (wl a+wl b+wl c+wl d)),.set (shO 3 (wl a+wl b+wl c+wl d)),.gone,.set (AObj.rows 5 1 (wl a+wl b+wl c+wl d) q2)]/\rg (2)/\True/\Con Tryz.prog 54 [.p 0 0,inv e] [some (wO (wl a+wl b+wl c+wl d)),some (shO 2 (wl a+wl b+wl c+wl d)),some (.rows 5 1 (wl a+wl b+wl c+wl d) q2)] (.tup []) [.set (wO (wl a+wl b+wl c+wl d+wl e)),.set
 (shO 3 (wl a+wl b+wl c+wl d+wl e)),.gone,.set (AObj.rows 5 1 (wl a+wl b+wl c+wl d+wl e) q0)]/\rg (3)/\Con Tryz.prog 57 [.p 0 0] [some (wO (wl a+wl b+wl c+wl d+wl e)),some (shO 2 (wl a+wl b+wl c+wl d+wl e)),some (.rows 5 1 (wl a+wl b+wl c+wl d+wl e) q0)] (.sv 1 (wl a+wl b+wl c+wl d+wl e) q0) [.keep,.keep,.gone]/\U8s (wl a+wl b+wl c+wl d+wl e) q0/\K (.rv (.s (bytesF (wl a+wl b+wl c+wl d+wl e) q0)) ⟨zz1 (AObj.cells 127 5 [] (zz1 (inv a) (zz1 (inv b) (zzn d) .e) (zz1 (inv c) (zzn e) .e))) (zz1 (AObj.cells 99 2 [.p0,.i .i64 0] (zz1 (.p 2 0) (zzn (wl a+wl b+wl c+wl d+wl e)) .e)) (zz0 (zz0 .e .e) .e) (zz0 .e .e)) (zz1 (AObj.cells 157 1 [] (zzl (.lr 7 1 0 (wl a+wl b+wl c+wl d+wl e) false))) (zz0 .e .e) (zz0 .e .e)),8,[7,7,6,2,1,6,5,2,1,5,4,2,1,4,3,2,1,3,2,1,1,0]⟩) .z))) (iF (wG (wG (wG (wG (wB a) (wl a) b) (wl a+wl b) c) (wl a+wl b+wl c) d) (wl a+wl b+wl c+wl d) e)))) (decide (ofNat a=0) && (decide (ofNat b=0) && (decide (ofNat c=0) && (decide (ofNat d=0) && (decide (ofNat e=0) && true)) && true))))) (iF (wG (wG (wG (wB a) (wl a) b) (wl a+wl b) c) (wl a+wl b+wl c) d))):=by kernel_rfl
theorem cloneI_con (L:Nat) (g:Nat->Int) (hL:L<=1073741824):Con Tryz.prog 88 [.sv 1 L (Cl.iF g)] [] (.sv 1 L (Cl.iF g)) []:=by
 cases L with
 | succ m=>exact con_of_run [] [] ((cloneSI_vc m g _).mpr ⟨trivial,⟨⟨rfl,by omega⟩,trivial,trivial,by omega,by omega⟩,_,_,rfl,ret_k (by kernel_rfl)⟩)
 | zero=>
   have k:=cloneB_con 0 (fun _=>0) (by decide)
   exact (k.pre (pargs':=[.sv 1 0 (Cl.iF g)]) ⟨.sv fun i j hi=>absurd hi (Nat.not_lt_zero i),trivial⟩).post (.sv fun i j hi=>absurd hi (Nat.not_lt_zero i)) trivial
theorem cloneLI_con (L:Nat) (g:Nat->Int) (hL:L<=1073741824):Con Tryz.prog 88 [.lr 0 1 0 L false] [some (.rows 5 1 L (Cl.iF g))] (.sv 1 L (Cl.iF g)) [.gone]:=
 ((cloneI_con L g hL).slot rfl (by kernel_rfl) (by kernel_rfl)).thaw (us0:=[.gone]) 0 (e:=5) (sz:=1) (n:=L) (f:=Cl.iF g) rfl ⟨rfl,trivial⟩ ⟨.inr ⟨by kernel_rfl,⟨rfl,by omega⟩,rfl⟩,trivial⟩ rfl
theorem wby_con (k:Nat) (g:Nat->Int) (hk:k<=1073741824):Con Tryz.prog 57 [.p 0 0] [some (wO k),some (shO 2 k),some (.rows 5 1 k (Cl.iF g))] (.sv 1 k (Cl.iF g)) [.keep,.keep,.gone]:=by
 refine con_of_run [] [] ((wby_vc k g _).mpr ?_)
 have c:=cloneLI_con k g hk
 repeat' first | exact trivial | assumption | exact Nat.zero_le _ | exact Nat.le_refl _ | exact .inl rfl | (simp;done) | apply And.intro | exact ⟨_,_,rfl,ret_is (by kernel_rfl) rfl (by kernel_rfl) (by kernel_rfl) rfl (by refine ⟨?_,?_,?_,?_,trivial⟩<;>kernel_rfl)⟩
theorem wl_le {n:Nat} (hn:n<9223372036854775808):wl n<=11:=by
 have:=(mR_ok hn).1
 unfold wl;omega
theorem wB_nn {n:Nat} (i:Nat):∃m:Nat,wB n i=ofNat m:=by
 unfold wB
 cases Nat.blt i (mR n) with
 | true=>exact ⟨_,chN_eq _⟩
 | false=>exact ⟨_,rfl⟩
theorem wG_nn {g:Nat->Int} {k n:Nat} (h:∀i,∃m:Nat,g i=ofNat m) (i:Nat):∃m:Nat,wG g k n i=ofNat m:=by
 unfold wG
 cases Nat.blt i k with
 | true=>exact h i
 | false=>exact wB_nn _
theorem iF_u8 {L:Nat} {g:Nat->Int} (h:∀i,∃m:Nat,g i=ofNat m):U8s L (Cl.iF g):=fun i hi=>by
 obtain ⟨m,e⟩:=h i
 exact ⟨m,by show CV.i .u8 (g i)= _;rw [e]⟩
theorem bytesF_len (L:Nat) (f:Nat->Nat->CV):(bytesF L f).length=L:=by
 unfold bytesF
 simp
def btx (n:Nat) (d:List Nat):List Nat:=bif decide (ofNat n=(0:Int)) && (natsEq d [] && true) then [] else bytesF (wl n) (Cl.iF (wB n)) ++ d
theorem blockText_con (n:Nat) (d:List Nat) (hn:n<9223372036854775808) (hd:d.length<=1000000):Con Tryz.prog 123 [.agg [.i .i64 (ofNat n),.s d]] [] (.s (btx n d)) []:=by
 have hw:=wl_le hn
 cases h:(decide (ofNat n=(0:Int)) && (natsEq d [] && true)) with
 | true=>
   have e:btx n d=[]:=by unfold btx;rw [h];rfl
   rw [e]
   exact con_plain rfl ((blockText_vc n d _).mpr ⟨trivial,fun _=>⟨_,_,rfl,rfl⟩,fun h'=>(by rw [h] at h';cases h')⟩)
 | false=>
   have e:btx n d=bytesF (wl n) (Cl.iF (wB n)) ++ d:=by unfold btx;rw [h];rfl
   rw [e]
   exact con_plain rfl ((blockText_vc n d _).mpr ⟨trivial,fun h'=>(by rw [h] at h';cases h'),fun _=>⟨trivial,wnum0_con n hn,wby_con _ _ (by omega),iF_u8 fun i=>wB_nn i,trivial,by rw [bytesF_len];omega,_,_,rfl,rfl⟩⟩)
structure RdS where
 L:Nat
 b:Nat->Nat
 e:Int
def RdS.next (r:RdS):RdS:=match decide (r.e=0) with
 | true=>⟨r.L-nmz r.b r.L,shB (nmz r.b r.L) r.b,ofNat (nme r.b r.L)⟩
 | false=>r
def RdS.val (r:RdS):Nat:=match decide (r.e=0) with
 | true=>nmv r.b r.L
 | false=>0
def rS (t:List Nat):Nat->RdS
 | 0=>⟨t.length,tB t,0⟩
 | j+1=>(rS t j).next
def rv (t:List Nat) (j:Nat):Nat:=(rS t j).val
def rL (t:List Nat) (j:Nat):Nat:=(rS t j).L
def rb (t:List Nat) (j:Nat):Nat->Nat:=(rS t j).b
def re (t:List Nat) (j:Nat):Int:=(rS t j).e
theorem RdS.next_lt {r:RdS} (h:∀k,r.b k<256):∀k,r.next.b k<256:=fun k=>by
 unfold RdS.next
 cases decide (r.e=0) with
 | true=>exact h _
 | false=>exact h k
theorem rS_lt {t:List Nat} (ht:∀x∈t,x<256):∀j k,(rS t j).b k<256
 | 0,k=>tB_lt ht k
 | j+1,k=>RdS.next_lt (rS_lt ht j) k
theorem rdN_con (r:RdS) (h:∀k,r.b k<256):Con Tryz.prog 51 [.p 0 0] [some (rdO r.L r.b r.e)] (.i .i64 (ofNat r.val)) [.set (rdO r.next.L r.next.b r.next.e)]:=by
 obtain ⟨L,b,e⟩:=r
 cases hd:decide (e=0) with
 | true=>
   obtain rfl:e=0:=of_decide_eq_true hd
   exact rdNum_con L b h
 | false=>
   have he:e≠0:=of_decide_eq_false hd
   have e1:RdS.val ⟨L,b,e⟩=0:=by show (match decide (e=0) with | true=>nmv b L | false=>0)=0;rw [hd]
   have e2:RdS.next ⟨L,b,e⟩=⟨L,b,e⟩:=by
    show (match decide (e=0) with | true=>_ | false=>(⟨L,b,e⟩:RdS))= _
    rw [hd]
   rw [e1,e2]
   exact (rdNumE_con L b e he).oeq (OEqL.refl _) (OEqL.refl _)
theorem metaOf_vc (t:List Nat) (K:Res->Orc->Prop):runK Tryz.prog 1000000 (.call 101 [.s t] (mkH [])) (.s (.cal [1] (.p 1 0) [.gone,.set (rdO (List.length t) (tB t) 0)] (.inl (.inl (.cal [2] (inv (rv t 0)) [.set (rdO (rL t 1) (rb t 1) (re t 1))] (.inl (.cal [2] (inv (rv t 1)) [.set (rdO (rL t 2) (rb t 2) (re t 2))] (.inl (oc 2 (.inl (.cal [2] (inv (rv t 2)) [.set (rdO (rL t 3) (rb t 3) (re t 3))] (.inl (oc 2 (.inl (.cal [2] (inv (rv t 3)) [.set (rdO (rL t 4) (rb t 4) (re t 4))] (.inl (oc 2 (.inl (.cal [2] (inv (rv t 4)) [.set (rdO (rL t 5) (rb t 5) (re t 5))] (.inl (.c (.inl (.c (.s (.t (.inl (.c (.t (.f (.s (.t (.f (.s .z .z))) (.f (.t (.c .z))))))))) (.f (.f (.t (oc 4 .z))))))))))))))))))))))))))) .z) K=((fun (q2:AV)=>((fun (q1:Bool)=>((fun (q0:Int)=>(True/\Con Tryz.prog 76 [.lr 0 1 0 (List.length t) false] [some (.rows 5 1 (List.length t) fun i x=>CV.i .u8 (ofNat (List.getD t i 0)))] (.p 1 0) [.gone,.set (rdO (List.length t) (tB t) 0)]/\True/\Con Tryz.prog 51 [.p 0 0] [some (rdO (List.length t) (tB t) 0)] (inv (rv t 0)) [.set (rdO (rL t 1) (rb t 1) (re t 1))]/\True/\Con Tryz.prog 51 [.p 0 0] [some (rdO (rL t 1) (rb t 1) (re t 1))] (inv (rv t 1)) [.set (rdO (rL t 2) (rb t 2) (re t 2))]/\True/\Con Tryz.prog 51 [.p 0 0] [some (rdO (rL t 2) (rb t 2) (re t 2))] (inv (rv t 2)) [.set (rdO (rL t 3) (rb t 3) (re t 3))]/\rg (1)/\True/\Con Tryz.prog 51 [.p 0 0] [some (rdO (rL t 3) (rb t 3) (re t 3))] (inv (rv t 3)) [.set (rdO (rL t 4) (rb t 4)
 (re t 4))]/\rg (2)/\True/\Con Tryz.prog 51 [.p 0 0] [some (rdO (rL t 4) (rb t 4) (re t 4))] (inv (rv t 4)) [.set (rdO (rL t 5) (rb t 5) (re t 5))]/\rg (3)/\True/\True/\(q1=true->q1=true/\True/\True/\q1=true/\(!decide (re t 5=0))=false/\((!decide (0<ofNat (rL t 5)))=true->(!decide (0<ofNat (rL t 5)))=true/\decide (0<ofNat (rL t 5))=false/\(decide (1099511627776<if ofNat (rv t 4)>if ofNat (rv t 3)>if ofNat (rv t 2)>if ofNat (rv t 1)>if ofNat (rv t 0)>0 then ofNat (rv t 0) else 0 then ofNat (rv t 1) else if ofNat (rv t 0)>0 then ofNat (rv t 0) else 0 then ofNat (rv t 2) else if ofNat (rv t 1)>if ofNat (rv t 0)>0 then ofNat (rv t 0) else 0 then ofNat (rv t 1) else if ofNat (rv t 0)>0 then ofNat (rv t 0) else 0 then ofNat (rv t 3) else if ofNat (rv t 2)>if ofNat (rv t 1)>if ofNat (rv t 0)>0 then ofNat (rv t 0) else 0 then ofNat (rv t 1) else if ofNat (rv t 0)>0 then ofNat (rv t 0) else 0 then ofNat (rv t 2) else if ofNat (rv t 1)>if ofNat (rv t 0)>0 then ofNat (rv t 0) else 0 then ofNat (rv t 1) else if ofNat (rv t 0)>0 then ofNat (rv t 0) else 0 then ofNat (rv t 4) else if ofNat (rv t 3)>if ofNat (rv t 2)>if ofNat (rv t 1)>if ofNat (rv t 0)>0 then ofNat (rv t 0) else 0 then ofNat (rv t 1) else if ofNat (rv t 0)>0 then ofNat (rv t
 0) else 0 then ofNat (rv t 2) else if ofNat (rv t 1)>if ofNat (rv t 0)>0 then ofNat (rv t 0) else 0 then ofNat (rv t 1) else if ofNat (rv t 0)>0 then ofNat (rv t 0) else 0 then ofNat (rv t 3) else if ofNat (rv t 2)>if ofNat (rv t 1)>if ofNat (rv t 0)>0 then ofNat (rv t 0) else 0 then ofNat (rv t 1) else if ofNat (rv t 0)>0 then ofNat (rv t 0) else 0 then ofNat (rv t 2) else if ofNat (rv t 1)>if ofNat (rv t 0)>0 then ofNat (rv t 0) else 0 then ofNat (rv t 1) else if ofNat (rv t 0)>0 then ofNat (rv t 0) else 0)=true->K (.rv (.agg [.i .i64 0,.i .i64 0,.i .i64 0,.i .i64 0,.i .i64 0]) ⟨zz1 (AObj.cells 127 5 [.i .i64 0,.i .i64 0,.i .i64 0,.i .i64 0,.i .i64 0] (zz1 (.i .i64 0) (zz1 (.i .i64 0) (zzl (.i .i64 0)) .e) (zz1 (.i .i64 0) (zzl (.i .i64 0)) .e))) (zz0 (zzl (AObj.cells 93 1 [.p0] (zzl (.p 2 0)))) (zzl (AObj.cells 3 1 [.i .i64 0] (zzl (.i .i64 q0))))) (zz1 (AObj.cells 142 2 [] (zz1 q2 (zzl (.i .i64 (re t 5))) .e)) (zzl (AObj.cells 127 5 [.i .i64 0,.i .i64 0,.i .i64 0,.i .i64 0,.i .i64 0] (zz1 (inv (rv t 0)) (zz1 (inv (rv t 1)) (zzn (rv t 3)) .e) (zz1 (inv (rv t 2)) (zzn (rv t 4)) .e)))) .e),6,[0,5,4,2,5,4,2,5,4,2,5,4,2,5,4,2,5,4,5,4,3,3,2,1,1,0]⟩) .z)/\(decide (1099511627776<if ofNat (rv t 4)>if ofNat (rv t 3)>if ofNat (rv t 2)>if ofNat (rv t 1)>if ofNat (rv t 0)>0 then ofNat (rv t 0) else 0
 then ofNat (rv t 1) else if ofNat (rv t 0)>0 then ofNat (rv t 0) else 0 then ofNat (rv t 2) else if ofNat (rv t 1)>if ofNat (rv t 0)>0 then ofNat (rv t 0) else 0 then ofNat (rv t 1) else if ofNat (rv t 0)>0 then ofNat (rv t 0) else 0 then ofNat (rv t 3) else if ofNat (rv t 2)>if ofNat (rv t 1)>if ofNat (rv t 0)>0 then ofNat (rv t 0) else 0 then ofNat (rv t 1) else if ofNat (rv t 0)>0 then ofNat (rv t 0) else 0 then ofNat (rv t 2) else if ofNat (rv t 1)>if ofNat (rv t 0)>0 then ofNat (rv t 0) else 0 then ofNat (rv t 1) else if ofNat (rv t 0)>0 then ofNat (rv t 0) else 0 then ofNat (rv t 4) else if ofNat (rv t 3)>if ofNat (rv t 2)>if ofNat (rv t 1)>if ofNat (rv t 0)>0 then ofNat (rv t 0) else 0 then ofNat (rv t 1) else if ofNat (rv t 0)>0 then ofNat (rv t 0) else 0 then ofNat (rv t 2) else if ofNat (rv t 1)>if ofNat (rv t 0)>0 then ofNat (rv t 0) else 0 then ofNat (rv t 1) else if ofNat (rv t 0)>0 then ofNat (rv t 0) else 0 then ofNat (rv t 3) else if ofNat (rv t 2)>if ofNat (rv t 1)>if ofNat (rv t 0)>0 then ofNat (rv t 0) else 0 then ofNat (rv t 1) else if ofNat (rv t 0)>0 then ofNat (rv t 0) else 0 then ofNat (rv t 2) else if ofNat (rv t 1)>if ofNat (rv t 0)>0 then ofNat (rv t 0) else 0 then ofNat (rv t 1) else if
 ofNat (rv t 0)>0 then ofNat (rv t 0) else 0)=false->K (.rv (.agg [inv (rv t 0),inv (rv t 1),inv (rv t 2),inv (rv t 3),inv (rv t 4)]) ⟨zz1 (AObj.cells 127 5 [.i .i64 0,.i .i64 0,.i .i64 0,.i .i64 0,.i .i64 0] (zz1 (inv (rv t 0)) (zz1 (inv (rv t 1)) (zzn (rv t 3)) .e) (zz1 (inv (rv t 2)) (zzn (rv t 4)) .e))) (zz0 (zzl (AObj.cells 93 1 [.p0] (zzl (.p 2 0)))) (zzl (AObj.cells 3 1 [.i .i64 0] (zzl (.i .i64 q0))))) (zz1 (AObj.cells 142 2 [] (zz1 q2 (zzl (.i .i64 (re t 5))) .e)) (zzl (AObj.cells 127 5 [.i .i64 0,.i .i64 0,.i .i64 0,.i .i64 0,.i .i64 0] (zz1 (inv (rv t 0)) (zz1 (inv (rv t 1)) (zzn (rv t 3)) .e) (zz1 (inv (rv t 2)) (zzn (rv t 4)) .e)))) .e),6,[0,5,4,2,5,4,2,5,4,2,5,4,2,5,4,2,5,4,5,4,3,3,2,1,1,0]⟩) .z))/\((!decide (0<ofNat (rL t 5)))=false->(!decide (0<ofNat (rL t 5)))=false/\decide (0<ofNat (rL t 5))=true/\K (.rv (.agg [.i .i64 0,.i .i64 0,.i .i64 0,.i .i64 0,.i .i64 0]) ⟨zz1 (AObj.cells 127 5 [.i .i64 0,.i .i64 0,.i .i64 0,.i .i64 0,.i .i64 0] (zz1 (.i .i64 0) (zz1 (.i .i64 0) (zzl (.i .i64 0)) .e) (zz1 (.i .i64 0) (zzl (.i .i64 0)) .e))) (zz0 (zzl (AObj.cells 93 1 [.p0] (zzl (.p 2 0)))) (zzl (AObj.cells 3 1 [.i .i64 0] (zzl (.i .i64 q0))))) (zz1 (AObj.cells 142 2 [] (zz1 q2 (zzl (.i .i64 (re t 5))) .e)) (zzl (AObj.cells 127 5 [.i .i64 0,.i .i64 0,.i .i64 0,.i .i64 0,.i .i64 0] (zz1 (inv (rv t 0)) (zz1 (inv (rv t 1)) (zzn (rv t 3)) .e) (zz1 (inv (rv t 2)) (zzn (rv t 4)) .e))))
 .e),6,[0,5,4,2,5,4,2,5,4,2,5,4,2,5,4,2,5,4,5,4,3,3,2,1,1,0]⟩) .z))/\(q1=false->q1=false/\q1=false/\(!decide (re t 5=0))=true/\K (.rv (.agg [.i .i64 0,.i .i64 0,.i .i64 0,.i .i64 0,.i .i64 0]) ⟨zz1 (AObj.cells 127 5 [.i .i64 0,.i .i64 0,.i .i64 0,.i .i64 0,.i .i64 0] (zz1 (.i .i64 0) (zz1 (.i .i64 0) (zzl (.i .i64 0)) .e) (zz1 (.i .i64 0) (zzl (.i .i64 0)) .e))) (zz0 (zzl (AObj.cells 93 1 [.p0] (zzl (.p 2 0)))) (zzl (AObj.cells 3 1 [.i .i64 0] (zzl (.i .i64 q0))))) (zz1 (AObj.cells 142 2 [] (zz1 q2 (zzl (.i .i64 (re t 5))) .e)) (zzl (AObj.cells 127 5 [.i .i64 0,.i .i64 0,.i .i64 0,.i .i64 0,.i .i64 0] (zz1 (inv (rv t 0)) (zz1 (inv (rv t 1)) (zzn (rv t 3)) .e) (zz1 (inv (rv t 2)) (zzn (rv t 4)) .e)))) .e),6,[0,5,4,2,5,4,2,5,4,2,5,4,2,5,4,2,5,4,5,4,3,3,2,1,1,0]⟩) .z))) (if ofNat (rv t 4)>if ofNat (rv t 3)>if ofNat (rv t 2)>if ofNat (rv t 1)>if ofNat (rv t 0)>0 then ofNat (rv t 0) else 0 then ofNat (rv t 1) else if ofNat (rv t 0)>0 then ofNat (rv t 0) else 0 then ofNat (rv t 2) else if ofNat (rv t 1)>if ofNat (rv t 0)>0 then ofNat (rv t 0) else 0 then ofNat (rv t 1) else if ofNat (rv t 0)>0 then ofNat (rv t 0) else 0 then ofNat (rv t 3) else if ofNat (rv t 2)>if ofNat (rv t 1)>if ofNat (rv t 0)>0 then ofNat (rv t 0) else 0 then ofNat (rv t 1) else if ofNat (rv t 0)>0 then ofNat
 (rv t 0) else 0 then ofNat (rv t 2) else if ofNat (rv t 1)>if ofNat (rv t 0)>0 then ofNat (rv t 0) else 0 then ofNat (rv t 1) else if ofNat (rv t 0)>0 then ofNat (rv t 0) else 0 then ofNat (rv t 4) else if ofNat (rv t 3)>if ofNat (rv t 2)>if ofNat (rv t 1)>if ofNat (rv t 0)>0 then ofNat (rv t 0) else 0 then ofNat (rv t 1) else if ofNat (rv t 0)>0 then ofNat (rv t 0) else 0 then ofNat (rv t 2) else if ofNat (rv t 1)>if ofNat (rv t 0)>0 then ofNat (rv t 0) else 0 then ofNat (rv t 1) else if ofNat (rv t 0)>0 then ofNat (rv t 0) else 0 then ofNat (rv t 3) else if ofNat (rv t 2)>if ofNat (rv t 1)>if ofNat (rv t 0)>0 then ofNat (rv t 0) else 0 then ofNat (rv t 1) else if ofNat (rv t 0)>0 then ofNat (rv t 0) else 0 then ofNat (rv t 2) else if ofNat (rv t 1)>if ofNat (rv t 0)>0 then ofNat (rv t 0) else 0 then ofNat (rv t 1) else if ofNat (rv t 0)>0 then ofNat (rv t 0) else 0))) (!!decide (re t 5=0)))) (.sv 1 (rL t 5) (byF (rb t 5)))):=by kernel_rfl
def mx (a b:Int):Int:=if a>b then a else b
def grt (t:List Nat):Int:=mx (ofNat (rv t 4)) (mx (ofNat (rv t 3)) (mx (ofNat (rv t 2)) (mx (ofNat (rv t 1)) (mx (ofNat (rv t 0)) 0))))
def okMt (t:List Nat):Bool:=decide (re t 5=0) && (!decide ((0:Int)<ofNat (rL t 5)) && !decide ((1099511627776:Int)<grt t))
def mtV (t:List Nat) (j:Nat):Nat:=bif okMt t then rv t j else 0
theorem metaOf_con (t:List Nat) (ht:∀x∈t,x<256) (hL:t.length<=1073741824) :
 Con Tryz.prog 101 [.s t] [] (.agg [.i .i64 (ofNat (mtV t 0)),.i .i64 (ofNat (mtV t 1)),.i .i64 (ofNat (mtV t 2)),.i .i64 (ofNat (mtV t 3)),.i .i64 (ofNat (mtV t 4))]) []:=by
 have c0:Con Tryz.prog 76 [.lr 0 1 0 t.length false] [some (.rows 5 1 t.length fun i _=>.i .u8 (ofNat (t.getD i 0)))] (.p 1 0) [.gone,.set (rdO t.length (tB t) 0)]:=newRL_con t.length (tB t) hL
 have c:∀j,Con Tryz.prog 51 [.p 0 0] [some (rdO (rL t j) (rb t j) (re t j))] (.i .i64 (ofNat (rv t j))) [.set (rdO (rL t (j+1)) (rb t (j+1)) (re t (j+1)))]:=fun j=>rdN_con (rS t j) (rS_lt ht j)
 have c1:Con Tryz.prog 51 [.p 0 0] [some (rdO t.length (tB t) 0)] (.i .i64 (ofNat (rv t 0))) [.set (rdO (rL t 1) (rb t 1) (re t 1))]:=c 0
 have c2:=c 1;have c3:=c 2;have c4:=c 3;have c5:=c 4
 have one:(-9223372036854775808:Int)<=1/\(1:Int)<=9223372036854775807:=by decide
 have two:(-9223372036854775808:Int)<=2/\(2:Int)<=9223372036854775807:=by decide
 have three:(-9223372036854775808:Int)<=3/\(3:Int)<=9223372036854775807:=by decide
 have no:okMt t=false->Con Tryz.prog 101 [.s t] [] (.agg [.i .i64 0,.i .i64 0,.i .i64 0,.i .i64 0,.i .i64 0]) []->
  Con Tryz.prog 101 [.s t] [] (.agg [.i .i64 (ofNat (mtV t 0)),.i .i64 (ofNat (mtV t 1)),.i .i64 (ofNat (mtV t 2)),.i .i64 (ofNat (mtV t 3)),.i .i64 (ofNat (mtV t 4))]) []:=fun h k=>by
  have e:∀j,mtV t j=0:=fun j=>by unfold mtV;rw [h];rfl
  rw [e,e,e,e,e];exact k
 cases hE:decide (re t 5=0) with
 | false=>
   have dE:(!!decide (re t 5=0))=false:=by rw [hE];rfl
   have dE2:(!decide (re t 5=0))=true:=by rw [hE];rfl
   refine no (by unfold okMt;rw [hE];rfl) (con_plain rfl ((metaOf_vc t _).mpr ?_))
   repeat' first | exact trivial | assumption | apply And.intro | exact fun h=>absurd (dE.symm.trans h) (by decide) | exact fun _=>⟨dE,dE,dE2,_,_,rfl,rfl⟩ | (refine fun _=>?_)
   all_goals exact ⟨_,_,rfl,rfl⟩
 | true=>
   have dE:(!!decide (re t 5=0))=true:=by rw [hE];rfl
   have dE2:(!decide (re t 5=0))=false:=by rw [hE];rfl
   cases hl:decide ((0:Int)<ofNat (rL t 5)) with
   | true=>
     have dl:(!decide ((0:Int)<ofNat (rL t 5)))=false:=by rw [hl];rfl
     refine no (by unfold okMt;rw [hE,hl];rfl) (con_plain rfl ((metaOf_vc t _).mpr ?_))
     repeat' first | exact trivial | assumption | apply And.intro | exact fun h=>absurd (dE.symm.trans h) (by decide) | exact fun h=>absurd (dl.symm.trans h) (by decide) | exact ⟨_,_,rfl,rfl⟩ | (refine fun _=>?_)
   | false=>
     have dl:(!decide ((0:Int)<ofNat (rL t 5)))=true:=by rw [hl];rfl
     cases hg:decide ((1099511627776:Int)<grt t) with
     | true=>
       refine no (by unfold okMt;rw [hE,hl,hg];rfl) (con_plain rfl ((metaOf_vc t _).mpr ?_))
       repeat' first | exact trivial | assumption | apply And.intro | exact fun h=>absurd (dE.symm.trans h) (by decide) | exact fun h=>absurd (dl.symm.trans h) (by decide) | exact fun h=>absurd ((show decide ((1099511627776:Int)<grt t)=true from hg).symm.trans h) (by decide) | exact ⟨_,_,rfl,rfl⟩ | (refine fun _=>?_)
     | false=>
       have ok:okMt t=true:=by unfold okMt;rw [hE,hl,hg];rfl
       have e:∀j,mtV t j=rv t j:=fun j=>by unfold mtV;rw [ok];rfl
       rw [e,e,e,e,e]
       refine con_plain rfl ((metaOf_vc t _).mpr ?_)
       repeat' first | exact trivial | assumption | apply And.intro | exact fun h=>absurd (dE.symm.trans h) (by decide) | exact fun h=>absurd (dl.symm.trans h) (by decide) | exact fun h=>absurd ((show decide ((1099511627776:Int)<grt t)=false from hg).symm.trans h) (by decide) | exact ⟨_,_,rfl,rfl⟩ | (refine fun _=>?_)
def mtx (a b c d e:Nat):List Nat:=
 bif decide (ofNat a=(0:Int)) && (decide (ofNat b=(0:Int)) && (decide (ofNat c=(0:Int)) && (decide (ofNat d=(0:Int)) && (decide (ofNat e=(0:Int)) && true)) && true)) then []
 else bytesF (wl a+wl b+wl c+wl d+wl e) (Cl.iF (wG (wG (wG (wG (wB a) (wl a) b) (wl a+wl b) c) (wl a+wl b+wl c) d) (wl a+wl b+wl c+wl d) e))
theorem metaText_con (a b c d e:Nat) (ha:a<9223372036854775808) (hb:b<9223372036854775808) (hc:c<9223372036854775808) (hd:d<9223372036854775808) (he:e<9223372036854775808) :
 Con Tryz.prog 104 [.agg [.i .i64 (ofNat a),.i .i64 (ofNat b),.i .i64 (ofNat c),.i .i64 (ofNat d),.i .i64 (ofNat e)]] [] (.s (mtx a b c d e)) []:=by
 have wa:=wl_le ha;have wb:=wl_le hb;have wc:=wl_le hc;have wd:=wl_le hd;have we:=wl_le he
 cases h:(decide (ofNat a=(0:Int)) && (decide (ofNat b=(0:Int)) && (decide (ofNat c=(0:Int)) && (decide (ofNat d=(0:Int)) && (decide (ofNat e=(0:Int)) && true)) && true))) with
 | true=>
   have ex:mtx a b c d e=[]:=by unfold mtx;rw [h];rfl
   rw [ex]
   exact con_plain rfl ((metaText_vc a b c d e _).mpr ⟨trivial,fun _=>⟨_,_,rfl,rfl⟩,fun h'=>(by rw [h] at h';cases h')⟩)
 | false=>
   have ex:mtx a b c d e=bytesF (wl a+wl b+wl c+wl d+wl e) (Cl.iF (wG (wG (wG (wG (wB a) (wl a) b) (wl a+wl b) c) (wl a+wl b+wl c) d) (wl a+wl b+wl c+wl d) e)):=by unfold mtx;rw [h];rfl
   rw [ex]
   have c1:=wnum0_con a ha
   have c2:=wnumR_con b (wl a) (wB a) hb (by omega)
   have c3:=wnumR_con c (wl a+wl b) (wG (wB a) (wl a) b) hc (by omega)
   have c4:=wnumR_con d (wl a+wl b+wl c) (wG (wG (wB a) (wl a) b) (wl a+wl b) c) hd (by omega)
   have c5:=wnumR_con e (wl a+wl b+wl c+wl d) (wG (wG (wG (wB a) (wl a) b) (wl a+wl b) c) (wl a+wl b+wl c) d) he (by omega)
   have c6:=wby_con (wl a+wl b+wl c+wl d+wl e) (wG (wG (wG (wG (wB a) (wl a) b) (wl a+wl b) c) (wl a+wl b+wl c) d) (wl a+wl b+wl c+wl d) e) (by omega)
   have u:U8s (wl a+wl b+wl c+wl d+wl e) (Cl.iF (wG (wG (wG (wG (wB a) (wl a) b) (wl a+wl b) c) (wl a+wl b+wl c) d) (wl a+wl b+wl c+wl d) e)):=iF_u8 (wG_nn (wG_nn (wG_nn (wG_nn fun i=>wB_nn i))))
   have one:(-9223372036854775808:Int)<=1/\(1:Int)<=9223372036854775807:=by decide
   have two:(-9223372036854775808:Int)<=2/\(2:Int)<=9223372036854775807:=by decide
   have three:(-9223372036854775808:Int)<=3/\(3:Int)<=9223372036854775807:=by decide
   refine con_plain rfl ((metaText_vc a b c d e _).mpr ⟨trivial,fun h'=>(by rw [h] at h';cases h'),fun _=>?_⟩)
   repeat' first | exact trivial | assumption | apply And.intro | exact ⟨_,_,rfl,rfl⟩
theorem mR8 {n:Nat} (hn:n<9223372036854775808):mR n<=8:=by
 obtain ⟨_,mge,_⟩:=mR_ok hn
 rcases Nat.lt_or_ge 8 (mR n) with q | q
 · have h:=mge 8 q
   have:128*128 ^ 8<=n:=(Nat.le_div_iff_mul_le (by decide)).1 h
   have e:128*128 ^ 8=9223372036854775808:=by decide
   omega
 · exact q
def Form (n:Nat) (b:Nat->Nat):Prop:=∀i,i<wl n->ofNat (b i)=wB n i
theorem Form.lo {n:Nat} {b:Nat->Nat} (h:Form n b) {i:Nat} (hi:i<mR n):b i=n / 128 ^ i % 128+128:=by
 have e:=h i (by unfold wl;omega)
 unfold wB at e
 rw [show Nat.blt i (mR n)=true by rw [Nat.blt_eq];exact hi,cond_true,chN_eq] at e
 exact Int.ofNat.inj e
theorem Form.hi {n:Nat} {b:Nat->Nat} (h:Form n b):b (mR n)=lst n:=by
 have e:=h (mR n) (by unfold wl;omega)
 unfold wB at e
 rw [show Nat.blt (mR n) (mR n)=false by rw [Bool.eq_false_iff,ne_eq,Nat.blt_eq];omega,cond_false] at e
 exact Int.ofNat.inj e
theorem pow128 (i:Nat):2 ^ (7*i)=128 ^ i:=by rw [Nat.pow_mul]
theorem Form.nV {n:Nat} {b:Nat->Nat} (h:Form n b):∀i,i<=mR n->nV b i=n % 128 ^ i
 | 0,_=>by show 0=n % 1;omega
 | i+1,hi=>by
   have ih:=h.nV i (by omega)
   show Cl.nV b i+b i % 128*2 ^ (7*i)= _
   rw [ih,h.lo (by omega),pow128,Nat.pow_succ,Nat.mod_mul]
   have:(n / 128 ^ i % 128+128) % 128=n / 128 ^ i % 128:=by omega
   rw [this,Nat.mul_comm]
theorem Form.nm {n:Nat} {b:Nat->Nat} {L:Nat} (h:Form n b) (hn:n<9223372036854775808) (hL:wl n<=L):∀k i,i+k=9->i<=mR n->nm b L k i=some (n,wl n,0):=by
 obtain ⟨_,mge,mlt⟩:=mR_ok hn
 have m8:=mR8 hn
 intro k
 induction k with
 | zero=>intro i h1 h2;omega
 | succ k ih=>
   intro i h1 h2
   show (match Nat.beq i L with
    | true=>some (0,0,10)
    | false=>match Nat.ble 128 (b i) with
      | true=>Cl.nm b L k (i+1)
      | false=>match Nat.beq (b i) 0 && Nat.blt 0 i with
        | true=>some (0,0,11)
        | false=>some (Cl.nV b (i+1),i+1,0))=some (n,wl n,0)
   rw [show Nat.beq i L=false by rw [Bool.eq_false_iff,ne_eq,Nat.beq_eq];unfold wl at hL;omega]
   rcases Nat.lt_or_ge i (mR n) with q | q
   · rw [Nat.ble_eq_true_of_le (show 128<=b i by rw [h.lo q];omega)]
     exact ih (i+1) (by omega) (by omega)
   · have e:i=mR n:=by omega
     subst e
     have hb:=h.hi
     have hl:lst n<128:=mlt
     rw [show Nat.ble 128 (b (mR n))=false by rw [Bool.eq_false_iff,ne_eq,Nat.ble_eq,hb];omega]
     have hz:(Nat.beq (b (mR n)) 0 && Nat.blt 0 (mR n))=false:=by
      cases hp:Nat.blt 0 (mR n) with
      | false=>simp
      | true=>
        have hp:0<mR n:=by rwa [Nat.blt_eq] at hp
        have h3:=mge (mR n-1) (by omega)
        have h4:n / 128 ^ (mR n-1) / 128=n / 128 ^ mR n:=by
         rw [div_s,show mR n-1+1=mR n by omega]
        have h5:lst n≠0:=by
         show n / 128 ^ mR n≠0
         rw [<-h4];omega
        rw [hb,show Nat.beq (lst n) 0=false by rw [Bool.eq_false_iff,ne_eq,Nat.beq_eq];exact h5];rfl
     rw [hz]
     have hv:Cl.nV b (mR n+1)=n:=by
      show Cl.nV b (mR n)+b (mR n) % 128*2 ^ (7*mR n)=n
      rw [h.nV _ (Nat.le_refl _),hb,pow128,Nat.mod_eq_of_lt hl]
      show n % 128 ^ mR n+n / 128 ^ mR n*128 ^ mR n=n
      rw [Nat.mul_comm];exact Nat.mod_add_div n (128 ^ mR n)
     rw [hv];rfl
theorem Form.reads {n:Nat} {b:Nat->Nat} {L:Nat} (h:Form n b) (hn:n<9223372036854775808) (hL:wl n<=L):nmv b L=n/\nmz b L=wl n/\nme b L=0:=by
 have k:=h.nm hn hL 9 0 rfl (Nat.zero_le _)
 refine ⟨?_,?_,?_⟩
 · unfold nmv;rw [k];rfl
 · unfold nmz;rw [k];rfl
 · unfold nme;rw [k];rfl
theorem wB_lt {n:Nat} (hn:n<9223372036854775808) (i:Nat):∃m:Nat,m<256/\wB n i=ofNat m:=by
 unfold wB
 cases Nat.blt i (mR n) with
 | true=>exact ⟨_,by omega,chN_eq _⟩
 | false=>exact ⟨lst n,by have:=(mR_ok hn).2.2;unfold lst;omega,rfl⟩
theorem wG_lt {g:Nat->Int} {k n:Nat} (hn:n<9223372036854775808) (h:∀i,∃m:Nat,m<256/\g i=ofNat m) (i:Nat):∃m:Nat,m<256/\wG g k n i=ofNat m:=by
 unfold wG
 cases Nat.blt i k with
 | true=>exact h i
 | false=>exact wB_lt hn _
theorem bytes_at {L:Nat} {g:Nat->Int} (h:∀i,∃m:Nat,m<256/\g i=ofNat m) {i:Nat} (hi:i<L):∃m,(bytesF L (Cl.iF g))[i]? =some m/\ofNat m=g i/\m<256:=by
 obtain ⟨m,hm,e⟩:=h i
 refine ⟨m,?_,e.symm,hm⟩
 unfold bytesF
 rw [List.getElem?_map,List.getElem?_range hi]
 show some (Go.Sim.byteOf (CV.i .u8 (g i)))=some m
 rw [e]
 show some (m % 256)=some m
 rw [Nat.mod_eq_of_lt hm]
theorem tB_left {L:Nat} {g:Nat->Int} (h:∀i,∃m:Nat,m<256/\g i=ofNat m) (d:List Nat) {i:Nat} (hi:i<L):ofNat (tB (bytesF L (Cl.iF g) ++ d) i)=g i:=by
 obtain ⟨m,e1,e2,_⟩:=bytes_at h hi
 unfold tB
 rw [List.getD_eq_getElem?_getD,List.getElem?_append_left (by rw [bytesF_len];exact hi),e1]
 exact e2
theorem bytes_lt {L:Nat} {g:Nat->Int} (h:∀i,∃m:Nat,m<256/\g i=ofNat m):∀x∈bytesF L (Cl.iF g),x<256:=fun x hx=>by
 obtain ⟨i,hi,e⟩:=List.getElem_of_mem hx
 rw [bytesF_len] at hi
 obtain ⟨m,e1,_,hm⟩:=bytes_at h hi
 have:=List.getElem?_eq_some_iff.1 e1
 obtain ⟨_,e3⟩:=this
 rw [<-e,e3];exact hm
theorem btx_some {n:Nat} (h:1<=n) (d:List Nat):btx n d=bytesF (wl n) (Cl.iF (wB n)) ++ d:=by
 unfold btx
 rw [show decide (ofNat n=(0:Int))=false from decide_eq_false (by simp;omega)];rfl
theorem blk_back {n:Nat} {d:List Nat} (h1:1<=n) (h2:n<=1099511627776) (hd:d.length<=44):blkQ (btx n d)=n/\blkD (btx n d)=d:=by
 have hn:n<9223372036854775808:=by omega
 rw [btx_some h1]
 have f:Form n (tB (bytesF (wl n) (Cl.iF (wB n)) ++ d)):=fun i hi=>tB_left (fun i=>wB_lt hn i) d hi
 have hlen:(bytesF (wl n) (Cl.iF (wB n)) ++ d).length=wl n+d.length:=by rw [List.length_append,bytesF_len]
 obtain ⟨e1,e2,e3⟩:=f.reads (L:=(bytesF (wl n) (Cl.iF (wB n)) ++ d).length) hn (by omega)
 have ok:okBlk (bytesF (wl n) (Cl.iF (wB n)) ++ d)=true:=by
  unfold okBlk
  rw [e1,e2,e3,Nat.ble_eq_true_of_le h1,Nat.ble_eq_true_of_le h2,hlen,Nat.ble_eq_true_of_le (show wl n+d.length-wl n<=44 by omega)];rfl
 constructor
 · unfold blkQ;rw [ok];exact e1
 · unfold blkD;rw [ok,cond_true,e2,List.drop_append_of_le_length (by rw [bytesF_len];exact Nat.le_refl _),List.drop_of_length_le (by rw [bytesF_len];exact Nat.le_refl _)];rfl
theorem btx_lt {n:Nat} {d:List Nat} (hn:n<9223372036854775808) (hd:∀x∈d,x<256):∀x∈btx n d,x<256:=by
 unfold btx
 cases (decide (ofNat n=(0:Int)) && (natsEq d [] && true)) with
 | true=>intro x hx;cases hx
 | false=>
   intro x hx
   rcases List.mem_append.1 hx with h | h
   · exact bytes_lt (fun i=>wB_lt hn i) x h
   · exact hd x h
theorem wG_left {g:Nat->Int} {k n i:Nat} (h:i<k):wG g k n i=g i:=by
 unfold wG
 rw [show Nat.blt i k=true by rw [Nat.blt_eq];exact h];rfl
theorem wG_right {g:Nat->Int} {k n:Nat} (i:Nat):wG g k n (k+i)=wB n i:=by
 unfold wG
 rw [show Nat.blt (k+i) k=false by rw [Bool.eq_false_iff,ne_eq,Nat.blt_eq];omega,cond_false,Nat.add_sub_cancel_left]
theorem rhas_vc (n:Nat) (cq:Nat->Nat) (cd:Nat->List Nat) (cs:Nat->Nat) (dd rd:Bool) (ss:SS) (i:Int) (K:Res->Orc->Prop):runK Tryz.prog 1000000 (.call 133 [.p 0 0,.i .i64 i] (mkH [some (rclO n cq cd cs dd rd),some ss.o])) (.s (.t (.t (.inl (.c (.t (.t .z)))))) (of_ 4 .z)) K=((decide (0<=i)=true->decide (0<=i)=true/\decide (0<=i)=true/\True/\True/\True/\decide (0<=i)=true/\decide (0<=i)=true/\K (.rv (.b (decide (i<ofNat n))) ⟨zz1 (AObj.segs 177 772 [⟨1,1,1,oneF (CV.i .i64 (ofNat n))⟩,⟨2,3,256,cellF cq cd cs⟩,⟨770,1,1,oneF (CV.b dd)⟩,⟨771,1,1,oneF (CV.b rd)⟩] [(0,.p 1 0)]) (zzl (SS.o ss)) .e,2,[]⟩) .z)/\(decide (0<=i)=false->decide (0<=i)=false/\decide (0<=i)=false/\decide (0<=i)=false/\decide (0<=i)=false/\K (.rv (.b false) ⟨zz1 (AObj.segs 177 772 [⟨1,1,1,oneF (CV.i .i64 (ofNat n))⟩,⟨2,3,256,cellF cq cd cs⟩,⟨770,1,1,oneF (CV.b dd)⟩,⟨771,1,1,oneF (CV.b rd)⟩] [(0,.p 1 0)]) (zzl (SS.o ss)) .e,2,[]⟩) .z)):=by kernel_rfl
theorem rget_vc (n:Nat) (cq:Nat->Nat) (cd:Nat->List Nat) (cs:Nat->Nat) (dd rd:Bool) (ss:SS) (i:Int) (K:Res->Orc->Prop):runK Tryz.prog 1000000 (.call 102 [.p 0 0,.i .i64 i] (mkH [some (rclO n cq cd cs dd rd),some ss.o])) (.cal [0,1] (.b (decide (0<=i/\i<ofNat n))) [.keep,.keep] (.s .z (.s .z .z))) K=((fun (q0:Bool)=>(Con Tryz.prog 133 [.p 0 0,.i .i64 i] [some (rclO n cq cd cs dd rd),some (SS.o ss)] (.b (decide (0<=i/\i<ofNat n))) [.keep,.keep]/\True/\(q0=true->K (.rv (.agg [.i .i64 0,.s []]) ⟨zz1 (AObj.segs 177 772 [⟨1,1,1,oneF (CV.i .i64 (ofNat n))⟩,⟨2,3,256,cellF cq cd cs⟩,⟨770,1,1,oneF (CV.b dd)⟩,⟨771,1,1,oneF (CV.b rd)⟩] [(0,.p 1 0)]) (zzl (SS.o ss)) (zzl (AObj.cells 90 2 [.i .i64 0,.s []] (zz1 (.i .i64 0) (zzl (.s [])) .e))),3,[2,2]⟩) .z)/\(q0=false->True/\(0<=i/\i<256)/\True/\Int.toNat i<256/\K (.rv (.agg [inv (cq (Int.toNat i)),.s (cd (Int.toNat i))]) ⟨zz1 (AObj.segs 177 772 [⟨1,1,1,oneF (CV.i .i64 (ofNat n))⟩,⟨2,3,256,cellF cq cd cs⟩,⟨770,1,1,oneF (CV.b dd)⟩,⟨771,1,1,oneF (CV.b rd)⟩] [(0,.p 1 0)]) (zzl (SS.o ss)) (zzl (AObj.cells 90 2 [.i .i64 0,.s []] (zz1 (inv (cq (Int.toNat i))) (zzl (.s (cd (Int.toNat i)))) .e))),3,[2,2]⟩) .z))) (!decide (0<=i/\i<ofNat n))):=by kernel_rfl
theorem rput_vc (n:Nat) (cq:Nat->Nat) (cd:Nat->List Nat) (cs:Nat->Nat) (dd rd:Bool) (ss:SS) (i:Int) (d:List Nat) (K:Res->Orc->Prop):runK Tryz.prog 1000000 (.call 134 [.p 0 0,.i .i64 i,.s d] (mkH [some (rclO n cq cd cs dd rd),some ss.o])) (.c (.s .z (.cal [0,1] (.b (decide (0<=i/\i<ofNat n))) [.keep,.keep] (.s (.t (.t (.f (.s .z (.s (.s .z (.inl (.cal [1] (.i .i64 (cmE ss (i*2+ofNat (cs (Int.toNat i))) (ofNat (cq (Int.toNat i))+1) d)) [.set (SS.o (cmS ss (i*2+ofNat (cs (Int.toNat i))) (ofNat (cq (Int.toNat i))+1) d))] (.s .z (.s .z .z))))) .z))))) (.f (.f (.t (.c .z)))))))) K=(True/\True/\True/\(dd=true->K (.rv (.i .i64 13) ⟨zz1 (AObj.segs 177 772 [⟨1,1,1,oneF (CV.i .i64 (ofNat n))⟩,⟨2,3,256,cellF cq cd cs⟩,⟨770,1,1,oneF (CV.b dd)⟩,⟨771,1,1,oneF (CV.b rd)⟩] [(0,.p 1 0)]) (zzl (SS.o ss)) .e,2,[]⟩) .z)/\(dd=false->Con Tryz.prog 133 [.p 0 0,.i .i64 i] [some (rclO n cq cd cs dd rd),some (SS.o ss)] (.b (decide (0<=i/\i<ofNat n))) [.keep,.keep]/\True/\((!!decide (0<=i/\i<ofNat n))=true->(!!decide (0<=i/\i<ofNat n))=true/\(!!decide (0<=i/\i<ofNat n))=true/\(!decide (0<=i/\i<ofNat n))=false/\(decide (51<ofNat (List.length d))=true->K (.rv (.i .i64 2) ⟨zz1 (AObj.segs 177 772 [⟨1,1,1,oneF (CV.i .i64 (ofNat n))⟩,⟨2,3,256,cellF cq cd cs⟩,⟨770,1,1,oneF (CV.b dd)⟩,⟨771,1,1,oneF (CV.b rd)⟩] [(0,.p 1 0)]) (zzl (SS.o ss)) .e,2,[]⟩) .z)/\(decide (51<ofNat (List.length d))=false->True/\(0<=i/\i<256)/\Int.toNat i<256/\True/\True/\(decide (1099511627776<=ofNat (cq (Int.toNat i)))=true->K (.rv (.i .i64 15) ⟨zz1 (AObj.segs 177 772 [⟨1,1,1,oneF (CV.i .i64 (ofNat n))⟩,⟨2,3,256,cellF cq cd cs⟩,⟨770,1,1,oneF (CV.b dd)⟩,⟨771,1,1,oneF (CV.b rd)⟩] [(0,.p 1 0)]) (zzl (SS.o ss)) (zzl (AObj.cells 172 3 [.i .i64 0,.s [],.i .i64 0] (zz1 (inv (cq (Int.toNat i))) (zzl (.s (cd (Int.toNat i)))) (zzn (cs (Int.toNat i)))))),3,[2,2]⟩) .z)/\(decide (1099511627776<=ofNat (cq (Int.toNat i)))=false->True/\True/\rg (ofNat (cq (Int.toNat i))+1)/\True/\True/\True/\rg (i*2)/\rg (i*2+ofNat (cs (Int.toNat i)))/\Con Tryz.prog 158 [.p 0 0,.i .i64 (i*2+ofNat (cs (Int.toNat i))),.agg [.i .i64 (ofNat (cq (Int.toNat i))+1),.s d]] [some (SS.o ss)] (.i .i64 (cmE ss (i*2+ofNat (cs (Int.toNat i))) (ofNat (cq (Int.toNat i))+1) d)) [.set (SS.o (cmS ss (i*2+ofNat (cs (Int.toNat i))) (ofNat (cq (Int.toNat i))+1) d))]/\((!decide (cmE ss (i*2+ofNat (cs (Int.toNat i))) (ofNat (cq (Int.toNat i))+1) d=0))=true->True/\True/\K (.rv (.i .i64 13) ⟨zz1 (AObj.segs 177 772 [⟨1,1,1,oneF (CV.i .i64 (ofNat n))⟩,⟨2,3,256,cellF cq cd cs⟩,⟨770,1,1,fun i j=>List.getD [CV.b true] (770-770+i*1+j) CV.p0⟩,⟨771,1,1,oneF (CV.b rd)⟩] [(0,.p 1 0)]) (zz1 (SS.o (cmS ss (i*2+ofNat (cs (Int.toNat i))) (ofNat (cq (Int.toNat i))+1) d)) (zzl (AObj.cells 90 2 [.i .i64 0,.s []] (zz1 (.i .i64 (ofNat (cq (Int.toNat i))+1)) (zzl (.s d)) .e))) .e) (zzl (AObj.cells 172 3 [.i .i64 0,.s [],.i .i64 0] (zz1 (inv (cq (Int.toNat i))) (zzl (.s (cd (Int.toNat i)))) (zzn (cs (Int.toNat i)))))),4,[0,1,3,3,2,2]⟩) .z)/\((!decide (cmE ss (i*2+ofNat (cs (Int.toNat i))) (ofNat (cq (Int.toNat i))+1) d=0))=false->True/\rg (1-ofNat (cs (Int.toNat i)))/\True/\(0<=i/\i<256)/\Int.toNat i<256/\K (.rv (.i .i64 0) ⟨zz1 (AObj.segs 177 772 [⟨1,1,1,oneF (CV.i .i64 (ofNat n))⟩,⟨2,3,256,setRow (fun i j=>match j with | 0=>CV.i .i64 (ofNat (cq i)) | 1=>CV.s (cd i) | x=>CV.i .i64 (ofNat (cs i))) (Int.toNat i) 0 [CV.i .i64 (ofNat (cq (Int.toNat i))+1),CV.s d,CV.i .i64 (1-ofNat (cs (Int.toNat i)))]⟩,⟨770,1,1,oneF (CV.b dd)⟩,⟨771,1,1,oneF (CV.b rd)⟩] [(0,.p 1 0)]) (zz1 (SS.o (cmS ss (i*2+ofNat (cs (Int.toNat i))) (ofNat (cq (Int.toNat i))+1) d)) (zzl (AObj.cells 90 2 [.i .i64 0,.s []] (zz1 (.i .i64 (ofNat (cq (Int.toNat i))+1)) (zzl (.s d)) .e))) .e) (zzl (AObj.cells 172 3 [.i .i64 0,.s [],.i .i64 0] (zz1 (inv (cq (Int.toNat i))) (zzl (.s (cd (Int.toNat i)))) (zzn (cs (Int.toNat i)))))),4,[0,1,3,3,2,2]⟩) .z))))/\((!!decide (0<=i/\i<ofNat n))=false->(!!decide (0<=i/\i<ofNat n))=false/\(!!decide (0<=i/\i<ofNat n))=false/\(!decide (0<=i/\i<ofNat n))=true/\K (.rv (.i .i64 2) ⟨zz1 (AObj.segs 177 772 [⟨1,1,1,oneF (CV.i .i64 (ofNat n))⟩,⟨2,3,256,cellF cq cd cs⟩,⟨770,1,1,oneF (CV.b dd)⟩,⟨771,1,1,oneF (CV.b rd)⟩] [(0,.p 1 0)]) (zzl (SS.o ss)) .e,2,[]⟩) .z))):=by kernel_rfl
theorem rhas_con (c:CS) (rd:Bool) (s:SS) (i:Int):Con Tryz.prog 133 [.p 0 0,.i .i64 i] [some (c.ro rd),some s.o] (.b (decide (0<=i/\i<ofNat c.n))) [.keep,.keep]:=by
 refine con_of_run [] [] ((rhas_vc c.n c.q c.d c.sp c.dead rd s i _).mpr ⟨fun h=>?_,fun h=>?_⟩)
 · have h':0<=i:=of_decide_eq_true h
   have e:decide (0<=i/\i<ofNat c.n)=decide (i<ofNat c.n):=by simp [h']
   rw [e]
   exact ⟨h,h,trivial,trivial,trivial,h,h,_,_,rfl,ret_k (by kernel_rfl)⟩
 · have h':¬0<=i:=of_decide_eq_false h
   have e:decide (0<=i/\i<ofNat c.n)=false:=by simp [h']
   rw [e]
   exact ⟨h,h,h,h,_,_,rfl,ret_k (by kernel_rfl)⟩
theorem rget_con (c:CS) (rd:Bool) (s:SS) (i:Int) (hn:c.n<=256):Con Tryz.prog 102 [.p 0 0,.i .i64 i] [some (c.ro rd),some s.o] (.agg [.i .i64 (ofNat (c.getQ i)),.s (c.getD i)]) [.keep,.keep]:=by
 cases hd:decide (0<=i/\i<ofNat c.n) with
 | true=>
   have h:=of_decide_eq_true hd
   have h2:i<256:=by have:=h.2;simp at this;omega
   have e1:c.getQ i=c.q i.toNat:=by unfold CS.getQ;rw [hd]
   have e2:c.getD i=c.d i.toNat:=by unfold CS.getD;rw [hd]
   rw [e1,e2]
   refine con_of_run [] [] ((rget_vc c.n c.q c.d c.sp c.dead rd s i _).mpr ⟨rhas_con c rd s i,trivial,fun h'=>(by rw [hd] at h';cases h'),fun _=>?_⟩)
   repeat' first | exact trivial | exact h.1 | exact h2 | (omega;done) | refine And.intro ?_ ?_ | exact ⟨_,_,rfl,ret_k (by kernel_rfl)⟩
 | false=>
   have e1:c.getQ i=0:=by unfold CS.getQ;rw [hd]
   have e2:c.getD i=[]:=by unfold CS.getD;rw [hd]
   rw [e1,e2]
   exact con_of_run [] [] ((rget_vc c.n c.q c.d c.sp c.dead rd s i _).mpr ⟨rhas_con c rd s i,trivial,fun _=>⟨_,_,rfl,ret_k (by kernel_rfl)⟩,fun h'=>(by rw [hd] at h';cases h')⟩)
theorem rput_con (c:CS) (rd:Bool) (s:SS) (i:Int) (x:List Nat) (m:Nat) (hc:c.n<=256) (hs:2*c.n<=s.n) (hp:∀k,c.sp k<=1) (ok:OkM s m) (hm:m<1073741823) (hx:∀b∈x,b<256) :
 Con Tryz.prog 134 [.p 0 0,.i .i64 i,.s x] [some (c.ro rd),some s.o] (.i .i64 (c.putE s i x)) [.set ((c.putC s i x).ro rd),.set (c.putS s i x).o]:=by
 have no:∀e:Int,e≠0->c.no i x=e->Con Tryz.prog 134 [.p 0 0,.i .i64 i,.s x] [some (c.ro rd),some s.o] (.i .i64 e) [.keep,.keep]->
  Con Tryz.prog 134 [.p 0 0,.i .i64 i,.s x] [some (c.ro rd),some s.o] (.i .i64 (c.putE s i x)) [.set ((c.putC s i x).ro rd),.set (c.putS s i x).o]:=by
  intro e he hE h
  have d:decide (c.no i x=0)=false:=decide_eq_false (by rw [hE];exact he)
  have e1:c.putE s i x=e:=by unfold CS.putE;rw [d];exact hE
  have e2:c.putC s i x=c:=by unfold CS.putC;rw [d]
  have e3:c.putS s i x=s:=by unfold CS.putS;rw [d]
  rw [e1,e2,e3]
  exact h.oeq (OEqL.refl _) (OEqL.refl _)
 cases hdd:c.dead with
 | true=>
   refine no 13 (by decide) (by unfold CS.no;rw [hdd]) (con_of_run [] [] ((rput_vc c.n c.q c.d c.sp c.dead rd s i x _).mpr ⟨trivial,trivial,trivial,fun _=>?_,fun h=>(by rw [hdd] at h;cases h)⟩))
   exact ⟨_,_,rfl,ret_k (by kernel_rfl)⟩
 | false=>
   cases hd:decide (0<=i/\i<ofNat c.n) with
   | false=>
     refine no 2 (by decide) (by unfold CS.no;rw [hdd,hd]) (con_of_run [] [] ((rput_vc c.n c.q c.d c.sp c.dead rd s i x _).mpr ⟨trivial,trivial,trivial,fun h=>(by rw [hdd] at h;cases h),fun _=>⟨rhas_con c rd s i,trivial,fun h=>(by rw [hd] at h;cases h),fun h=>⟨h,h,by rw [hd];rfl,?_⟩⟩⟩))
     exact ⟨_,_,rfl,ret_k (by kernel_rfl)⟩
   | true=>
     have hi:=of_decide_eq_true hd
     have hi2:i<256:=by have:=hi.2;simp at this;omega
     have hi3:i.toNat<c.n:=by have:=hi.2;simp at this;omega
     cases h51:decide ((51:Int)<ofNat x.length) with
     | true=>
       refine no 2 (by decide) (by unfold CS.no;rw [hdd,hd,h51]) (con_of_run [] [] ((rput_vc c.n c.q c.d c.sp c.dead rd s i x _).mpr ⟨trivial,trivial,trivial,fun h=>(by rw [hdd] at h;cases h),fun _=>⟨rhas_con c rd s i,trivial,fun h=>⟨h,h,by rw [hd];rfl,fun _=>?_,fun h=>(by rw [h51] at h;cases h)⟩,fun h=>(by rw [hd] at h;cases h)⟩⟩))
       exact ⟨_,_,rfl,ret_k (by kernel_rfl)⟩
     | false=>
       have hl:x.length<=51:=by have:=of_decide_eq_false h51;simp at this;omega
       cases hw:decide ((1099511627776:Int)<=ofNat (c.q i.toNat)) with
       | true=>
         refine no 15 (by decide) (by unfold CS.no;rw [hdd,hd,h51,hw]) (con_of_run [] [] ((rput_vc c.n c.q c.d c.sp c.dead rd s i x _).mpr ⟨trivial,trivial,trivial,fun h=>(by rw [hdd] at h;cases h),fun _=>⟨rhas_con c rd s i,trivial,fun h=>⟨h,h,by rw [hd];rfl,fun h=>(by rw [h51] at h;cases h),fun _=>⟨trivial,⟨hi.1,hi2⟩,by omega,trivial,trivial,fun _=>?_,fun h=>(by rw [hw] at h;cases h)⟩⟩,fun h=>(by rw [hd] at h;cases h)⟩⟩))
         exact ⟨_,_,rfl,ret_k (by kernel_rfl)⟩
       | false=>
         have hq:c.q i.toNat<1099511627776:=by have:=of_decide_eq_false hw;simp at this;omega
         have hno:c.no i x=0:=by unfold CS.no;rw [hdd,hd,h51,hw]
         have dno:decide (c.no i x=0)=true:=decide_eq_true hno
         have hsp:=hp i.toNat
         have e3:c.putS s i x=cmS s (i*2+ofNat (c.sp i.toNat)) (ofNat (c.q i.toNat)+1) x:=by unfold CS.putS;rw [dno];exact Eq.refl _
         have ei:i*2+ofNat (c.sp i.toNat)=ofNat (i.toNat*2+c.sp i.toNat):=by simp;omega
         have eq:ofNat (c.q i.toNat)+1=ofNat (c.q i.toNat+1):=by simp
         have k:=commit_con s (i.toNat*2+c.sp i.toNat) (c.q i.toNat+1) m x ok hm (by omega) hx hl
         rw [<-ei,<-eq] at k
         have bq:(-9223372036854775808:Int)<=ofNat (c.q i.toNat)+1/\ofNat (c.q i.toNat)+1<=9223372036854775807:=by simp<;>omega
         have bi:(-9223372036854775808:Int)<=i*2+ofNat (c.sp i.toNat)/\i*2+ofNat (c.sp i.toNat)<=9223372036854775807:=by rw [ei];simp<;>omega
         cases hE:decide (cmE s (i*2+ofNat (c.sp i.toNat)) (ofNat (c.q i.toNat)+1) x=0) with
         | true=>
           have e1:c.putE s i x=0:=by unfold CS.putE;rw [dno];show (match decide (cmE s (i*2+ofNat (c.sp i.toNat)) (ofNat (c.q i.toNat)+1) x=0) with | true=>(0:Int) | false=>13)=0;rw [hE]
           have e2:c.putC s i x=c.upd i.toNat (c.q i.toNat+1) x (1-c.sp i.toNat):=by unfold CS.putC;rw [dno];show (match decide (cmE s (i*2+ofNat (c.sp i.toNat)) (ofNat (c.q i.toNat)+1) x=0) with | true=>c.upd i.toNat (c.q i.toNat+1) x (1-c.sp i.toNat) | false=>{ c with dead:=true})= _;rw [hE]
           rw [e1,e2,e3]
           have es:(1:Int)-ofNat (c.sp i.toNat)=ofNat (1-c.sp i.toNat):=by simp;omega
           refine Con.post (us:=[.set (.segs 177 772 [⟨1,1,1,oneF (.i .i64 (ofNat c.n))⟩,⟨2,3,256,setRow (cellF c.q c.d c.sp) i.toNat 0 [.i .i64 (ofNat (c.q i.toNat)+1),.s x,.i .i64 ((1:Int)-ofNat (c.sp i.toNat))]⟩,⟨770,1,1,oneF (.b c.dead)⟩,⟨771,1,1,oneF (.b rd)⟩] [(0,.p 1 0)]),.set (cmS s (i*2+ofNat (c.sp i.toNat)) (ofNat (c.q i.toNat)+1) x).o])
            (con_of_run [] [] ((rput_vc c.n c.q c.d c.sp c.dead rd s i x _).mpr ⟨trivial,trivial,trivial,fun h=>(by rw [hdd] at h;cases h),fun _=>⟨rhas_con c rd s i,trivial,fun h=>⟨h,h,by rw [hd];rfl,fun h=>(by rw [h51] at h;cases h),fun _=>⟨trivial,⟨hi.1,hi2⟩,by omega,trivial,trivial,fun h=>(by rw [hw] at h;cases h),
              fun _=>⟨trivial,trivial,bq,trivial,trivial,trivial,by omega,bi,k,fun h=>(by rw [hE] at h;cases h),fun _=>⟨trivial,by rw [es];simp<;>omega,trivial,⟨hi.1,hi2⟩,by omega,?_⟩⟩⟩⟩,fun h=>(by rw [hd] at h;cases h)⟩⟩))
            (.refl _) ⟨.segsW ⟨.refl _,⟨rfl,rfl,rfl,fun a b ha hb=>?_⟩,.refl _,.refl _,trivial⟩,.refl _,trivial⟩
           · exact ⟨_,_,rfl,ret_k (by kernel_rfl)⟩
           · refine (setRow3 a b hb).trans (.of ?_)
             rw [es,eq]
             show (bif Nat.beq a i.toNat then _ else cellF c.q c.d c.sp a b)=cellF (fun j=>bif Nat.beq j i.toNat then c.q i.toNat+1 else c.q j) (fun j=>bif Nat.beq j i.toNat then x else c.d j) (fun j=>bif Nat.beq j i.toNat then 1-c.sp i.toNat else c.sp j) a b
             have hb:b<3:=hb
             have:b=0\/b=1\/b=2:=by omega
             rcases this with rfl | rfl | rfl<;>simp only [cellF]<;>cases Nat.beq a i.toNat<;>exact Eq.refl _
         | false=>
           have e1:c.putE s i x=13:=by unfold CS.putE;rw [dno];show (match decide (cmE s (i*2+ofNat (c.sp i.toNat)) (ofNat (c.q i.toNat)+1) x=0) with | true=>(0:Int) | false=>13)=13;rw [hE]
           have e2:c.putC s i x={ c with dead:=true}:=by unfold CS.putC;rw [dno];show (match decide (cmE s (i*2+ofNat (c.sp i.toNat)) (ofNat (c.q i.toNat)+1) x=0) with | true=>c.upd i.toNat (c.q i.toNat+1) x (1-c.sp i.toNat) | false=>{ c with dead:=true})= _;rw [hE]
           rw [e1,e2,e3]
           refine Con.post (us:=[.set (.segs 177 772 [⟨1,1,1,oneF (.i .i64 (ofNat c.n))⟩,⟨2,3,256,cellF c.q c.d c.sp⟩,⟨770,1,1,fun a b=>[CV.b true].getD (770-770+a*1+b) .p0⟩,⟨771,1,1,oneF (.b rd)⟩] [(0,.p 1 0)]),.set (cmS s (i*2+ofNat (c.sp i.toNat)) (ofNat (c.q i.toNat)+1) x).o])
            (con_of_run [] [] ((rput_vc c.n c.q c.d c.sp c.dead rd s i x _).mpr ⟨trivial,trivial,trivial,fun h=>(by rw [hdd] at h;cases h),fun _=>⟨rhas_con c rd s i,trivial,fun h=>⟨h,h,by rw [hd];rfl,fun h=>(by rw [h51] at h;cases h),fun _=>⟨trivial,⟨hi.1,hi2⟩,by omega,trivial,trivial,fun h=>(by rw [hw] at h;cases h),
            fun _=>⟨trivial,trivial,bq,trivial,trivial,trivial,by omega,bi,k,fun _=>⟨trivial,trivial,?_⟩,fun h=>(by rw [hE] at h;cases h)⟩⟩⟩,fun h=>(by rw [hd] at h;cases h)⟩⟩))
            (.refl _) ⟨.segsW ⟨.refl _,.refl _,⟨rfl,rfl,rfl,fun a b ha hb=>?_⟩,.refl _,trivial⟩,.refl _,trivial⟩
           rotate_left
           · have ha:a=0:=by have:a<1:=ha;omega
             have hb:b=0:=by have:b<1:=hb;omega
             subst ha;subst hb;exact .refl _
           exact ⟨_,_,rfl,ret_k (by kernel_rfl)⟩
theorem segAll_at (l:List Seg) (qs:List (Nat×AV)):∀(m o:Nat) (r:List AV),segAll l qs m o=some r->r.length=m/\∀j,j<m->∃x,r[j]? =some x/\segOne (o+j) l qs=some x
 | 0,o,r,h=>by
   have h':some ([]:List AV)=some r:=h
   simp only [Option.some.injEq] at h'
   subst h'
   exact ⟨rfl,fun j hj=>by omega⟩
 | m+1,o,r,h=>by
   rw [segAll_s] at h
   simp only [ob_some,Option.some.injEq] at h
   obtain ⟨v,hv,r',hr,rfl⟩:=h
   obtain ⟨e1,e2⟩:=segAll_at l qs m (o+1) r' hr
   refine ⟨by simp [e1],fun j hj=>?_⟩
   cases j with
   | zero=>exact ⟨v,rfl,hv⟩
   | succ j=>
     obtain ⟨x,a,b⟩:=e2 j (by omega)
     exact ⟨x,by simpa using a,by rw [<-b];congr 1;omega⟩
def caSegs (c:CS):List Seg:=[⟨1,1,1,oneF (.i .i64 (ofNat c.n))⟩,⟨2,3,256,cellF c.q c.d c.sp⟩,⟨770,1,1,oneF (.b c.dead)⟩]
def ropA (c:CS):List AV:=(segAll (caSegs c) [(0,.p 0 0)] 771 0).getD []
def ropL (c:CS):List AV:=ropA c ++ [.b false]
theorem ropA_some (c:CS):segAll (caSegs c) [(0,.p 0 0)] 771 0=some (ropA c):=by
 have h:(segAll (caSegs c) [(0,.p 0 0)] 771 0).isSome=true:=by kernel_rfl
 unfold ropA
 cases hh:segAll (caSegs c) [(0,.p 0 0)] 771 0 with
 | none=>rw [hh] at h;cases h
 | some r=>rfl
theorem ropL_len (c:CS):(ropL c).length=772:=by
 unfold ropL
 rw [List.length_append,(segAll_at _ _ _ _ _ (ropA_some c)).1];rfl
theorem ropL_at (c:CS) (j:Nat) (h:j<771) {x:AV} (hx:segOne j (caSegs c) [(0,.p 0 0)]=some x):(ropL c)[j]? =some x:=by
 obtain ⟨e1,e2⟩:=segAll_at _ _ _ _ _ (ropA_some c)
 obtain ⟨y,a,b⟩:=e2 j h
 rw [Nat.zero_add,hx] at b
 cases b
 unfold ropL
 rw [List.getElem?_append_left (by omega)];exact a
theorem ropL_last (c:CS):(ropL c)[771]? =some (.b false):=by
 obtain ⟨e1,_⟩:=segAll_at _ _ _ _ _ (ropA_some c)
 unfold ropL
 rw [List.getElem?_append_right (by omega),e1];rfl
set_option maxRecDepth 100000 in
theorem ropen_vc (s:SS) (K:Res->Orc->Prop):runK Tryz.prog 1000000 (.call 65 [.p 0 0] (mkH [some s.o])) (.cal [0] (.tup [.p 1 0,.i .i64 0]) [.keep,.set (CS.oa (opened s 129))] (oc 2 .z)) K=(Con Tryz.prog 100 [.p 0 0,.i .i64 129] [some (SS.o s)] (.tup [.p 1 0,.i .i64 0]) [.keep,.set (CS.oa (opened s 129))]/\True/\K (.rv (.tup [.p 2 0,.i .i64 0]) (newList (embH [0] (mkH [some s.o]) [.keep,.set (CS.oa (opened s 129))]) 177 (ropL (opened s 129)))) .z):=by kernel_rfl
def CS.roa (c:CS) (rd:Bool):AObj:=
 .segs 177 772 [⟨1,1,1,oneF (.i .i64 (ofNat c.n))⟩,⟨2,3,256,cellF c.q c.d c.sp⟩,⟨770,1,1,oneF (.b c.dead)⟩,⟨771,1,1,oneF (.b rd)⟩] [(0,.p 0 0)]
theorem rop_ox (c:CS):OX (some (cellsO 177 (ropL c))) (some (c.roa false)):=by
 have hl:=ropL_len c
 have at_:∀p v,p<772->(ropL c)[p]? =some v->cellAt 772 [] (setAll .e 0 (ropL c)) p=some v:=by
  intro p v hp h
  rw [<-hl,cellsD_at (by omega)];exact h
 unfold cellsO
 rw [hl]
 refine .cellsSegs (fun g hg=>?_) (fun y hy=>?_)
 · simp only [List.mem_cons,List.mem_nil_iff,or_false] at hg
   rcases hg with rfl | rfl | rfl | rfl
   · refine ⟨by simp only;omega,fun i j hi hj=>?_⟩
     have hi:i<1:=hi
     have hj:j<1:=hj
     obtain rfl:i=0:=by omega
     obtain rfl:j=0:=by omega
     exact ⟨.i .i64 (ofNat c.n),at_ 1 _ (by omega) (ropL_at c 1 (by omega) rfl),fun ρ x hx=>by cases hx;exact .i _ _⟩
   · refine ⟨by simp only;omega,fun i j hi hj=>?_⟩
     have hi:i<256:=hi
     have hj:j<3:=hj
     refine ⟨toAV (cellF c.q c.d c.sp i j),?_,?_⟩
     · show cellAt 772 [] (setAll .e 0 (ropL c)) (2+i*3+j)= _
       refine at_ _ _ (by omega) (ropL_at c _ (by omega) ?_)
       unfold segOne
       have e0:psGet (2+i*3+j) [((0:Nat),AV.p 0 0)]=none:=by
        show (match Nat.beq 0 (2+i*3+j) with | true=>some (AV.p 0 0) | false=>none)=none
        rw [show Nat.beq 0 (2+i*3+j)=false by rw [Bool.eq_false_iff,ne_eq,Nat.beq_eq];omega]
       rw [e0]
       have e1:segP (2+i*3+j) 1 (caSegs c)=some [toAV (cellF c.q c.d c.sp i j)]:=by
        unfold caSegs
        rw [segP]
        rw [show (Nat.ble 1 (2+i*3+j) && Nat.blt (2+i*3+j-1) (1*1))=false by
         rw [show Nat.blt (2+i*3+j-1) (1*1)=false by rw [Bool.eq_false_iff,ne_eq,Nat.blt_eq];omega,Bool.and_false]]
        show segP (2+i*3+j) 1 [⟨2,3,256,cellF c.q c.d c.sp⟩,⟨770,1,1,oneF (.b c.dead)⟩]= _
        rw [segP]
        rw [show (Nat.ble 2 (2+i*3+j) && Nat.blt (2+i*3+j-2) (256*3))=true by
         rw [Bool.and_eq_true,Nat.ble_eq,Nat.blt_eq];omega]
        have d1:(2+i*3+j-2) % 3=j:=by omega
        have d2:(2+i*3+j-2) / 3=i:=by omega
        show og (Nat.ble ((2+i*3+j-2) % 3+1) 3) (some (cvL (cellF c.q c.d c.sp ((2+i*3+j-2) / 3)) ((2+i*3+j-2) % 3) 1))= _
        rw [d1,d2,Nat.ble_eq_true_of_le (show j+1<=3 by omega)];rfl
       rw [e1];rfl
     · have:j=0\/j=1\/j=2:=by omega
       rcases this with rfl | rfl | rfl
       · intro ρ x hx
         have hx:VR ρ (.i .i64 (ofNat (c.q i))) x:=hx
         cases hx;exact .i _ _
       · intro ρ x hx
         have hx:VR ρ (.s (c.d i)) x:=hx
         cases hx with | s _ _ e=>exact .s _ _ e
       · intro ρ x hx
         have hx:VR ρ (.i .i64 (ofNat (c.sp i))) x:=hx
         cases hx;exact .i _ _
   · refine ⟨by simp only;omega,fun i j hi hj=>?_⟩
     have hi:i<1:=hi
     have hj:j<1:=hj
     obtain rfl:i=0:=by omega
     obtain rfl:j=0:=by omega
     exact ⟨.b c.dead,at_ 770 _ (by omega) (ropL_at c 770 (by omega) rfl),fun ρ x hx=>by cases hx;exact .b _⟩
   · refine ⟨by simp only;omega,fun i j hi hj=>?_⟩
     have hi:i<1:=hi
     have hj:j<1:=hj
     obtain rfl:i=0:=by omega
     obtain rfl:j=0:=by omega
     exact ⟨.b false,at_ 771 _ (by omega) (ropL_last c),fun ρ x hx=>by cases hx;exact .b _⟩
 · simp only [List.mem_cons,List.mem_nil_iff,or_false] at hy
   subst hy
   exact at_ 0 _ (by omega) (ropL_at c 0 (by omega) rfl)
set_option maxRecDepth 100000 in
theorem ropen_con (s:SS) (h3:258<=s.n) (hs:s.n<=512) (ho:s.off=false) (hb:Byt s):Con Tryz.prog 65 [.p 0 0] [some s.o] (.tup [.p 1 0,.i .i64 0]) [.keep,.set ((opened s 129).roa false)]:=by
 have k:=open_con s 129 (by decide) (by decide) (by omega) hs ho hb
 refine Con.post (us:=[.keep,.set (cellsO 177 (ropL (opened s 129)))]) (con_of_run [] [2] ((ropen_vc s _).mpr ⟨k,trivial,_,_,rfl,?_⟩)) (.refl _) ⟨.refl _,.x (rop_ox _),trivial⟩
 exact ret_k (by kernel_rfl)
def putE (c:CS) (s:SS) (i:Int) (x:List Nat):Int:=c.putE s i x
def putC (c:CS) (s:SS) (i:Int) (x:List Nat):CS:=c.putC s i x
def putS (c:CS) (s:SS) (i:Int) (x:List Nat):SS:=c.putS s i x
theorem rp_vc (c:CS) (rd:Bool) (s:SS) (i:Int) (x:List Nat) (K:Res->Orc->Prop):runK Tryz.prog 1000000 (.call 103 [.p 0 0,.i .i64 i,.s x] (mkH [some (c.ro rd),some s.o])) (.cal [0,1] (.i .i64 (putE c s i x)) [.set (CS.ro (putC c s i x) rd),.set (SS.o (putS c s i x))] .z) K=(True/\Con Tryz.prog 134 [.p 0 0,.i .i64 i,.s x] [some (CS.ro c rd),some (SS.o s)] (.i .i64 (putE c s i x)) [.set (CS.ro (putC c s i x) rd),.set (SS.o (putS c s i x))]/\True/\True/\K (.rv (.i .i64 (putE c s i x)) ⟨zz1 (AObj.segs 177 772 [⟨1,1,1,oneF (CV.i .i64 (ofNat (CS.n (putC c s i x))))⟩,⟨2,3,256,cellF (CS.q (putC c s i x)) (CS.d (putC c s i x)) (CS.sp (putC c s i x))⟩,⟨770,1,1,oneF (CV.b (CS.dead (putC c s i x)))⟩,⟨771,1,1,fun i_1 j=>List.getD [CV.b (decide (putE c s i x=13))] (771-771+i_1*1+j) CV.p0⟩] [(0,.p 1 0)]) (zzl (SS.o (putS c s i x))) .e,2,[0,1,0]⟩) .z):=by kernel_rfl
theorem rp_con {c:CS} {s:SS} {m:Nat} (h:Inv c s m) (hm:m<1073741823) (rd:Bool) (i:Int) (x:List Nat) (hx:∀b∈x,b<256) :
 Con Tryz.prog 103 [.p 0 0,.i .i64 i,.s x] [some (c.ro rd),some s.o] (.i .i64 (c.putE s i x)) [.set ((c.putC s i x).ro (decide (c.putE s i x=13))),.set (c.putS s i x).o]:=by
 have k:=rput_con c rd s i x m h.hc h.hs h.sp h.ok hm hx
 refine Con.post (us:=[.set (.segs 177 772 [⟨1,1,1,oneF (.i .i64 (ofNat (c.putC s i x).n))⟩,⟨2,3,256,cellF (c.putC s i x).q (c.putC s i x).d (c.putC s i x).sp⟩,⟨770,1,1,oneF (.b (c.putC s i x).dead)⟩,
  ⟨771,1,1,fun a b=>[CV.b (decide (c.putE s i x=(13:Int)))].getD (771-771+a*1+b) .p0⟩] [(0,.p 1 0)]),.set (c.putS s i x).o]) (con_of_run [] [] ((rp_vc c rd s i x _).mpr ⟨trivial,k,trivial,trivial,_,_,rfl,?_⟩)) (.refl _)
  ⟨.segsW ⟨.refl _,.refl _,.refl _,⟨rfl,rfl,rfl,fun a b ha hb=>?_⟩,trivial⟩,.refl _,trivial⟩
 · exact ret_k (by kernel_rfl)
 · have ha:a<1:=ha
   have hb:b<1:=hb
   obtain rfl:a=0:=by omega
   obtain rfl:b=0:=by omega
   exact .of (Eq.refl _)
end Go.Proofs.Cl
namespace Go.Proofs.Cl
open Go Go.Sim Go.Proofs Go.Proofs.Cd Go.Proofs.St
def gtQ (c:CS) (i:Int):Nat:=c.getQ i
def gtD (c:CS) (i:Int):List Nat:=c.getD i
def bQ (c:CS) (b:Int):Nat:=bif decide (0<=b/\b<128) then blkQ (c.getD b) else 0
def bD (c:CS) (b:Int):List Nat:=bif decide (0<=b/\b<128) then blkD (c.getD b) else []
def mV (c:CS) (j:Nat):Nat:=mtV (c.getD 128) j
end Go.Proofs.Cl
namespace Go.Proofs.Cl
open Go Go.Sim Go.Proofs Go.Proofs.Cd Go.Proofs.St Go.Proofs.YtfpebgpcpoefpaaGreatDoor
theorem Block_vc (c:CS) (rd:Bool) (s:SS) (b:Int) (K:Res->Orc->Prop):runK Tryz.prog 1000000 (.call 75 [.p 0 0,.i .i64 b] (mkH [some (c.ro rd),some s.o])) (oc 2 (.inl (.inl (.s (ot 3 (oc 2 (.s .z (.cal [0,1] (.agg [inv (gtQ c b),.s (gtD c b)]) [.keep,.keep] (.cal [] (.agg [inv (blkQ (gtD c b)),.s (blkD (gtD c b))]) [] .z))))) (of_ 3 (oc 3 .z)))))) K=((fun (q0:AV)=>(True/\(decide (0<=b)=true->decide (0<=b)=true/\decide (0<=b)=true/\decide (0<=b)=true/\True/\((!decide (b<=127))=true->K (.rv (.agg [.i .i64 0,.s []]) ⟨zz1 (CS.ro c rd) (zzl (SS.o s)) (zzl (AObj.cells 90 2 [.i .i64 0,.s []] (zz1 (.i .i64 0) (zzl (.s [])) .e))),3,[2,2]⟩) .z)/\((!decide (b<=127))=false->True/\Con Tryz.prog 102 [.p 0 0,.i .i64 b] [some (CS.ro c rd),some (SS.o s)] (.agg [inv (gtQ c b),.s (gtD c b)]) [.keep,.keep]/\Con Tryz.prog 109 [.s (gtD c b)] [] q0 []/\K (.rv q0 ⟨zz1 (CS.ro c rd) (zzl (SS.o s)) (zzl (AObj.cells 90 2 [.i .i64 0,.s []] (zz1 (inv (blkQ (gtD c b))) (zzl (.s (blkD (gtD c b)))) .e))),3,[2,2]⟩) .z))/\(decide (0<=b)=false->decide (0<=b)=false/\decide (0<=b)=false/\decide (0<=b)=false/\True/\K (.rv (.agg [.i .i64 0,.s []]) ⟨zz1 (CS.ro c rd) (zzl (SS.o s)) (zzl (AObj.cells 90 2 [.i .i64 0,.s []] (zz1 (.i .i64 0) (zzl (.s [])) .e))),3,[2,2]⟩) .z))) (.agg [inv (blkQ (gtD c b)),.s (blkD (gtD c b))])):=by kernel_rfl
theorem Meta_vc (c:CS) (rd:Bool) (s:SS) (K:Res->Orc->Prop):runK Tryz.prog 1000000 (.call 68 [.p 0 0] (mkH [some (c.ro rd),some s.o])) (.c (.cal [0,1] (.agg [inv (gtQ c 128),.s (gtD c 128)]) [.keep,.keep] (.cal [] (.agg [inv (mtV (gtD c 128) 0),inv (mtV (gtD c 128) 1),inv (mtV (gtD c 128) 2),inv (mtV (gtD c 128) 3),inv (mtV (gtD c 128) 4)]) [] .z))) K=((fun (q0:AV)=>(True/\True/\Con Tryz.prog 102 [.p 0 0,.i .i64 128] [some (CS.ro c rd),some (SS.o s)] (.agg [inv (gtQ c 128),.s (gtD c 128)]) [.keep,.keep]/\Con Tryz.prog 101 [.s (gtD c 128)] [] q0 []/\K (.rv q0 ⟨zz1 (CS.ro c rd) (zzl (SS.o s)) (zzl (AObj.cells 127 5 [.i .i64 0,.i .i64 0,.i .i64 0,.i .i64 0,.i .i64 0] (zz1 (inv (mtV (gtD c 128) 0)) (zz1 (inv (mtV (gtD c 128) 1)) (zzn (mtV (gtD c 128) 3)) .e) (zz1 (inv (mtV (gtD c 128) 2)) (zzn (mtV (gtD c 128) 4)) .e)))),3,[2,2]⟩) .z)) (.agg [inv (mtV (gtD c 128) 0),inv (mtV (gtD c 128) 1),inv (mtV (gtD c 128) 2),inv (mtV (gtD c 128) 3),inv (mtV (gtD c 128) 4)])):=by kernel_rfl
structure Txt (c:CS):Prop where
 n:c.n<=256
 b:∀i,i<c.n->∀x∈c.d i,x<256
 l:∀i,i<c.n->(c.d i).length<=51
theorem Txt.get {c:CS} (h:Txt c) (i:Int):(∀x∈c.getD i,x<256)/\(c.getD i).length<=1073741824:=by
 unfold CS.getD
 cases hd:decide (0<=i/\i<ofNat c.n) with
 | true=>
   have hi:=of_decide_eq_true hd
   have:i.toNat<c.n:=by have:=hi.2;simp at this;omega
   exact ⟨h.b _ this,by have:=h.l _ this;show (c.d i.toNat).length<=_;omega⟩
 | false=>exact ⟨fun x hx=>(by cases hx),Nat.zero_le _⟩
theorem block_con (c:CS) (rd:Bool) (s:SS) (b:Int) (h:Txt c):Con Tryz.prog 75 [.p 0 0,.i .i64 b] [some (c.ro rd),some s.o] (.agg [.i .i64 (ofNat (bQ c b)),.s (bD c b)]) [.keep,.keep]:=by
 have no:decide (0<=b/\b<128)=false->Con Tryz.prog 75 [.p 0 0,.i .i64 b] [some (c.ro rd),some s.o] (.agg [.i .i64 0,.s []]) [.keep,.keep]->Con Tryz.prog 75 [.p 0 0,.i .i64 b] [some (c.ro rd),some s.o] (.agg [.i .i64 (ofNat (bQ c b)),.s (bD c b)]) [.keep,.keep]:=fun hd k=>by
  have e1:bQ c b=0:=by unfold bQ;rw [hd];rfl
  have e2:bD c b=[]:=by unfold bD;rw [hd];rfl
  rw [e1,e2];exact k
 cases h0:decide ((0:Int)<=b) with
 | false=>
   have:¬0<=b:=of_decide_eq_false h0
   refine no (decide_eq_false (by omega)) (con_of_run [] [] ((Block_vc c rd s b _).mpr ⟨trivial,fun q=>(by rw [h0] at q;cases q),fun _=>⟨h0,h0,h0,trivial,_,_,rfl,ret_k (by kernel_rfl)⟩⟩))
 | true=>
   have p0:0<=b:=of_decide_eq_true h0
   cases h1:decide (b<=(127:Int)) with
   | false=>
     have:¬b<=127:=of_decide_eq_false h1
     have d1:(!decide (b<=(127:Int)))=true:=by rw [h1];rfl
     refine no (decide_eq_false (by omega)) (con_of_run [] [] ((Block_vc c rd s b _).mpr ⟨trivial,fun _=>⟨h0,h0,h0,trivial,fun _=>⟨_,_,rfl,ret_k (by kernel_rfl)⟩,fun q=>(by rw [d1] at q;cases q)⟩,fun q=>(by rw [h0] at q;cases q)⟩))
   | true=>
     have p1:b<=127:=of_decide_eq_true h1
     have d1:(!decide (b<=(127:Int)))=false:=by rw [h1];rfl
     have hd:decide (0<=b/\b<128)=true:=decide_eq_true (by omega)
     have e1:bQ c b=blkQ (gtD c b):=by unfold bQ;rw [hd];rfl
     have e2:bD c b=blkD (gtD c b):=by unfold bD;rw [hd];rfl
     rw [e1,e2]
     exact con_of_run [] [] ((Block_vc c rd s b _).mpr ⟨trivial,fun _=>⟨h0,h0,h0,trivial,fun q=>(by rw [d1] at q;cases q),fun _=>⟨trivial,rget_con c rd s b h.n,blockOf_con _ (h.get b).1 (h.get b).2,_,_,rfl,ret_k (by kernel_rfl)⟩⟩,fun q=>(by rw [h0] at q;cases q)⟩)
theorem meta_con (c:CS) (rd:Bool) (s:SS) (h:Txt c):Con Tryz.prog 68 [.p 0 0] [some (c.ro rd),some s.o]
 (.agg [.i .i64 (ofNat (mV c 0)),.i .i64 (ofNat (mV c 1)),.i .i64 (ofNat (mV c 2)),.i .i64 (ofNat (mV c 3)),.i .i64 (ofNat (mV c 4))]) [.keep,.keep]:=
 con_of_run [] [] ((Meta_vc c rd s _).mpr ⟨trivial,trivial,rget_con c rd s 128 h.n,metaOf_con _ (h.get 128).1 (h.get 128).2,_,_,rfl,ret_k (by kernel_rfl)⟩)
end Go.Proofs.Cl
namespace Go.Proofs.Cl
open Go Go.Sim Go.Proofs Go.Proofs.Cd Go.Proofs.St
def rE (c:CS) (s:SS) (i:Int) (x:List Nat):Int:=c.putE s i x
def rC (c:CS) (s:SS) (i:Int) (x:List Nat):CS:=c.putC s i x
def rS2 (c:CS) (s:SS) (i:Int) (x:List Nat):SS:=c.putS s i x
def rD (c:CS) (s:SS) (i:Int) (x:List Nat):Bool:=decide (c.putE s i x=13)
def btI (n:Int) (d:List Nat):List Nat:=btx n.toNat d
def mtI (a b c d e:Int):List Nat:=mtx a.toNat b.toNat c.toNat d.toNat e.toNat
theorem mx_l (a b:Int):a<=mx a b:=by unfold mx;split<;>omega
theorem mx_r (a b:Int):b<=mx a b:=by unfold mx;split<;>omega
theorem mtV_le (t:List Nat) (j:Nat) (hj:j<5):mtV t j<=1099511627776:=by
 unfold mtV
 cases h:okMt t with
 | false=>exact Nat.zero_le _
 | true=>
   show rv t j<=_
   unfold okMt at h
   have h2:¬(1099511627776:Int)<grt t:=by simp at h;omega
   have g:ofNat (rv t j)<=grt t:=by
    unfold grt
    have:j=0\/j=1\/j=2\/j=3\/j=4:=by omega
    rcases this with rfl | rfl | rfl | rfl | rfl
    · exact Int.le_trans (mx_l _ _) (Int.le_trans (mx_r _ _) (Int.le_trans (mx_r _ _) (Int.le_trans (mx_r _ _) (mx_r _ _))))
    · exact Int.le_trans (mx_l _ _) (Int.le_trans (mx_r _ _) (Int.le_trans (mx_r _ _) (mx_r _ _)))
    · exact Int.le_trans (mx_l _ _) (Int.le_trans (mx_r _ _) (mx_r _ _))
    · exact Int.le_trans (mx_l _ _) (mx_r _ _)
    · exact mx_l _ _
   have:ofNat (rv t j)<=1099511627776:=by omega
   simp at this;omega
theorem mV_le (c:CS) (j:Nat) (hj:j<5):mV c j<=1099511627776:=mtV_le _ j hj
theorem mtx_lt {a b c d e:Nat} (ha:a<=1099511627776) (hb:b<=1099511627776) (hc:c<=1099511627776) (hd:d<=1099511627776) (he:e<=1099511627776):∀x∈mtx a b c d e,x<256:=by
 unfold mtx
 cases (decide (ofNat a=(0:Int)) && (decide (ofNat b=(0:Int)) && (decide (ofNat c=(0:Int)) && (decide (ofNat d=(0:Int)) && (decide (ofNat e=(0:Int)) && true)) && true))) with
 | true=>intro x hx;cases hx
 | false=>exact bytes_lt (wG_lt (by omega) (wG_lt (by omega) (wG_lt (by omega) (wG_lt (by omega) fun i=>wB_lt (by omega) i))))
theorem bs:(!true)=false/\(!false)=true/\((true=false)=False)/\((false=true)=False)/\(∀p:Prop,(False->p)=True)/\(∀p:Prop,(True->p)=p)/\(∀p:Prop,(True/\p)=p)/\(∀p:Prop,(p/\True)=p)/\(∀p:Prop,(p/\p)=p):=
 ⟨rfl,rfl,by simp,by simp,fun _=>by simp,fun _=>by simp,fun _=>by simp,fun _=>by simp,fun _=>by simp⟩
end Go.Proofs.Cl
namespace Go.Proofs.Cl
open Go Go.Sim Go.Proofs Go.Proofs.Cd Go.Proofs.St Go.Proofs.YtfpebgpcpoefpaaGreatDoor
abbrev oR (c:CS) (rd:Bool) (s:SS):List (Option AObj):=[some (c.ro rd),some s.o]
abbrev uP (c:CS) (s:SS) (i:Int) (x:List Nat):List Upd:=[.set ((rC c s i x).ro (rD c s i x)),.set (rS2 c s i x).o]
abbrev mA (c:CS):AV:=.agg [.i .i64 (ofNat (mV c 0)),.i .i64 (ofNat (mV c 1)),.i .i64 (ofNat (mV c 2)),.i .i64 (ofNat (mV c 3)),.i .i64 (ofNat (mV c 4))]
abbrev fG (c:CS) (k:Nat):Int:=List.getD [ofNat (mV c 2),ofNat (mV c 3),ofNat (mV c 4)] k 0
theorem nT {b:Bool} (h:b=true):(!b)=false:=by rw [h];rfl
theorem nF {b:Bool} (h:b=false):(!b)=true:=by rw [h];rfl
def wq (n a b:Int):Bool:=decide (a<=n) && decide (n<=b)
def nxB (x:Int) (d:List Nat):Bool:=wq x 1 1099511627776 && decide (ofNat d.length<=44)
def flE (rd m:Bool):Int:=bif rd then 13 else bif m then 0 else 2
theorem wi0_vq (n a b:Int) (h0:decide (a<=n)=true):VD Tryz.prog 67 [.i .i64 n,.i .i64 a,.i .i64 b] [] (ot 4 .z) (.b (decide (n<=b))) [] [] 0 (fun Lf=>r4 (decide (a<=n)=true) (Lf)):=by unfold VD VQ;kernel_rfl
theorem wi1_vq (n a b:Int) (h0:decide (a<=n)=false):VD Tryz.prog 67 [.i .i64 n,.i .i64 a,.i .i64 b] [] (of_ 4 .z) (.b false) [] [] 0 (fun Lf=>r4 (decide (a<=n)=false) (Lf)):=by unfold VD VQ;kernel_rfl
theorem wi_con (n a b:Int):Con Tryz.prog 67 [.i .i64 n,.i .i64 a,.i .i64 b] [] (.b (wq n a b)) []:=by
 unfold wq
 cases h0:decide (a<=n) with
 | true=>
   exact con_d (wi0_vq (n:=n) (a:=a) (b:=b) (h0:=h0)) (by repeat' first | exact trivial | assumption | exact rfl | exact nT (by assumption) | exact nF (by assumption) | apply And.intro | decide)
 | false=>
   exact con_d (wi1_vq (n:=n) (a:=a) (b:=b) (h0:=h0)) (by repeat' first | exact trivial | assumption | exact rfl | exact nT (by assumption) | exact nF (by assumption) | apply And.intro | decide)
theorem ib0_vq (w:Int->Int->Int->Bool) (b:Int):VD Tryz.prog 108 [.i .i64 b] [] (.cal [] (.b (w b 0 127)) [] .z) (.b (w b 0 127)) [] [] 0 (fun Lf=>Con Tryz.prog 67 [.i .i64 b,.i .i64 0,.i .i64 127] [] (.b (w b 0 127)) []/\Lf):=by unfold VD VQ;kernel_rfl
theorem ib_con (b:Int):Con Tryz.prog 108 [.i .i64 b] [] (.b (wq b 0 127)) []:=by
 exact con_d (ib0_vq (w:=wq) (b:=b)) (by repeat' first | exact trivial | assumption | exact rfl | exact nT (by assumption) | exact nF (by assumption) | exact wi_con _ _ _ | apply And.intro | decide)
theorem isv0_vq (w:Int->Int->Int->Bool) (b:Int):VD Tryz.prog 121 [.i .i64 b] [] (.cal [] (.b (w b 0 2)) [] .z) (.b (w b 0 2)) [] [] 0 (fun Lf=>Con Tryz.prog 67 [.i .i64 b,.i .i64 0,.i .i64 2] [] (.b (w b 0 2)) []/\Lf):=by unfold VD VQ;kernel_rfl
theorem isv_con (b:Int):Con Tryz.prog 121 [.i .i64 b] [] (.b (wq b 0 2)) []:=by
 exact con_d (isv0_vq (w:=wq) (b:=b)) (by repeat' first | exact trivial | assumption | exact rfl | exact nT (by assumption) | exact nF (by assumption) | exact wi_con _ _ _ | apply And.intro | decide)
theorem ign0_vq (w:Int->Int->Int->Bool) (b:Int):VD Tryz.prog 122 [.i .i64 b] [] (.cal [] (.b (w b 1 1099511627776)) [] .z) (.b (w b 1 1099511627776)) [] [] 0 (fun Lf=>Con Tryz.prog 67 [.i .i64 b,.i .i64 1,.i .i64 1099511627776] [] (.b (w b 1 1099511627776)) []/\Lf):=by unfold VD VQ;kernel_rfl
theorem ign_con (b:Int):Con Tryz.prog 122 [.i .i64 b] [] (.b (wq b 1 1099511627776)) []:=by
 exact con_d (ign0_vq (w:=wq) (b:=b)) (by repeat' first | exact trivial | assumption | exact rfl | exact nT (by assumption) | exact nF (by assumption) | exact wi_con _ _ _ | apply And.intro | decide)
theorem inx0_vq (w:Int->Int->Int->Bool) (x:Int) (d:List Nat) (h0:w x 1 1099511627776=true):VD Tryz.prog 120 [.agg [.i .i64 x,.s d]] [] (.cal [] (.b (w x 1 1099511627776)) [] (ot 5 .z)) (.b (decide (ofNat (List.length d)<=44))) [] [] 1 (fun Lf=>True/\Con Tryz.prog 67 [.i .i64 x,.i .i64 1,.i .i64 1099511627776] [] (.b (w x 1 1099511627776)) []/\w x 1 1099511627776=true/\True/\r4 (w x 1 1099511627776=true) (Lf)):=by unfold VD VQ;kernel_rfl
theorem inx1_vq (w:Int->Int->Int->Bool) (x:Int) (d:List Nat) (h0:w x 1 1099511627776=false):VD Tryz.prog 120 [.agg [.i .i64 x,.s d]] [] (.cal [] (.b (w x 1 1099511627776)) [] (of_ 5 .z)) (.b false) [] [] 1 (fun Lf=>True/\Con Tryz.prog 67 [.i .i64 x,.i .i64 1,.i .i64 1099511627776] [] (.b (w x 1 1099511627776)) []/\r5 (w x 1 1099511627776=false) (Lf)):=by unfold VD VQ;kernel_rfl
theorem inx_con (x:Int) (d:List Nat):Con Tryz.prog 120 [.agg [.i .i64 x,.s d]] [] (.b (nxB x d)) []:=by
 unfold nxB
 cases h0:wq x 1 1099511627776 with
 | true=>
   exact con_d (inx0_vq (w:=wq) (x:=x) (d:=d) (h0:=h0)) (by repeat' first | exact trivial | assumption | exact rfl | exact nT (by assumption) | exact nF (by assumption) | exact wi_con _ _ _ | apply And.intro | decide)
 | false=>
   exact con_d (inx1_vq (w:=wq) (x:=x) (d:=d) (h0:=h0)) (by repeat' first | exact trivial | assumption | exact rfl | exact nT (by assumption) | exact nF (by assumption) | exact wi_con _ _ _ | apply And.intro | decide)
theorem fl10_vq (c:CS) (rd:Bool) (s:SS) (m:Bool) (h0:rd=true):VD Tryz.prog 66 [.p 0 0,.b m] (oR c rd s) (.c (.t .z)) (.i .i64 13) [.keep,.keep] [] 2 (fun Lf=>True/\True/\True/\rd=true/\Lf):=by unfold VD VQ;kernel_rfl
theorem fl1_con (c:CS) (rd:Bool) (s:SS) (m:Bool) (h0:rd=true):Con Tryz.prog 66 [.p 0 0,.b m] (oR c rd s) (.i .i64 13) [.keep,.keep]:=by
 exact con_d (fl10_vq (c:=c) (rd:=rd) (s:=s) (m:=m) (h0:=h0)) (by repeat' first | exact trivial | assumption | exact rfl | exact nT (by assumption) | exact nF (by assumption) | apply And.intro | decide)
theorem fl20_vq (c:CS) (rd:Bool) (s:SS) (m:Bool) (h0:rd=false) (h1:m=true):VD Tryz.prog 66 [.p 0 0,.b m] (oR c rd s) (.c (.f (.f .z))) (.i .i64 0) [.keep,.keep] [] 2 (fun Lf=>True/\True/\True/\rd=false/\True/\(!m)=false/\Lf):=by unfold VD VQ;kernel_rfl
theorem fl2_con (c:CS) (rd:Bool) (s:SS) (m:Bool) (h0:rd=false) (h1:m=true):Con Tryz.prog 66 [.p 0 0,.b m] (oR c rd s) (.i .i64 0) [.keep,.keep]:=by
 exact con_d (fl20_vq (c:=c) (rd:=rd) (s:=s) (m:=m) (h0:=h0) (h1:=h1)) (by repeat' first | exact trivial | assumption | exact rfl | exact nT (by assumption) | exact nF (by assumption) | apply And.intro | decide)
theorem fl30_vq (c:CS) (rd:Bool) (s:SS) (m:Bool) (h0:rd=false) (h1:m=false):VD Tryz.prog 66 [.p 0 0,.b m] (oR c rd s) (.c (.f (.t .z))) (.i .i64 2) [.keep,.keep] [] 2 (fun Lf=>True/\True/\True/\rd=false/\True/\(!m)=true/\Lf):=by unfold VD VQ;kernel_rfl
theorem fl3_con (c:CS) (rd:Bool) (s:SS) (m:Bool) (h0:rd=false) (h1:m=false):Con Tryz.prog 66 [.p 0 0,.b m] (oR c rd s) (.i .i64 2) [.keep,.keep]:=by
 exact con_d (fl30_vq (c:=c) (rd:=rd) (s:=s) (m:=m) (h0:=h0) (h1:=h1)) (by repeat' first | exact trivial | assumption | exact rfl | exact nT (by assumption) | exact nF (by assumption) | apply And.intro | decide)
theorem flt_con (c:CS) (rd:Bool) (s:SS) (m:Bool):Con Tryz.prog 66 [.p 0 0,.b m] (oR c rd s) (.i .i64 (flE rd m)) [.keep,.keep]:=by
 cases rd with
 | true=>exact fl1_con c true s m rfl
 | false=>
   cases m with
   | true=>exact fl2_con c false s true rfl rfl
   | false=>exact fl3_con c false s false rfl rfl
end Go.Proofs.Cl
