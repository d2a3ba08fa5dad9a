/- Runs over unknown values, told by the kernel: part GD. -/
import Derived.Test.YtjhcbjncdbmhoaaGC
set_option linter.unusedSimpArgs false
set_option linter.unusedVariables false
set_option maxRecDepth 20000
namespace Go.Proofs.Ly
open Go Go.Sim Go.Proofs Go.Proofs.Cl Go.Proofs.Ytjhcbjncdbmhoaa
theorem nnT {b:Bool} (h:b=true):(!!b)=true:=by rw [h];rfl
theorem nnF {b:Bool} (h:b=false):(!!b)=false:=by rw [h];rfl
noncomputable def eF (A:Nat->List Nat) (N:Nat->Int) (i j:Nat):CV:=Nat.rec (.s (A i)) (fun _ _=>.i .i64 (N i)) j
theorem ls_tri:∀x y:List Nat,natsLess y x=!(natsLess x y || natsEq x y)
 | [],[]=>rfl
 | [],_ :: _=>rfl
 | _ :: _,[]=>rfl
 | a :: x,b :: y=>by
   have h:=ls_tri x y
   show (match Nat.blt b a with | true=>true | false=>match Nat.beq b a with | true=>natsLess y x | false=>false)=!((match Nat.blt a b with | true=>true | false=>match Nat.beq a b with | true=>natsLess x y | false=>false) || (match Nat.beq a b with | true=>natsEq x y | false=>false))
   rcases Nat.lt_trichotomy a b with q | rfl | q
   · rw [show Nat.blt a b=true by rw [Nat.blt_eq];exact q,show Nat.blt b a=false by rw [Bool.eq_false_iff,ne_eq,Nat.blt_eq];omega,show Nat.beq b a=false by rw [Bool.eq_false_iff,ne_eq,Nat.beq_eq];omega];rfl
   · rw [show Nat.blt a a=false by rw [Bool.eq_false_iff,ne_eq,Nat.blt_eq];omega,show Nat.beq a a=true by rw [Nat.beq_eq]];exact h
   · rw [show Nat.blt b a=true by rw [Nat.blt_eq];exact q,show Nat.blt a b=false by rw [Bool.eq_false_iff,ne_eq,Nat.blt_eq];omega,show Nat.beq a b=false by rw [Bool.eq_false_iff,ne_eq,Nat.beq_eq];omega];rfl
def lstA (A:Nat->List Nat):Nat->List Nat
 | 0=>[]
 | i+1=>A i
noncomputable def leB (x y:List Nat):Bool:=natsLess x y || natsEq x y
noncomputable def pE (A:Nat->List Nat) (N:Nat->Int) (i:Nat):Bool:=nmB (A i) && (iiB (N i) && !leB (A i) (lstA A i))
noncomputable def enB (n:Nat) (A:Nat->List Nat) (N:Nat->Int):Bool:=decide (Int.ofNat n<=8) && alB (pE A N) n
def LenA (n:Nat) (A:Nat->List Nat):Prop:=∀i,i<n->(A i).length<=281474976710656
theorem nm_ne {t:List Nat} (h:nmB t=true):t≠[]:=by
 rintro rfl
 unfold nmB wi at h
 simp at h
theorem nm_le {t:List Nat} (h:nmB t=true):t.length<=6:=by
 unfold nmB wi at h
 simp only [Bool.and_eq_true,decide_eq_true_eq] at h
 have:=h.1.2
 simp at this;omega
theorem le_nil {t:List Nat} (h:nmB t=true):leB t []=false:=by
 cases t with
 | nil=>exact absurd rfl (nm_ne h)
 | cons a t=>rfl
theorem natI (i:Nat):Int.toNat (Int.ofNat (i+1)-1)=i:=by simp
theorem n8 {n:Nat} (h:decide ((8:Int)<Int.ofNat n)=false):n<=8:=by
 have:=of_decide_eq_false h
 simp at this;omega
noncomputable def sqB (A:Nat->List Nat) (N:Nat->Int) (B:Nat->List Nat) (M:Nat->Int) (i:Nat):Bool:=natsEq (A i) (B i) && (decide (N i=M i) && true)
noncomputable def smB (n:Nat) (A:Nat->List Nat) (N:Nat->Int) (m:Nat) (B:Nat->List Nat) (M:Nat->Int):Bool:=decide (Int.ofNat n=Int.ofNat m) && alB (sqB A N B M) n
theorem eR_lq (nm:List Nat->Bool) (ii:Int->Bool) (n i:Nat) (A:Nat->List Nat) (N:Nat->Int) (la:List Nat) (h0:decide (Int.ofNat i<Int.ofNat n)=true) (h1 :
 nm (A i)=true) (h2:ii (N i)=true) (h3:(natsLess (A i) la || natsEq (A i) la)=false):LD Try.prog (loopAt Try.prog 44 0) 34 0 [(3,.s la),(9,.sv 2 n (eF A N)),
 (10,.i .i64 (Int.ofNat n)),(11,.i .i64 (Int.ofNat i))] [] (Orc.t (Orc.cal [] (.b (nm (A i))) [] (Orc.t (Orc.t (Orc.t (Orc.cal [] (.b (ii (N i))) [] (Orc.t (Orc.f (Orc.t
 (Orc.t (Orc.t (Orc.t (Orc.f (Orc.f Orc.z)))))))))))))) .nrm [] [(3,.s (A i)),(9,.sv 2 n (eF A N)),(10,.i .i64 (Int.ofNat n)),(11,.i .i64 (Int.ofNat i+1))] [] 1 (fun
 Lf=>decide (Int.ofNat i<Int.ofNat n)=true/\(0<=Int.ofNat i/\Int.ofNat i<↑n)/\True/\True/\Con Try.prog 21 [.s (A i)] [] (.b (nm (A i))) []/\True/\(!!nm (A i))
 =true/\True/\(!!nm (A i))=true/\(!!nm (A i))=true/\Con Try.prog 76 [.i .i64 (N i)] [] (.b (ii (N i))) []/\(!!nm (A i))=true/\True/\(!nm (A i))=false/\(!!ii
 (N i))=true/\True/\(!!ii (N i))=true/\(!!ii (N i))=true/\(!!ii (N i))=true/\(!ii (N i))=false/\(natsLess (A i) la || natsEq (A i) la)=false/\True/\rg
 (Int.ofNat i+1)/\Lf):=by unfold LD LQ;kernel_rfl
theorem eX1_lq (nm:List Nat->Bool) (n i:Nat) (A:Nat->List Nat) (N:Nat->Int) (la:List Nat) (h0:decide (Int.ofNat i<Int.ofNat n)=true) (h1:nm (A i)=false)
 :LD Try.prog (loopAt Try.prog 44 0) 34 0 [(3,.s la),(9,.sv 2 n (eF A N)),(10,.i .i64 (Int.ofNat n)),(11,.i .i64 (Int.ofNat i))] [] (Orc.t (Orc.cal [] (.b (nm (A i)))
 [] (Orc.f (Orc.f (Orc.f (Orc.f (Orc.t (oc 6 Orc.z)))))))) .ret [] [(2,.b false)] [] 1 (fun Lf=>decide (Int.ofNat i<Int.ofNat n)=true/\(0<=Int.ofNat i/\Int.ofNat i <
 ↑n)/\True/\True/\Con Try.prog 21 [.s (A i)] [] (.b (nm (A i))) []/\True/\(!!nm (A i))=false/\(!!nm (A i))=false/\(!!nm (A i))=false/\(!!nm (A i))=false/\(!nm
 (A i))=true/\Lf):=by unfold LD LQ;kernel_rfl
theorem eX2_lq (nm:List Nat->Bool) (ii:Int->Bool) (n i:Nat) (A:Nat->List Nat) (N:Nat->Int) (la:List Nat) (h0:decide (Int.ofNat i<Int.ofNat n)=true) (h1 :
 nm (A i)=true) (h2:ii (N i)=false):LD Try.prog (loopAt Try.prog 44 0) 34 0 [(3,.s la),(9,.sv 2 n (eF A N)),(10,.i .i64 (Int.ofNat n)),(11,.i .i64 (Int.ofNat
 i))] [] (Orc.t (Orc.cal [] (.b (nm (A i))) [] (Orc.t (Orc.t (Orc.t (Orc.cal [] (.b (ii (N i))) [] (Orc.t (Orc.f (Orc.f (Orc.f (Orc.f (Orc.f (Orc.t (Orc.c Orc.z))))))))))))))
 .ret [] [(2,.b false)] [] 1 (fun Lf=>decide (Int.ofNat i<Int.ofNat n)=true/\(0<=Int.ofNat i/\Int.ofNat i<↑n)/\True/\True/\Con Try.prog 21 [.s (A i)] [] (.b (nm
 (A i))) []/\True/\(!!nm (A i))=true/\True/\(!!nm (A i))=true/\(!!nm (A i))=true/\Con Try.prog 76 [.i .i64 (N i)] [] (.b (ii (N i))) []/\(!!nm (A i))=true/\
 True/\(!nm (A i))=false/\(!!ii (N i))=false/\(!!ii (N i))=false/\(!!ii (N i))=false/\(!!ii (N i))=false/\(!ii (N i))=true/\Lf)
 :=by unfold LD LQ;kernel_rfl
theorem eX3_lq (nm:List Nat->Bool) (ii:Int->Bool) (n i:Nat) (A:Nat->List Nat) (N:Nat->Int) (la:List Nat) (h0:decide (Int.ofNat i<Int.ofNat n)=true) (h1 :
 nm (A i)=true) (h2:ii (N i)=true) (h3:(natsLess (A i) la || natsEq (A i) la)=true):LD Try.prog (loopAt Try.prog 44 0) 34 0 [(3,.s la),(9,.sv 2 n (eF A N)),
 (10,.i .i64 (Int.ofNat n)),(11,.i .i64 (Int.ofNat i))] [] (Orc.t (Orc.cal [] (.b (nm (A i))) [] (Orc.t (Orc.t (Orc.t (Orc.cal [] (.b (ii (N i))) [] (Orc.t (Orc.f (Orc.t
 (Orc.t (Orc.t (Orc.t (Orc.f (Orc.t Orc.z)))))))))))))) .ret [] [(2,.b false)] [] 1 (fun Lf=>decide (Int.ofNat i<Int.ofNat n)=true/\(0<=Int.ofNat i/\Int.ofNat i <
 ↑n)/\True/\True/\Con Try.prog 21 [.s (A i)] [] (.b (nm (A i))) []/\True/\(!!nm (A i))=true/\True/\(!!nm (A i))=true/\(!!nm (A i))=true/\Con Try.prog 76 [.i
 .i64 (N i)] [] (.b (ii (N i))) []/\(!!nm (A i))=true/\True/\(!nm (A i))=false/\(!!ii (N i))=true/\True/\(!!ii (N i))=true/\(!!ii (N i))=true/\(!!ii (N i)) =
 true/\(!ii (N i))=false/\(natsLess (A i) la || natsEq (A i) la)=true/\Lf):=by unfold LD LQ;kernel_rfl
theorem eE_lq (n i:Nat) (A:Nat->List Nat) (N:Nat->Int) (la:List Nat) (h0:decide (Int.ofNat i<Int.ofNat n)=false):LD Try.prog (loopAt Try.prog 44 0) 34 0 [(3,
 .s la),(9,.sv 2 n (eF A N)),(10,.i .i64 (Int.ofNat n)),(11,.i .i64 (Int.ofNat i))] [] (Orc.f Orc.z) (.exit 0) [] [] [] 0 (fun Lf=>decide (Int.ofNat i<Int.ofNat n) =
 false/\Lf):=by unfold LD LQ;kernel_rfl
theorem fR0_lq (nm:List Nat->Bool) (n i:Nat) (A:Nat->List Nat) (N:Nat->Int) (h0:decide (Int.ofNat i<Int.ofNat n)=true) (h1:nm (A i)=true) (h2:decide (N i
 <0)=false) (h3:decide (16<=N i)=false) (h4:decide (0<Int.ofNat i)=false):LD Try.prog (loopAt Try.prog 48 0) 54 0 [(0,.sv 2 n (eF A N)),(3,.i .i64
 (Int.ofNat i))] [] (Orc.t (Orc.cal [] (.b (nm (A i))) [] (Orc.t (Orc.t (Orc.t (Orc.t (Orc.t (Orc.t (Orc.f (Orc.t (Orc.t (Orc.t (Orc.t (Orc.t (Orc.t (Orc.f (Orc.t (Orc.t
 (Orc.t (Orc.f (Orc.f (Orc.f (Orc.f (Orc.f (Orc.f (Orc.f (Orc.f (Orc.f (Orc.f (Orc.f (Orc.f (Orc.t (Orc.f (Orc.f (Orc.c Orc.z))))))))))))))))))))))))))))))))))) .nrm [] [(0,
 .sv 2 n (eF A N)),(3,.i .i64 (Int.ofNat i+1))] [] 0 (fun Lf=>decide (Int.ofNat i<Int.ofNat n)=true/\(0<=Int.ofNat i/\Int.ofNat i<↑n)/\True/\True/\Con
 Try.prog 22 [.s (A i)] [] (.b (nm (A i))) []/\True/\(!!nm (A i))=true/\(!!nm (A i))=true/\(!!nm (A i))=true/\(0<=Int.ofNat i/\Int.ofNat i<↑n)/\(!!nm (A i)) =
 true/\True/\(!!nm (A i))=true/\True/\(!!nm (A i))=true/\(!nm (A i))=false/\(!decide (N i<0))=true/\(!decide (N i<0))=true/\(!decide (N i<0))=true/\
 (0<=Int.ofNat i/\Int.ofNat i<↑n)/\(!decide (N i<0))=true/\True/\(!decide (N i<0))=true/\True/\(!decide (N i<0))=true/\decide (N i<0)=false/\
 (!decide (16<=N i))=true/\(!decide (16<=N i))=true/\(!decide (16<=N i))=true/\decide (0<Int.ofNat i)=false/\decide (0<Int.ofNat i)=false/\decide (0 <
 Int.ofNat i)=false/\decide (0<Int.ofNat i)=false/\decide (0<Int.ofNat i)=false/\decide (0<Int.ofNat i)=false/\decide (0<Int.ofNat i)=false/\decide (0 <
 Int.ofNat i)=false/\decide (0<Int.ofNat i)=false/\decide (0<Int.ofNat i)=false/\decide (0<Int.ofNat i)=false/\decide (0<Int.ofNat i)=false/\(!decide
 (16<=N i))=true/\decide (0<Int.ofNat i)=false/\decide (16<=N i)=false/\rg (Int.ofNat i+1)/\Lf):=by unfold LD LQ;kernel_rfl
theorem fR1_lq (nm:List Nat->Bool) (n i:Nat) (A:Nat->List Nat) (N:Nat->Int) (h0:decide (Int.ofNat i<Int.ofNat n)=true) (h1:nm (A i)=true) (h2:decide (N i
 <0)=false) (h3:decide (16<=N i)=false) (h4:decide (0<Int.ofNat i)=true) (h5:natsLess (A (Int.toNat (Int.ofNat i-1))) (A i)=true):LD Try.prog (loopAt
 Try.prog 48 0) 54 0 [(0,.sv 2 n (eF A N)),(3,.i .i64 (Int.ofNat i))] [] (Orc.t (Orc.cal [] (.b (nm (A i))) [] (Orc.t (Orc.t (Orc.t (Orc.t (Orc.t (Orc.t (Orc.f (Orc.t
 (Orc.t (Orc.t (Orc.t (Orc.t (Orc.t (Orc.f (Orc.t (Orc.t (Orc.t (Orc.t (Orc.t (Orc.t (Orc.t (Orc.t (Orc.t (Orc.t (Orc.t (Orc.t (Orc.t (Orc.t (Orc.t (Orc.t (Orc.t (Orc.f (Orc.f
 Orc.z))))))))))))))))))))))))))))))))))) .nrm [] [(0,.sv 2 n (eF A N)),(3,.i .i64 (Int.ofNat i+1))] [] 0 (fun Lf=>decide (Int.ofNat i<Int.ofNat n)=true/\(0<=
 Int.ofNat i/\Int.ofNat i<↑n)/\True/\True/\Con Try.prog 22 [.s (A i)] [] (.b (nm (A i))) []/\True/\(!!nm (A i))=true/\(!!nm (A i))=true/\(!!nm (A i))=true/\(0
 <=Int.ofNat i/\Int.ofNat i<↑n)/\(!!nm (A i))=true/\True/\(!!nm (A i))=true/\True/\(!!nm (A i))=true/\(!nm (A i))=false/\(!decide (N i<0))=true/\
 (!decide (N i<0))=true/\(!decide (N i<0))=true/\(0<=Int.ofNat i/\Int.ofNat i<↑n)/\(!decide (N i<0))=true/\True/\(!decide (N i<0))=true/\True/\
 (!decide (N i<0))=true/\decide (N i<0)=false/\(!decide (16<=N i))=true/\(!decide (16<=N i))=true/\(!decide (16<=N i))=true/\decide (0<Int.ofNat i) =
 true/\decide (0<Int.ofNat i)=true/\decide (0<Int.ofNat i)=true/\rg (Int.ofNat i-1)/\decide (0<Int.ofNat i)=true/\(0<=Int.ofNat i-1/\Int.ofNat i-(1 :
 Int)<↑n)/\decide (0<Int.ofNat i)=true/\True/\decide (0<Int.ofNat i)=true/\True/\decide (0<Int.ofNat i)=true/\decide (0<Int.ofNat i)=true/\decide (0 <
 Int.ofNat i)=true/\(0<=Int.ofNat i/\Int.ofNat i<↑n)/\decide (0<Int.ofNat i)=true/\True/\decide (0<Int.ofNat i)=true/\True/\decide (0<Int.ofNat i)=true
 /\(!decide (16<=N i))=true/\decide (0<Int.ofNat i)=true/\decide (16<=N i)=false/\(!natsLess (A (Int.toNat (Int.ofNat i-1))) (A i))=false/\rg (Int.ofNat i +
 1)/\Lf):=by unfold LD LQ;kernel_rfl
theorem fX1_lq (nm:List Nat->Bool) (n i:Nat) (A:Nat->List Nat) (N:Nat->Int) (h0:decide (Int.ofNat i<Int.ofNat n)=true) (h1:nm (A i)=false):LD Try.prog
 (loopAt Try.prog 48 0) 54 0 [(0,.sv 2 n (eF A N)),(3,.i .i64 (Int.ofNat i))] [] (Orc.t (Orc.cal [] (.b (nm (A i))) [] (Orc.f (Orc.f (Orc.f (Orc.f (Orc.f (Orc.f (Orc.t (oc
 13 Orc.z)))))))))) .ret [] [(2,.b false)] [] 0 (fun Lf=>decide (Int.ofNat i<Int.ofNat n)=true/\(0<=Int.ofNat i/\Int.ofNat i<↑n)/\True/\True/\Con Try.prog 22
 [.s (A i)] [] (.b (nm (A i))) []/\True/\(!!nm (A i))=false/\(!!nm (A i))=false/\(!!nm (A i))=false/\(!!nm (A i))=false/\(!!nm (A i))=false/\(!!nm (A i)) =
 false/\(!nm (A i))=true/\Lf):=by unfold LD LQ;kernel_rfl
theorem fX2_lq (nm:List Nat->Bool) (n i:Nat) (A:Nat->List Nat) (N:Nat->Int) (h0:decide (Int.ofNat i<Int.ofNat n)=true) (h1:nm (A i)=true) (h2:decide (N i
 <0)=true):LD Try.prog (loopAt Try.prog 48 0) 54 0 [(0,.sv 2 n (eF A N)),(3,.i .i64 (Int.ofNat i))] [] (Orc.t (Orc.cal [] (.b (nm (A i))) [] (Orc.t (Orc.t (Orc.t
 (Orc.t (Orc.t (Orc.t (Orc.f (Orc.f (Orc.f (Orc.f (Orc.f (Orc.f (Orc.f (Orc.t (oc 6 Orc.z))))))))))))))))) .ret [] [(2,.b false)] [] 0 (fun Lf=>decide (Int.ofNat i <
 Int.ofNat n)=true/\(0<=Int.ofNat i/\Int.ofNat i<↑n)/\True/\True/\Con Try.prog 22 [.s (A i)] [] (.b (nm (A i))) []/\True/\(!!nm (A i))=true/\(!!nm (A i))=true
 /\(!!nm (A i))=true/\(0<=Int.ofNat i/\Int.ofNat i<↑n)/\(!!nm (A i))=true/\True/\(!!nm (A i))=true/\True/\(!!nm (A i))=true/\(!nm (A i))=false/\(!decide
 (N i<0))=false/\(!decide (N i<0))=false/\(!decide (N i<0))=false/\(!decide (N i<0))=false/\(!decide (N i<0))=false/\(!decide (N i<0))=false/\
 decide (N i<0)=true/\Lf):=by unfold LD LQ;kernel_rfl
theorem fX3_lq (nm:List Nat->Bool) (n i:Nat) (A:Nat->List Nat) (N:Nat->Int) (h0:decide (Int.ofNat i<Int.ofNat n)=true) (h1:nm (A i)=true) (h2:decide (N i
 <0)=false) (h3:decide (16<=N i)=true):LD Try.prog (loopAt Try.prog 48 0) 54 0 [(0,.sv 2 n (eF A N)),(3,.i .i64 (Int.ofNat i))] [] (Orc.t (Orc.cal [] (.b (nm (A
 i))) [] (Orc.t (Orc.t (Orc.t (Orc.t (Orc.t (Orc.t (Orc.f (Orc.t (Orc.t (Orc.t (Orc.t (Orc.t (Orc.t (Orc.f (Orc.f (Orc.f (Orc.f (Orc.f (Orc.t (Orc.c
 Orc.z)))))))))))))))))))))) .ret [] [(2,.b false)] [] 0 (fun Lf=>decide (Int.ofNat i<Int.ofNat n)=true/\(0<=Int.ofNat i/\Int.ofNat i<↑n)/\True/\True/\Con
 Try.prog 22 [.s (A i)] [] (.b (nm (A i))) []/\True/\(!!nm (A i))=true/\(!!nm (A i))=true/\(!!nm (A i))=true/\(0<=Int.ofNat i/\Int.ofNat i<↑n)/\(!!nm (A i)) =
 true/\True/\(!!nm (A i))=true/\True/\(!!nm (A i))=true/\(!nm (A i))=false/\(!decide (N i<0))=true/\(!decide (N i<0))=true/\(!decide (N i<0))=true/\
 (0<=Int.ofNat i/\Int.ofNat i<↑n)/\(!decide (N i<0))=true/\True/\(!decide (N i<0))=true/\True/\(!decide (N i<0))=true/\decide (N i<0)=false/\
 (!decide (16<=N i))=false/\(!decide (16<=N i))=false/\(!decide (16<=N i))=false/\(!decide (16<=N i))=false/\decide (16<=N i)=true/\Lf)
 :=by unfold LD LQ;kernel_rfl
theorem fX4_lq (nm:List Nat->Bool) (n i:Nat) (A:Nat->List Nat) (N:Nat->Int) (h0:decide (Int.ofNat i<Int.ofNat n)=true) (h1:nm (A i)=true) (h2:decide (N i
 <0)=false) (h3:decide (16<=N i)=false) (h4:decide (0<Int.ofNat i)=true) (h5:natsLess (A (Int.toNat (Int.ofNat i-1))) (A i)=false):LD Try.prog (loopAt
 Try.prog 48 0) 54 0 [(0,.sv 2 n (eF A N)),(3,.i .i64 (Int.ofNat i))] [] (Orc.t (Orc.cal [] (.b (nm (A i))) [] (Orc.t (Orc.t (Orc.t (Orc.t (Orc.t (Orc.t (Orc.f (Orc.t
 (Orc.t (Orc.t (Orc.t (Orc.t (Orc.t (Orc.f (Orc.t (Orc.t (Orc.t (Orc.t (Orc.t (Orc.t (Orc.t (Orc.t (Orc.t (Orc.t (Orc.t (Orc.t (Orc.t (Orc.t (Orc.t (Orc.t (Orc.t (Orc.f (Orc.t
 Orc.z))))))))))))))))))))))))))))))))))) .ret [] [(2,.b false)] [] 0 (fun Lf=>decide (Int.ofNat i<Int.ofNat n)=true/\(0<=Int.ofNat i/\Int.ofNat i<↑n)/\True/\
 True/\Con Try.prog 22 [.s (A i)] [] (.b (nm (A i))) []/\True/\(!!nm (A i))=true/\(!!nm (A i))=true/\(!!nm (A i))=true/\(0<=Int.ofNat i/\Int.ofNat i<↑n)/\
 (!!nm (A i))=true/\True/\(!!nm (A i))=true/\True/\(!!nm (A i))=true/\(!nm (A i))=false/\(!decide (N i<0))=true/\(!decide (N i<0))=true/\(!decide (N i
 <0))=true/\(0<=Int.ofNat i/\Int.ofNat i<↑n)/\(!decide (N i<0))=true/\True/\(!decide (N i<0))=true/\True/\(!decide (N i<0))=true/\decide (N i<0) =
 false/\(!decide (16<=N i))=true/\(!decide (16<=N i))=true/\(!decide (16<=N i))=true/\decide (0<Int.ofNat i)=true/\decide (0<Int.ofNat i)=true/\decide
 (0<Int.ofNat i)=true/\rg (Int.ofNat i-1)/\decide (0<Int.ofNat i)=true/\(0<=Int.ofNat i-1/\Int.ofNat i-(1:Int)<↑n)/\decide (0<Int.ofNat i)=true/\
 True/\decide (0<Int.ofNat i)=true/\True/\decide (0<Int.ofNat i)=true/\decide (0<Int.ofNat i)=true/\decide (0<Int.ofNat i)=true/\(0<=Int.ofNat i/\
 Int.ofNat i<↑n)/\decide (0<Int.ofNat i)=true/\True/\decide (0<Int.ofNat i)=true/\True/\decide (0<Int.ofNat i)=true/\(!decide (16<=N i))=true/\decide
 (0<Int.ofNat i)=true/\decide (16<=N i)=false/\(!natsLess (A (Int.toNat (Int.ofNat i-1))) (A i))=true/\Lf):=by unfold LD LQ;kernel_rfl
theorem fE_lq (n i:Nat) (A:Nat->List Nat) (N:Nat->Int) (h0:decide (Int.ofNat i<Int.ofNat n)=false):LD Try.prog (loopAt Try.prog 48 0) 54 0 [(0,.sv 2 n (eF A
 N)),(3,.i .i64 (Int.ofNat i))] [] (Orc.f Orc.z) (.exit 0) [] [(0,.sv 2 n (eF A N))] [] 0 (fun Lf=>decide (Int.ofNat i<Int.ofNat n)=false/\Lf)
 :=by unfold LD LQ;kernel_rfl
theorem eR_li (n i:Nat) (A:Nat->List Nat) (N:Nat->Int) (hA:LenA n A) (hi:i<n) (hp:pE A N i=true) (ri:rg (Int.ofNat i+1)):LI Try.prog (loopAt Try.prog 44 0) 34 0 [(3,.s (lstA A i)),(9,.sv 2 n (eF A N)),(10,.i .i64 (Int.ofNat n)),(11,.i .i64 (Int.ofNat i))] [] .nrm [(3,.s (A i)),(9,.sv 2 n (eF A N)),(10,.i .i64 (Int.ofNat n)),(11,.i .i64 (Int.ofNat i+1))] []:=by
 have h1:decide (Int.ofNat i<Int.ofNat n)=true:=decide_eq_true (by simp;omega)
 have bi:(0:Int)<=Int.ofNat i/\Int.ofNat i<(↑n:Int):=⟨by simp,by simp;omega⟩
 have c:=name_con (A i) (hA i hi)
 have c2:Con Try.prog 76 [.i .i64 (N i)] [] (.b (iiB (N i))) []:=c76_con _
 unfold pE at hp
 simp only [Bool.and_eq_true,Bool.not_eq_true'] at hp
 obtain ⟨p1,p2,p3⟩:=hp
 have p3:(natsLess (A i) (lstA A i) || natsEq (A i) (lstA A i))=false:=p3
 exact li_of (eR_lq nmB iiB n i A N (lstA A i) h1 p1 p2 p3) (by repeat' first | exact trivial | assumption | exact rfl | exact nT (by assumption) | exact nF (by assumption) | exact nnT (by assumption) | exact nnF (by assumption) | apply And.intro | decide)
theorem eX_li (n i:Nat) (A:Nat->List Nat) (N:Nat->Int) (hA:LenA n A) (hi:i<n) (hp:pE A N i=false):LI Try.prog (loopAt Try.prog 44 0) 34 0 [(3,.s (lstA A i)),(9,.sv 2 n (eF A N)),(10,.i .i64 (Int.ofNat n)),(11,.i .i64 (Int.ofNat i))] [] .ret [(2,.b false)] []:=by
 have h1:decide (Int.ofNat i<Int.ofNat n)=true:=decide_eq_true (by simp;omega)
 have bi:(0:Int)<=Int.ofNat i/\Int.ofNat i<(↑n:Int):=⟨by simp,by simp;omega⟩
 have c:=name_con (A i) (hA i hi)
 have c2:Con Try.prog 76 [.i .i64 (N i)] [] (.b (iiB (N i))) []:=c76_con _
 unfold pE at hp
 cases p1:nmB (A i) with
 | false=>exact li_of (eX1_lq nmB n i A N (lstA A i) h1 p1) (by repeat' first | exact trivial | assumption | exact rfl | exact nT (by assumption) | exact nF (by assumption) | exact nnT (by assumption) | exact nnF (by assumption) | apply And.intro | decide)
 | true=>
   rw [p1,Bool.true_and] at hp
   cases p2:iiB (N i) with
   | false=>exact li_of (eX2_lq nmB iiB n i A N (lstA A i) h1 p1 p2) (by repeat' first | exact trivial | assumption | exact rfl | exact nT (by assumption) | exact nF (by assumption) | exact nnT (by assumption) | exact nnF (by assumption) | apply And.intro | decide)
   | true=>
     rw [p2,Bool.true_and,Bool.not_eq_false'] at hp
     have p3:(natsLess (A i) (lstA A i) || natsEq (A i) (lstA A i))=true:=hp
     exact li_of (eX3_lq nmB iiB n i A N (lstA A i) h1 p1 p2 p3) (by repeat' first | exact trivial | assumption | exact rfl | exact nT (by assumption) | exact nF (by assumption) | exact nnT (by assumption) | exact nnF (by assumption) | apply And.intro | decide)
theorem e_lp (n:Nat) (A:Nat->List Nat) (N:Nat->Int) (hA:LenA n A) (hn:n<=8) (h:alB (pE A N) n=true):LDoes Try.prog (loopAt Try.prog 44 0) 34 0 (mkT [(3,.s []),(9,.sv 2 n (eF A N)),(10,.i .i64 (Int.ofNat n)),(11,.i .i64 0)]) [] (.exit 0) (mkT []) []:=by
 refine loop_q (fun i:Nat=>([(3,.s (lstA A i)),(9,.sv 2 n (eF A N)),(10,.i .i64 (Int.ofNat n)),(11,.i .i64 (Int.ofNat i))],[])) (fun i=>n-i) (fun i=>i<=n) (fun _=>Nat.le_refl _) ?_ 0 (Nat.zero_le _)
 intro i hi
 rcases Nat.lt_or_ge i n with hlt | q
 · exact ri_nrm (eR_li n i A N hA hlt (alB_t h i hlt) ⟨by simp<;>omega,by simp<;>omega⟩) (i+1) hlt (by show n-(i+1)<n-i;omega) rfl (.refl _) (.refl _)
 · obtain rfl:i=n:=Nat.le_antisymm hi q
   have h1:decide (Int.ofNat i<Int.ofNat i)=false:=decide_eq_false (by simp)
   exact rd_out (eE_lq i i A N (lstA A i) h1) (by repeat' first | exact trivial | assumption | exact rfl | exact nT (by assumption) | exact nF (by assumption) | exact nnT (by assumption) | exact nnF (by assumption) | apply And.intro | decide) rfl rfl (.refl _) (.refl _)
theorem eX_lp (n:Nat) (A:Nat->List Nat) (N:Nat->Int) (hA:LenA n A) (hn:n<=8) (h:alB (pE A N) n=false):LDoes Try.prog (loopAt Try.prog 44 0) 34 0 (mkT [(3,.s []),(9,.sv 2 n (eF A N)),(10,.i .i64 (Int.ofNat n)),(11,.i .i64 0)]) [] .ret (mkT [(2,.b false)]) []:=by
 obtain ⟨j,hj,hb,hg⟩:=alB_f h
 refine loop_q (fun i:Nat=>([(3,.s (lstA A i)),(9,.sv 2 n (eF A N)),(10,.i .i64 (Int.ofNat n)),(11,.i .i64 (Int.ofNat i))],[])) (fun i=>n-i) (fun i=>i<=j) (fun _=>Nat.le_refl _) ?_ 0 (Nat.zero_le _)
 intro i hi
 rcases Nat.lt_or_ge i j with q | q
 · exact ri_nrm (eR_li n i A N hA (by omega) (hg i q) ⟨by simp<;>omega,by simp<;>omega⟩) (i+1) q (by show n-(i+1)<n-i;omega) rfl (.refl _) (.refl _)
 · obtain rfl:i=j:=by omega
   exact ri_out (eX_li n i A N hA hj hb) rfl rfl (.refl _) (.refl _)
theorem ii_cases (c:Int):(decide (c<0)=false/\decide (16<=c)=false/\iiB c=true)\/(decide (c<0)=true/\iiB c=false)\/(decide (c<0)=false/\decide (16<=c)=true/\iiB c=false):=by
 unfold iiB wi
 rcases Int.lt_or_le c 0 with q | q
 · exact .inr (.inl ⟨decide_eq_true q,by rw [decide_eq_false (show ¬0<=c by omega)];rfl⟩)
 · have e:decide (c<0)=false:=decide_eq_false (by omega)
   rcases Int.lt_or_le c 16 with r | r
   · exact .inl ⟨e,decide_eq_false (by omega),by rw [decide_eq_true (show (0:Int)<=c by omega),decide_eq_true (show c<=15 by omega)];rfl⟩
   · exact .inr (.inr ⟨e,decide_eq_true r,by rw [decide_eq_true (show (0:Int)<=c by omega),decide_eq_false (show ¬c<=15 by omega)];rfl⟩)
theorem fR_li (n i:Nat) (A:Nat->List Nat) (N:Nat->Int) (hA:LenA n A) (hn:n<=281474976710656) (hi:i<n) (hp:pE A N i=true):LI Try.prog (loopAt Try.prog 48 0) 54 0 [(0,.sv 2 n (eF A N)),(3,.i .i64 (Int.ofNat i))] [] .nrm [(0,.sv 2 n (eF A N)),(3,.i .i64 (Int.ofNat i+1))] []:=by
 have h1:decide (Int.ofNat i<Int.ofNat n)=true:=decide_eq_true (by simp;omega)
 have bi:(0:Int)<=Int.ofNat i/\Int.ofNat i<(↑n:Int):=⟨by simp,by simp;omega⟩
 have ri:rg (Int.ofNat i+1):=⟨by simp<;>omega,by simp<;>omega⟩
 have c:=rname_con (A i) (hA i hi)
 unfold pE at hp
 simp only [Bool.and_eq_true,Bool.not_eq_true'] at hp
 obtain ⟨p1,p2,p3⟩:=hp
 rcases ii_cases (N i) with ⟨a,b,_⟩ | ⟨a,e⟩ | ⟨a,b,e⟩
 · cases i with
   | zero=>
     have d:decide ((0:Int)<Int.ofNat 0)=false:=by decide
     exact li_of (fR0_lq nmB n 0 A N h1 p1 a b d) (by repeat' first | exact trivial | assumption | exact rfl | exact nT (by assumption) | exact nF (by assumption) | exact nnT (by assumption) | exact nnF (by assumption) | apply And.intro | decide)
   | succ i=>
     have d:decide ((0:Int)<Int.ofNat (i+1))=true:=decide_eq_true (by simp<;>omega)
     have bj:(0:Int)<=Int.ofNat (i+1)-1/\Int.ofNat (i+1)-1<(↑n:Int):=⟨by simp<;>omega,by simp<;>omega⟩
     have rj:rg (Int.ofNat (i+1)-1):=⟨by simp<;>omega,by simp<;>omega⟩
     have f:natsLess (A (Int.toNat (Int.ofNat (i+1)-1))) (A (i+1))=true:=by
      rw [natI,ls_tri (A (i+1)) (A i)]
      have p3:(natsLess (A (i+1)) (A i) || natsEq (A (i+1)) (A i))=false:=p3
      rw [p3];rfl
     exact li_of (fR1_lq nmB n (i+1) A N h1 p1 a b d f) (by repeat' first | exact trivial | assumption | exact rfl | exact nT (by assumption) | exact nF (by assumption) | exact nnT (by assumption) | exact nnF (by assumption) | apply And.intro | decide)
 · rw [e] at p2;cases p2
 · rw [e] at p2;cases p2
theorem fX_li (n i:Nat) (A:Nat->List Nat) (N:Nat->Int) (hA:LenA n A) (hn:n<=281474976710656) (hi:i<n) (hp:pE A N i=false):LI Try.prog (loopAt Try.prog 48 0) 54 0 [(0,.sv 2 n (eF A N)),(3,.i .i64 (Int.ofNat i))] [] .ret [(2,.b false)] []:=by
 have h1:decide (Int.ofNat i<Int.ofNat n)=true:=decide_eq_true (by simp;omega)
 have bi:(0:Int)<=Int.ofNat i/\Int.ofNat i<(↑n:Int):=⟨by simp,by simp;omega⟩
 have c:=rname_con (A i) (hA i hi)
 unfold pE at hp
 cases p1:nmB (A i) with
 | false=>exact li_of (fX1_lq nmB n i A N h1 p1) (by repeat' first | exact trivial | assumption | exact rfl | exact nT (by assumption) | exact nF (by assumption) | exact nnT (by assumption) | exact nnF (by assumption) | apply And.intro | decide)
 | true=>
   rw [p1,Bool.true_and] at hp
   rcases ii_cases (N i) with ⟨a,b,e⟩ | ⟨a,e⟩ | ⟨a,b,e⟩
   · rw [e,Bool.true_and,Bool.not_eq_false'] at hp
     cases i with
     | zero=>rw [show lstA A 0=[] from rfl,le_nil p1] at hp;cases hp
     | succ i=>
       have d:decide ((0:Int)<Int.ofNat (i+1))=true:=decide_eq_true (by simp<;>omega)
       have bj:(0:Int)<=Int.ofNat (i+1)-1/\Int.ofNat (i+1)-1<(↑n:Int):=⟨by simp<;>omega,by simp<;>omega⟩
       have rj:rg (Int.ofNat (i+1)-1):=⟨by simp<;>omega,by simp<;>omega⟩
       have f:natsLess (A (Int.toNat (Int.ofNat (i+1)-1))) (A (i+1))=false:=by
        rw [natI,ls_tri (A (i+1)) (A i)]
        have p3:(natsLess (A (i+1)) (A i) || natsEq (A (i+1)) (A i))=true:=hp
        rw [p3];rfl
       exact li_of (fX4_lq nmB n (i+1) A N h1 p1 a b d f) (by repeat' first | exact trivial | assumption | exact rfl | exact nT (by assumption) | exact nF (by assumption) | exact nnT (by assumption) | exact nnF (by assumption) | apply And.intro | decide)
   · exact li_of (fX2_lq nmB n i A N h1 p1 a) (by repeat' first | exact trivial | assumption | exact rfl | exact nT (by assumption) | exact nF (by assumption) | exact nnT (by assumption) | exact nnF (by assumption) | apply And.intro | decide)
   · exact li_of (fX3_lq nmB n i A N h1 p1 a b) (by repeat' first | exact trivial | assumption | exact rfl | exact nT (by assumption) | exact nF (by assumption) | exact nnT (by assumption) | exact nnF (by assumption) | apply And.intro | decide)
theorem f_lp (n:Nat) (A:Nat->List Nat) (N:Nat->Int) (hA:LenA n A) (hn:n<=281474976710656) (h:alB (pE A N) n=true):LDoes Try.prog (loopAt Try.prog 48 0) 54 0 (mkT [(0,.sv 2 n (eF A N)),(3,.i .i64 0)]) [] (.exit 0) (mkT [(0,.sv 2 n (eF A N))]) []:=by
 refine loop_q (fun i:Nat=>([(0,.sv 2 n (eF A N)),(3,.i .i64 (Int.ofNat i))],[])) (fun i=>n-i) (fun i=>i<=n) (fun _=>Nat.le_refl _) ?_ 0 (Nat.zero_le _)
 intro i hi
 rcases Nat.lt_or_ge i n with hlt | q
 · exact ri_nrm (fR_li n i A N hA hn hlt (alB_t h i hlt)) (i+1) hlt (by show n-(i+1)<n-i;omega) rfl (.refl _) (.refl _)
 · obtain rfl:i=n:=Nat.le_antisymm hi q
   have h1:decide (Int.ofNat i<Int.ofNat i)=false:=decide_eq_false (by simp)
   exact rd_out (fE_lq i i A N h1) (by repeat' first | exact trivial | assumption | exact rfl | exact nT (by assumption) | exact nF (by assumption) | exact nnT (by assumption) | exact nnF (by assumption) | apply And.intro | decide) rfl rfl (.refl _) (.refl _)
theorem fX_lp (n:Nat) (A:Nat->List Nat) (N:Nat->Int) (hA:LenA n A) (hn:n<=281474976710656) (h:alB (pE A N) n=false):LDoes Try.prog (loopAt Try.prog 48 0) 54 0 (mkT [(0,.sv 2 n (eF A N)),(3,.i .i64 0)]) [] .ret (mkT [(2,.b false)]) []:=by
 obtain ⟨j,hj,hb,hg⟩:=alB_f h
 refine loop_q (fun i:Nat=>([(0,.sv 2 n (eF A N)),(3,.i .i64 (Int.ofNat i))],[])) (fun i=>n-i) (fun i=>i<=j) (fun _=>Nat.le_refl _) ?_ 0 (Nat.zero_le _)
 intro i hi
 rcases Nat.lt_or_ge i j with q | q
 · exact ri_nrm (fR_li n i A N hA hn (by omega) (hg i q)) (i+1) q (by show n-(i+1)<n-i;omega) rfl (.refl _) (.refl _)
 · obtain rfl:i=j:=by omega
   exact ri_out (fX_li n i A N hA hn hj hb) rfl rfl (.refl _) (.refl _)
theorem em00_vq (n:Nat) (A:Nat->List Nat) (N:Nat->Int) (h8:decide (8<Int.ofNat n)=true):VD Try.prog 44 [.sv 2 n (eF A N)] [] (Orc.t Orc.z) (.b false) [] [] 0
 (fun Lf=>decide (8<Int.ofNat n)=true/\Lf):=by unfold VD VQ;kernel_rfl
theorem em0_con (n:Nat) (A:Nat->List Nat) (N:Nat->Int) (h8:decide ((8:Int)<Int.ofNat n)=true):Con Try.prog 44 [.sv 2 n (eF A N)] [] (.b false) []:=by
 exact con_d (em00_vq (n:=n) (A:=A) (N:=N) (h8:=h8)) (by repeat' first | exact trivial | assumption | exact rfl | exact nT (by assumption) | exact nF (by assumption) | apply And.intro | decide)
theorem em10_vq (n:Nat) (A:Nat->List Nat) (N:Nat->Int) (h8:decide (8<Int.ofNat n)=false):VD Try.prog 44 [.sv 2 n (eF A N)] [] (Orc.f (Orc.lop [] [3,9,10,11]
 0 (XO.exit 0) [] [] Orc.z)) (.b true) [] [] 0 (fun Lf=>decide (8<Int.ofNat n)=false/\LDoes Try.prog (loopAt Try.prog 44 0) 34 0 (mkT [(3,.s []),(9,.sv 2 n (eF A
 N)),(10,.i .i64 (Int.ofNat n)),(11,.i .i64 0)]) [] (XO.exit 0) (mkT []) []/\Lf):=by unfold VD VQ;kernel_rfl
theorem em1_con (n:Nat) (A:Nat->List Nat) (N:Nat->Int) (h8:decide ((8:Int)<Int.ofNat n)=false) (hA:LenA n A) (ha:alB (pE A N) n=true):Con Try.prog 44 [.sv 2 n (eF A N)] [] (.b true) []:=by
 exact con_d (em10_vq (n:=n) (A:=A) (N:=N) (h8:=h8)) (by repeat' first | exact trivial | assumption | exact rfl | exact nT (by assumption) | exact nF (by assumption) | exact e_lp n A N hA (n8 (by assumption)) ha | apply And.intro | decide)
theorem em20_vq (n:Nat) (A:Nat->List Nat) (N:Nat->Int) (h8:decide (8<Int.ofNat n)=false):VD Try.prog 44 [.sv 2 n (eF A N)] [] (Orc.f (Orc.lop [] [3,9,10,11]
 0 XO.ret [(2,.b false)] [] Orc.z)) (.b false) [] [] 0 (fun Lf=>decide (8<Int.ofNat n)=false/\LDoes Try.prog (loopAt Try.prog 44 0) 34 0 (mkT [(3,.s []),(9,.sv 2 n
 (eF A N)),(10,.i .i64 (Int.ofNat n)),(11,.i .i64 0)]) [] XO.ret (mkT [(2,.b false)]) []/\Lf):=by unfold VD VQ;kernel_rfl
theorem em2_con (n:Nat) (A:Nat->List Nat) (N:Nat->Int) (h8:decide ((8:Int)<Int.ofNat n)=false) (hA:LenA n A) (ha:alB (pE A N) n=false):Con Try.prog 44 [.sv 2 n (eF A N)] [] (.b false) []:=by
 exact con_d (em20_vq (n:=n) (A:=A) (N:=N) (h8:=h8)) (by repeat' first | exact trivial | assumption | exact rfl | exact nT (by assumption) | exact nF (by assumption) | exact eX_lp n A N hA (n8 (by assumption)) ha | apply And.intro | decide)
theorem fm10_vq (n:Nat) (A:Nat->List Nat) (N:Nat->Int):VD Try.prog 48 [.sv 2 n (eF A N)] [] (Orc.lop [] [0,3] 0 (XO.exit 0) [(0,.sv 2 n (eF A N))] [] Orc.z) (.b
 (decide (Int.ofNat n<=8))) [] [] 0 (fun Lf=>LDoes Try.prog (loopAt Try.prog 48 0) 54 0 (mkT [(0,.sv 2 n (eF A N)),(3,.i .i64 0)]) [] (XO.exit 0) (mkT [(0,.sv 2 n (eF A
 N))]) []/\Lf):=by unfold VD VQ;kernel_rfl
theorem fm1_con (n:Nat) (A:Nat->List Nat) (N:Nat->Int) (hA:LenA n A) (hn:n<=281474976710656) (ha:alB (pE A N) n=true):Con Try.prog 48 [.sv 2 n (eF A N)] [] (.b (decide (Int.ofNat n<=8))) []:=by
 exact con_d (fm10_vq (n:=n) (A:=A) (N:=N)) (by repeat' first | exact trivial | assumption | exact rfl | exact nT (by assumption) | exact nF (by assumption) | exact f_lp n A N hA hn ha | apply And.intro | decide)
theorem fm20_vq (n:Nat) (A:Nat->List Nat) (N:Nat->Int):VD Try.prog 48 [.sv 2 n (eF A N)] [] (Orc.lop [] [0,3] 0 XO.ret [(2,.b false)] [] Orc.z) (.b false) [] [] 0
 (fun Lf=>LDoes Try.prog (loopAt Try.prog 48 0) 54 0 (mkT [(0,.sv 2 n (eF A N)),(3,.i .i64 0)]) [] XO.ret (mkT [(2,.b false)]) []/\Lf):=by unfold VD VQ;kernel_rfl
theorem fm2_con (n:Nat) (A:Nat->List Nat) (N:Nat->Int) (hA:LenA n A) (hn:n<=281474976710656) (ha:alB (pE A N) n=false):Con Try.prog 48 [.sv 2 n (eF A N)] [] (.b false) []:=by
 exact con_d (fm20_vq (n:=n) (A:=A) (N:=N)) (by repeat' first | exact trivial | assumption | exact rfl | exact nT (by assumption) | exact nF (by assumption) | exact fX_lp n A N hA hn ha | apply And.intro | decide)
theorem em_con (n:Nat) (A:Nat->List Nat) (N:Nat->Int) (hA:LenA n A):Con Try.prog 44 [.sv 2 n (eF A N)] [] (.b (enB n A N)) []:=by
 unfold enB
 cases h8:decide ((8:Int)<Int.ofNat n) with
 | true=>
   have:=of_decide_eq_true h8
   rw [decide_eq_false (show ¬Int.ofNat n<=8 by omega),Bool.false_and]
   exact em0_con n A N h8
 | false=>
   have:=of_decide_eq_false h8
   rw [decide_eq_true (show Int.ofNat n<=8 by omega),Bool.true_and]
   cases ha:alB (pE A N) n with
   | true=>exact em1_con n A N h8 hA ha
   | false=>exact em2_con n A N h8 hA ha
theorem rem_con (n:Nat) (A:Nat->List Nat) (N:Nat->Int) (hA:LenA n A) (hn:n<=281474976710656):Con Try.prog 48 [.sv 2 n (eF A N)] [] (.b (enB n A N)) []:=by
 unfold enB
 cases ha:alB (pE A N) n with
 | true=>rw [Bool.and_true];exact fm1_con n A N hA hn ha
 | false=>rw [Bool.and_false];exact fm2_con n A N hA hn ha
theorem sR_lq (n i m:Nat) (A B:Nat->List Nat) (N M:Nat->Int) (h0:decide (Int.ofNat i<Int.ofNat n)=true) (h1:(natsEq (A i) (B i) && (decide (N i=M i) && true))
 =true):LD Try.prog (loopAt Try.prog 25 0) 26 0 [(0,.sv 2 n (eF A N)),(1,.sv 2 m (eF B M)),(5,.i .i64 (Int.ofNat i))] [] (Orc.t (Orc.f Orc.z)) .nrm [] [(0,.sv 2 n (eF
 A N)),(1,.sv 2 m (eF B M)),(5,.i .i64 (Int.ofNat i+1))] [] 0 (fun Lf=>decide (Int.ofNat i<Int.ofNat n)=true/\(0<=Int.ofNat i/\Int.ofNat i<↑n)/\True/\(0<=
 Int.ofNat i/\Int.ofNat i<↑m)/\True/\True/\(!(natsEq (A i) (B i) && (decide (N i=M i) && true)))=false/\rg (Int.ofNat i+1)/\Lf):=by unfold LD LQ;kernel_rfl
theorem sX_lq (n i m:Nat) (A B:Nat->List Nat) (N M:Nat->Int) (h0:decide (Int.ofNat i<Int.ofNat n)=true) (h1:(natsEq (A i) (B i) && (decide (N i=M i) && true))
 =false):LD Try.prog (loopAt Try.prog 25 0) 26 0 [(0,.sv 2 n (eF A N)),(1,.sv 2 m (eF B M)),(5,.i .i64 (Int.ofNat i))] [] (Orc.t (Orc.t Orc.z)) .ret [] [(4,.b false)]
 [] 0 (fun Lf=>decide (Int.ofNat i<Int.ofNat n)=true/\(0<=Int.ofNat i/\Int.ofNat i<↑n)/\True/\(0<=Int.ofNat i/\Int.ofNat i<↑m)/\True/\True/\(!(natsEq (A i)
 (B i) && (decide (N i=M i) && true)))=true/\Lf):=by unfold LD LQ;kernel_rfl
theorem sE_lq (n i m:Nat) (A B:Nat->List Nat) (N M:Nat->Int) (h0:decide (Int.ofNat i<Int.ofNat n)=false):LD Try.prog (loopAt Try.prog 25 0) 26 0 [(0,.sv 2 n
 (eF A N)),(1,.sv 2 m (eF B M)),(5,.i .i64 (Int.ofNat i))] [] (Orc.f Orc.z) (.exit 0) [] [] [] 0 (fun Lf=>decide (Int.ofNat i<Int.ofNat n)=false/\Lf)
 :=by unfold LD LQ;kernel_rfl
theorem s_lp (n m:Nat) (A B:Nat->List Nat) (N M:Nat->Int) (hm:n<=m) (hn:n<=281474976710656) (h:alB (sqB A N B M) n=true):LDoes Try.prog (loopAt Try.prog 25 0) 26 0 (mkT [(0,.sv 2 n (eF A N)),(1,.sv 2 m (eF B M)),(5,.i .i64 0)]) [] (.exit 0) (mkT []) []:=by
 refine loop_q (fun i:Nat=>([(0,.sv 2 n (eF A N)),(1,.sv 2 m (eF B M)),(5,.i .i64 (Int.ofNat i))],[])) (fun i=>n-i) (fun i=>i<=n) (fun _=>Nat.le_refl _) ?_ 0 (Nat.zero_le _)
 intro i hi
 rcases Nat.lt_or_ge i n with hlt | q
 · have h1:decide (Int.ofNat i<Int.ofNat n)=true:=decide_eq_true (by simp;omega)
   have bi:(0:Int)<=Int.ofNat i/\Int.ofNat i<(↑n:Int):=⟨by simp,by simp;omega⟩
   have bj:(0:Int)<=Int.ofNat i/\Int.ofNat i<(↑m:Int):=⟨by simp,by simp;omega⟩
   have ri:rg (Int.ofNat i+1):=⟨by simp<;>omega,by simp<;>omega⟩
   have e:(natsEq (A i) (B i) && (decide (N i=M i) && true))=true:=alB_t h i hlt
   exact rd_nrm (sR_lq n i m A B N M h1 e) (by repeat' first | exact trivial | assumption | exact rfl | exact nT (by assumption) | exact nF (by assumption) | exact nnT (by assumption) | exact nnF (by assumption) | apply And.intro | decide) (i+1) hlt (by show n-(i+1)<n-i;omega) rfl (.refl _) (.refl _)
 · obtain rfl:i=n:=Nat.le_antisymm hi q
   have h1:decide (Int.ofNat i<Int.ofNat i)=false:=decide_eq_false (by simp)
   exact rd_out (sE_lq i i m A B N M h1) (by repeat' first | exact trivial | assumption | exact rfl | exact nT (by assumption) | exact nF (by assumption) | exact nnT (by assumption) | exact nnF (by assumption) | apply And.intro | decide) rfl rfl (.refl _) (.refl _)
theorem sX_lp (n m:Nat) (A B:Nat->List Nat) (N M:Nat->Int) (hm:n<=m) (hn:n<=281474976710656) (h:alB (sqB A N B M) n=false):LDoes Try.prog (loopAt Try.prog 25 0) 26 0 (mkT [(0,.sv 2 n (eF A N)),(1,.sv 2 m (eF B M)),(5,.i .i64 0)]) [] .ret (mkT [(4,.b false)]) []:=by
 obtain ⟨j,hj,hb,hg⟩:=alB_f h
 refine loop_q (fun i:Nat=>([(0,.sv 2 n (eF A N)),(1,.sv 2 m (eF B M)),(5,.i .i64 (Int.ofNat i))],[])) (fun i=>n-i) (fun i=>i<=j) (fun _=>Nat.le_refl _) ?_ 0 (Nat.zero_le _)
 intro i hi
 have h1:decide (Int.ofNat i<Int.ofNat n)=true:=decide_eq_true (by simp;omega)
 have bi:(0:Int)<=Int.ofNat i/\Int.ofNat i<(↑n:Int):=⟨by simp,by simp;omega⟩
 have bj:(0:Int)<=Int.ofNat i/\Int.ofNat i<(↑m:Int):=⟨by simp,by simp;omega⟩
 have ri:rg (Int.ofNat i+1):=⟨by simp<;>omega,by simp<;>omega⟩
 rcases Nat.lt_or_ge i j with q | q
 · have e:(natsEq (A i) (B i) && (decide (N i=M i) && true))=true:=hg i q
   exact rd_nrm (sR_lq n i m A B N M h1 e) (by repeat' first | exact trivial | assumption | exact rfl | exact nT (by assumption) | exact nF (by assumption) | exact nnT (by assumption) | exact nnF (by assumption) | apply And.intro | decide) (i+1) q (by show n-(i+1)<n-i;omega) rfl (.refl _) (.refl _)
 · obtain rfl:i=j:=by omega
   have e:(natsEq (A i) (B i) && (decide (N i=M i) && true))=false:=hb
   exact rd_out (sX_lq n i m A B N M h1 e) (by repeat' first | exact trivial | assumption | exact rfl | exact nT (by assumption) | exact nF (by assumption) | exact nnT (by assumption) | exact nnF (by assumption) | apply And.intro | decide) rfl rfl (.refl _) (.refl _)
theorem sa00_vq (n m:Nat) (A B:Nat->List Nat) (N M:Nat->Int) (h8:decide (Int.ofNat n=Int.ofNat m)=false):VD Try.prog 25 [.sv 2 n (eF A N),.sv 2 m (eF B M)] []
 (Orc.t Orc.z) (.b false) [] [] 0 (fun Lf=>(!decide (Int.ofNat n=Int.ofNat m))=true/\Lf):=by unfold VD VQ;kernel_rfl
theorem sa0_con (n m:Nat) (A B:Nat->List Nat) (N M:Nat->Int) (h8:decide (Int.ofNat n=Int.ofNat m)=false):Con Try.prog 25 [.sv 2 n (eF A N),.sv 2 m (eF B M)] [] (.b false) []:=by
 exact con_d (sa00_vq (n:=n) (m:=m) (A:=A) (B:=B) (N:=N) (M:=M) (h8:=h8)) (by repeat' first | exact trivial | assumption | exact rfl | exact nT (by assumption) | exact nF (by assumption) | apply And.intro | decide)
theorem sa10_vq (n m:Nat) (A B:Nat->List Nat) (N M:Nat->Int) (h8:decide (Int.ofNat n=Int.ofNat m)=true):VD Try.prog 25 [.sv 2 n (eF A N),.sv 2 m (eF B M)] []
 (Orc.f (Orc.lop [] [0,1,5] 0 (XO.exit 0) [] [] Orc.z)) (.b true) [] [] 0 (fun Lf=>(!decide (Int.ofNat n=Int.ofNat m))=false/\LDoes Try.prog (loopAt Try.prog 25 0) 26
 0 (mkT [(0,.sv 2 n (eF A N)),(1,.sv 2 m (eF B M)),(5,.i .i64 0)]) [] (XO.exit 0) (mkT []) []/\Lf):=by unfold VD VQ;kernel_rfl
theorem sa1_con (n m:Nat) (A B:Nat->List Nat) (N M:Nat->Int) (h8:decide (Int.ofNat n=Int.ofNat m)=true) (hm:n<=m) (hn:n<=281474976710656) (ha:alB (sqB A N B M) n=true):Con Try.prog 25 [.sv 2 n (eF A N),.sv 2 m (eF B M)] [] (.b true) []:=by
 exact con_d (sa10_vq (n:=n) (m:=m) (A:=A) (B:=B) (N:=N) (M:=M) (h8:=h8)) (by repeat' first | exact trivial | assumption | exact rfl | exact nT (by assumption) | exact nF (by assumption) | exact s_lp n m A B N M hm hn ha | apply And.intro | decide)
theorem sa20_vq (n m:Nat) (A B:Nat->List Nat) (N M:Nat->Int) (h8:decide (Int.ofNat n=Int.ofNat m)=true):VD Try.prog 25 [.sv 2 n (eF A N),.sv 2 m (eF B M)] []
 (Orc.f (Orc.lop [] [0,1,5] 0 XO.ret [(4,.b false)] [] Orc.z)) (.b false) [] [] 0 (fun Lf=>(!decide (Int.ofNat n=Int.ofNat m))=false/\LDoes Try.prog (loopAt Try.prog
 25 0) 26 0 (mkT [(0,.sv 2 n (eF A N)),(1,.sv 2 m (eF B M)),(5,.i .i64 0)]) [] XO.ret (mkT [(4,.b false)]) []/\Lf):=by unfold VD VQ;kernel_rfl
theorem sa2_con (n m:Nat) (A B:Nat->List Nat) (N M:Nat->Int) (h8:decide (Int.ofNat n=Int.ofNat m)=true) (hm:n<=m) (hn:n<=281474976710656) (ha:alB (sqB A N B M) n=false):Con Try.prog 25 [.sv 2 n (eF A N),.sv 2 m (eF B M)] [] (.b false) []:=by
 exact con_d (sa20_vq (n:=n) (m:=m) (A:=A) (B:=B) (N:=N) (M:=M) (h8:=h8)) (by repeat' first | exact trivial | assumption | exact rfl | exact nT (by assumption) | exact nF (by assumption) | exact sX_lp n m A B N M hm hn ha | apply And.intro | decide)
theorem same_con (n m:Nat) (A B:Nat->List Nat) (N M:Nat->Int) (hn:n<=281474976710656):Con Try.prog 25 [.sv 2 n (eF A N),.sv 2 m (eF B M)] [] (.b (smB n A N m B M)) []:=by
 unfold smB
 cases h8:decide (Int.ofNat n=Int.ofNat m) with
 | false=>exact sa0_con n m A B N M h8
 | true=>
   have hm:n<=m:=by have:=of_decide_eq_true h8;simp at this;omega
   cases ha:alB (sqB A N B M) n with
   | true=>exact sa1_con n m A B N M h8 hm hn ha
   | false=>exact sa2_con n m A B N M h8 hm hn ha
theorem wt00_vq (L0:Nat) (B0:Nat->Nat) (KK:Nat) (HH:Nat->Nat) (t:List Nat):VD Try.prog 45 [.p 0 0,.s t] [some w0O] (Orc.c (Orc.cal [0] (.tup []) [.set (wO L0),
 .set (shO 2 L0),.set (AObj.rows 5 1 L0 (byF B0))] (Orc.inl (Orc.lop [0,1,2] [0,1,6,7] 2 (XO.exit 0) [] [some (wO KK),some (shO 2 KK),some (AObj.rows 5 1 KK (byF HH))]
 Orc.z)))) (.tup []) [.set (wO KK),.set (shO 2 KK),.set (.rows 5 1 KK (byF HH))] [1,3] 4 (fun Lf=>True/\Con Try.prog 46 [.p 0 0,.i .i64 (Int.ofNat (List.length t))]
 [some w0O] (.tup []) [.set (wO L0),.set (shO 2 L0),.set (AObj.rows 5 1 L0 (byF B0))]/\LDoes Try.prog (loopAt Try.prog 79 0) 16 2 (mkT [(0,.s t),(1,AV.fn (Fn.func 80)
 [.p 0 0] []),(6,.i .i64 (Int.ofNat (List.length t))),(7,.i .i64 0)]) [some (wO L0),some (shO 2 L0),some (AObj.rows 5 1 L0 (byF B0))] (XO.exit 0) (mkT []) [some (wO KK),
 some (shO 2 KK),some (AObj.rows 5 1 KK (byF HH))]/\Lf):=by unfold VD VQ;kernel_rfl
theorem wt0_con (t:List Nat) (L0:Nat) (B0:Nat->Nat) (KK:Nat) (HH:Nat->Nat) (hw:Con Try.prog 46 [.p 0 0,.i .i64 (Int.ofNat t.length)] [some w0O] (.tup []) [.set (wO L0),.set (shO 2 L0),.set (.rows 5 1 L0 (byF B0))]) (ht:LDoes Try.prog (loopAt Try.prog 79 0) 16 2 (mkT [(0,.s t),(1,.fn (.func 80) [.p 0 0] []),(6,.i .i64 (Int.ofNat t.length)),(7,.i .i64 0)]) [some (wO L0),some (shO 2 L0),some (.rows 5 1 L0 (byF B0))] (.exit 0) (mkT []) [some (wO KK),some (shO 2 KK),some (.rows 5 1 KK (byF HH))]):Con Try.prog 45 [.p 0 0,.s t] [some w0O] (.tup []) [.set (wO KK),.set (shO 2 KK),.set (.rows 5 1 KK (byF HH))]:=by
 exact con_d (wt00_vq (L0:=L0) (B0:=B0) (KK:=KK) (HH:=HH) (t:=t)) (by repeat' first | exact trivial | assumption | exact rfl | exact nT (by assumption) | exact nF (by assumption) | exact hw | exact ht | apply And.intro | decide)
theorem zA_lq (L0:Nat) (B0:Nat->Nat) (KK:Nat) (HH:Nat->Nat) (n:Nat) (A:Nat->List Nat) (N:Nat->Int) (h0:decide (0<Int.ofNat n)=true):LD Try.prog
 (loopAt Try.prog 17 0) 25 1 [(4,.p 0 0),(10,.sv 2 n (eF A N)),(11,.i .i64 (Int.ofNat n)),(12,.i .i64 0)] [some w0O] (Orc.t (Orc.cal [0] (.tup []) [.set (wO L0),.set
 (shO 2 L0),.set (AObj.rows 5 1 L0 (byF B0))] (Orc.cal [0,2,3] (.tup []) [.set (wO KK),.set (shO 3 KK),.gone,.set (AObj.rows 5 1 KK (byF HH))] Orc.z))) .nrm [0,2,4]
 [(4,.p 0 0),(10,.sv 2 n (eF A N)),(11,.i .i64 (Int.ofNat n)),(12,.i .i64 1)] [some (wO KK),some (shO 2 KK),some (.rows 5 1 KK (byF HH))] 5 (fun Lf=>decide (0 <
 Int.ofNat n)=true/\((0:Int)<=(0:Int)/\(0:Int)<↑n)/\True/\True/\Con Try.prog 45 [.p 0 0,.s (A 0)] [some w0O] (.tup []) [.set (wO L0),.set (shO 2 L0),.set
 (AObj.rows 5 1 L0 (byF B0))]/\True/\Con Try.prog 46 [.p 0 0,.i .i64 (N 0)] [some (wO L0),some (shO 2 L0),some (AObj.rows 5 1 L0 (byF B0))] (.tup []) [.set (wO KK),.set
 (shO 3 KK),.gone,.set (AObj.rows 5 1 KK (byF HH))]/\rg (1)/\Lf):=by unfold LD LQ;kernel_rfl
theorem zR_lq (L1:Nat) (B1:Nat->Nat) (KK:Nat) (HH:Nat->Nat) (n i k:Nat) (A:Nat->List Nat) (N:Nat->Int) (g:Nat->Nat) (h0:decide (Int.ofNat i<Int.ofNat
 n)=true):LD Try.prog (loopAt Try.prog 17 0) 25 1 [(4,.p 0 0),(10,.sv 2 n (eF A N)),(11,.i .i64 (Int.ofNat n)),(12,.i .i64 (Int.ofNat i))] [some (wO k),some (shO 2
 k),some (.rows 5 1 k (byF g))] (Orc.t (Orc.cal [0,1,2] (.tup []) [.set (wO L1),.set (shO 3 L1),.gone,.set (AObj.rows 5 1 L1 (byF B1))] (Orc.cal [0,1,4] (.tup [])
 [.set (wO KK),.set (shO 3 KK),.gone,.set (AObj.rows 5 1 KK (byF HH))] Orc.z))) .nrm [0,1,5] [(4,.p 0 0),(10,.sv 2 n (eF A N)),(11,.i .i64 (Int.ofNat n)),(12,.i
 .i64 (Int.ofNat i+1))] [some (wO KK),some (shO 2 KK),some (.rows 5 1 KK (byF HH))] 6 (fun Lf=>decide (Int.ofNat i<Int.ofNat n)=true/\(0<=Int.ofNat i/\Int.ofNat i
 <↑n)/\True/\True/\Con Try.prog 45 [.p 0 0,.s (A i)] [some (wO k),some (shO 2 k),some (AObj.rows 5 1 k (byF g))] (.tup []) [.set (wO L1),.set (shO 3 L1),.gone,.set
 (AObj.rows 5 1 L1 (byF B1))]/\True/\Con Try.prog 46 [.p 0 0,.i .i64 (N i)] [some (wO L1),some (shO 2 L1),some (AObj.rows 5 1 L1 (byF B1))] (.tup []) [.set (wO KK),.set
 (shO 3 KK),.gone,.set (AObj.rows 5 1 KK (byF HH))]/\rg (Int.ofNat i+1)/\Lf):=by unfold LD LQ;kernel_rfl
theorem zE_lq (n i k:Nat) (A:Nat->List Nat) (N:Nat->Int) (g:Nat->Nat) (h0:decide (Int.ofNat i<Int.ofNat n)=false):LD Try.prog (loopAt Try.prog 17 0) 25 1
 [(4,.p 0 0),(10,.sv 2 n (eF A N)),(11,.i .i64 (Int.ofNat n)),(12,.i .i64 (Int.ofNat i))] [some (wO k),some (shO 2 k),some (.rows 5 1 k (byF g))] (Orc.f Orc.z) (.exit
 0) [0,1,2] [(4,.p 0 0)] [some (wO k),some (shO 2 k),some (.rows 5 1 k (byF g))] 3 (fun Lf=>decide (Int.ofNat i<Int.ofNat n)=false/\Lf)
 :=by unfold LD LQ;kernel_rfl
theorem zN_lq (n:Nat) (A:Nat->List Nat) (N:Nat->Int) (h0:decide (0<Int.ofNat n)=false):LD Try.prog (loopAt Try.prog 17 0) 25 1 [(4,.p 0 0),(10,.sv 2 n (eF A
 N)),(11,.i .i64 (Int.ofNat n)),(12,.i .i64 0)] [some w0O] (Orc.f Orc.z) (.exit 0) [0] [(4,.p 0 0)] [some w0O] 1 (fun Lf=>decide (0<Int.ofNat n)=false/\Lf)
 :=by unfold LD LQ;kernel_rfl
theorem ee00_vq (eb:Nat->(Nat->List Nat)->(Nat->Int)->Bool) (n:Nat) (A:Nat->List Nat) (N:Nat->Int) (h0:eb n A N=false):VD Try.prog 17 [.sv 2 n (eF A N)] []
 (Orc.cal [] (.b (eb n A N)) [] (Orc.t Orc.z)) (.tup [.s [],.i .i64 2]) [] [] 0 (fun Lf=>Con Try.prog 44 [.sv 2 n (eF A N)] [] (.b (eb n A N)) []/\True/\(!eb n A N) =
 true/\Lf):=by unfold VD VQ;kernel_rfl
theorem ee0_con (n:Nat) (A:Nat->List Nat) (N:Nat->Int) (h0:enB n A N=false) (hA:LenA n A):Con Try.prog 17 [.sv 2 n (eF A N)] [] (.tup [.s [],.i .i64 2]) []:=by
 exact con_d (ee00_vq (eb:=enB) (n:=n) (A:=A) (N:=N) (h0:=h0)) (by repeat' first | exact trivial | assumption | exact rfl | exact nT (by assumption) | exact nF (by assumption) | exact em_con _ _ _ hA | apply And.intro | decide)
theorem ee10_vq (eb:Nat->(Nat->List Nat)->(Nat->Int)->Bool) (n:Nat) (A:Nat->List Nat) (N:Nat->Int) (h0:eb n A N=true):VD Try.prog 17 [.sv 2 n (eF A N)] []
 (Orc.cal [] (.b (eb n A N)) [] (Orc.f (Orc.lop [0] [4,10,11,12] 1 (XO.exit 0) [(4,.p 0 0)] [some w0O] (Orc.inl (oc 7 Orc.z))))) (.tup [.s [],.i .i64 0]) [] [] 1 (fun Lf
 =>Con Try.prog 44 [.sv 2 n (eF A N)] [] (.b (eb n A N)) []/\True/\(!eb n A N)=false/\LDoes Try.prog (loopAt Try.prog 17 0) 25 1 (mkT [(4,.p 0 0),(10,.sv 2 n (eF A
 N)),(11,.i .i64 (Int.ofNat n)),(12,.i .i64 0)]) [some w0O] (XO.exit 0) (mkT [(4,.p 0 0)]) [some w0O]/\True/\True/\True/\Lf):=by unfold VD VQ;kernel_rfl
theorem ee1_con (n:Nat) (A:Nat->List Nat) (N:Nat->Int) (h0:enB n A N=true) (hA:LenA n A) (hl:LDoes Try.prog (loopAt Try.prog 17 0) 25 1 (mkT [(4,.p 0 0),(10,.sv 2 n (eF A N)),(11,.i .i64 (Int.ofNat n)),(12,.i .i64 0)]) [some w0O] (.exit 0) (mkT [(4,.p 0 0)]) [some w0O]):Con Try.prog 17 [.sv 2 n (eF A N)] [] (.tup [.s [],.i .i64 0]) []:=by
 exact con_d (ee10_vq (eb:=enB) (n:=n) (A:=A) (N:=N) (h0:=h0)) (by repeat' first | exact trivial | assumption | exact rfl | exact nT (by assumption) | exact nF (by assumption) | exact em_con _ _ _ hA | exact hl | apply And.intro | decide)
theorem ee20_vq (KK:Nat) (HH:Nat->Nat) (eb:Nat->(Nat->List Nat)->(Nat->Int)->Bool) (n:Nat) (A:Nat->List Nat) (N:Nat->Int) (h0:eb n A N=true):VD
 Try.prog 17 [.sv 2 n (eF A N)] [] (Orc.cal [] (.b (eb n A N)) [] (Orc.f (Orc.lop [0] [4,10,11,12] 1 (XO.exit 0) [(4,.p 0 0)] [some (wO KK),some (shO 2 KK),some
 (AObj.rows 5 1 KK (byF HH))] (Orc.cal [0,1,2] (.sv 1 KK (byF HH)) [.keep,.keep,.gone] Orc.z)))) (.tup [.s (bytesF KK (byF HH)),.i .i64 0]) [] [] 3 (fun Lf=>Con
 Try.prog 44 [.sv 2 n (eF A N)] [] (.b (eb n A N)) []/\True/\(!eb n A N)=false/\LDoes Try.prog (loopAt Try.prog 17 0) 25 1 (mkT [(4,.p 0 0),(10,.sv 2 n (eF A N)),(11,
 .i .i64 (Int.ofNat n)),(12,.i .i64 0)]) [some w0O] (XO.exit 0) (mkT [(4,.p 0 0)]) [some (wO KK),some (shO 2 KK),some (AObj.rows 5 1 KK (byF HH))]/\Con Try.prog 47 [.p 0
 0] [some (wO KK),some (shO 2 KK),some (AObj.rows 5 1 KK (byF HH))] (.sv 1 KK (byF HH)) [.keep,.keep,.gone]/\U8s KK (byF HH)/\Lf):=by unfold VD VQ;kernel_rfl
theorem ee2_con (n:Nat) (A:Nat->List Nat) (N:Nat->Int) (h0:enB n A N=true) (hA:LenA n A) (KK:Nat) (HH:Nat->Nat) (hk:KK<=1073741824) (hu:U8s KK (byF HH)) (hl:LDoes Try.prog (loopAt Try.prog 17 0) 25 1 (mkT [(4,.p 0 0),(10,.sv 2 n (eF A N)),(11,.i .i64 (Int.ofNat n)),(12,.i .i64 0)]) [some w0O] (.exit 0) (mkT [(4,.p 0 0)]) [some (wO KK),some (shO 2 KK),some (.rows 5 1 KK (byF HH))]):Con Try.prog 17 [.sv 2 n (eF A N)] [] (.tup [.s (bytesF KK (byF HH)),.i .i64 0]) []:=by
 exact con_d (ee20_vq (KK:=KK) (HH:=HH) (eb:=enB) (n:=n) (A:=A) (N:=N) (h0:=h0)) (by repeat' first | exact trivial | assumption | exact rfl | exact nT (by assumption) | exact nF (by assumption) | exact em_con _ _ _ hA | exact hl | exact wb_con _ _ hk | exact hu | apply And.intro | decide)
def tN (t:List Nat):List Nat:=fN t.length ++ t
theorem tN_le {t:List Nat} (h:t.length<=6):(tN t).length<=17:=by
 unfold tN
 rw [List.length_append]
 have:=fN_le (n:=t.length) (by omega)
 omega
theorem tN_byt {t:List Nat} (h:t.length<=6) (hb:Byt t):Byt (tN t):=(fN_byt (by omega)).app hb
theorem txG_eq (a t:List Nat):txG (fun i=>Int.ofNat (tB a i)) a.length t=fun i=>Int.ofNat (tB (a ++ t) i):=by
 funext i
 rcases Nat.lt_or_ge i a.length with q | q
 · rw [txG_lo q,tB_lo q]
 · obtain ⟨m,rfl⟩:∃m,i=a.length+m:=⟨i-a.length,by omega⟩
   rw [txG_hi,tB_hi q,Nat.add_sub_cancel_left];rfl
theorem tx_list (a t:List Nat) (hk:a.length+t.length<=1073741000):LDoes Try.prog (loopAt Try.prog 79 0) 16 2 (mkT [(0,.s t),(1,.fn (.func 80) [.p 0 0] []),(6,.i .i64 (Int.ofNat t.length)),(7,.i .i64 0)]) [some (wO a.length),some (shO 2 a.length),some (.rows 5 1 a.length (byF (tB a)))] (.exit 0) (mkT []) [some (wO (a ++ t).length),some (shO 2 (a ++ t).length),some (.rows 5 1 (a ++ t).length (byF (tB (a ++ t))))]:=by
 have h:=tx_lp a.length (fun i=>Int.ofNat (tB a i)) t hk
 rw [txG_eq] at h
 rw [List.length_append]
 exact h
theorem wtF_con (t:List Nat) (ht:t.length<=1000000):Con Try.prog 45 [.p 0 0,.s t] [some w0O] (.tup []) [.set (wO (tN t).length),.set (shO 2 (tN t).length),.set (.rows 5 1 (tN t).length (byF (tB (tN t))))]:=
 wt0_con t (fN t.length).length (tB (fN t.length)) (tN t).length (tB (tN t)) (wnF_con _ (by omega)) (tx_list (fN t.length) t (by have:=fN_le (n:=t.length) (by omega);omega))
theorem wtG_con (bs t:List Nat) (ht:t.length<=1000000) (hk:bs.length<=1000000):Con Try.prog 45 [.p 0 0,.s t] [some (wO bs.length),some (shO 2 bs.length),some (.rows 5 1 bs.length (byF (tB bs)))] (.tup []) [.set (wO (bs ++ tN t).length),.set (shO 3 (bs ++ tN t).length),.gone,.set (.rows 5 1 (bs ++ tN t).length (byF (tB (bs ++ tN t))))]:=by
 have h:=wtext_con bs.length (fun i=>Int.ofNat (tB bs i)) t ht hk
 have e:(bs ++ tN t).length=bs.length+wl t.length+t.length:=by unfold tN;rw [List.length_append,List.length_append,fN_len];omega
 rw [e]
 refine h.post (.refl _) ⟨.refl _,.refl _,.refl _,.rowsW fun i j hi hj=>.of ?_,trivial⟩
 show CV.i .u8 (txG (wG (fun i=>Int.ofNat (tB bs i)) bs.length t.length) (bs.length+wl t.length) t i)=CV.i .u8 (Int.ofNat (tB (bs ++ tN t) i))
 have hi:i<bs.length+wl t.length+t.length:=hi
 rcases Nat.lt_or_ge i (bs.length+wl t.length) with q | q
 · rw [txG_lo q]
   rcases Nat.lt_or_ge i bs.length with r | r
   · rw [wG_left r,tB_lo r]
   · obtain ⟨m,rfl⟩:∃m,i=bs.length+m:=⟨i-bs.length,by omega⟩
     rw [wG_right,tB_hi r,Nat.add_sub_cancel_left]
     unfold tN
     rw [tB_lo (by rw [fN_len];omega)]
     unfold tB
     rw [fN_get (by omega)]
 · obtain ⟨m,rfl⟩:∃m,i=bs.length+wl t.length+m:=⟨i-(bs.length+wl t.length),by omega⟩
   rw [txG_hi,tB_hi (by omega)]
   unfold tN
   rw [tB_hi (by rw [fN_len];omega),fN_len,show bs.length+wl t.length+m-bs.length-wl t.length=m by omega];rfl
def enP (A:Nat->List Nat) (N:Nat->Int):Nat->List Nat
 | 0=>[]
 | i+1=>(enP A N i ++ tN (A i)) ++ fN (N i).toNat
def EnOk (n:Nat) (A:Nat->List Nat) (N:Nat->Int):Prop:=n<=8/\∀i,i<n->(A i).length<=6/\Byt (A i)/\rwI (N i)
theorem enP_le {n:Nat} {A:Nat->List Nat} {N:Nat->Int} (h:EnOk n A N):∀i,i<=n->(enP A N i).length<=28*i
 | 0,_=>Nat.le_refl _
 | i+1,hi=>by
   have:=enP_le h i (by omega)
   obtain ⟨a,_,c⟩:=h.2 i (by omega)
   have:=tN_le a
   unfold rwI at c
   have:=fN_le (n:=(N i).toNat) (by omega)
   show ((enP A N i ++ tN (A i)) ++ fN (N i).toNat).length<=_
   rw [List.length_append,List.length_append]
   omega
theorem enP_byt {n:Nat} {A:Nat->List Nat} {N:Nat->Int} (h:EnOk n A N):∀i,i<=n->Byt (enP A N i)
 | 0,_=>Byt.nil
 | i+1,hi=>by
   obtain ⟨a,b,c⟩:=h.2 i (by omega)
   unfold rwI at c
   exact ((enP_byt h i (by omega)).app (tN_byt a b)).app (fN_byt (by omega))
theorem wnI_con (bs:List Nat) (v:Int) (hv:rwI v) (hk:bs.length<=1073741000):Con Try.prog 46 [.p 0 0,.i .i64 v] [some (wO bs.length),some (shO 2 bs.length),some (.rows 5 1 bs.length (byF (tB bs)))] (.tup []) [.set (wO (bs ++ fN v.toNat).length),.set (shO 3 (bs ++ fN v.toNat).length),.gone,.set (.rows 5 1 (bs ++ fN v.toNat).length (byF (tB (bs ++ fN v.toNat))))]:=by
 have:=wnG_con bs v.toNat (by unfold rwI at hv;omega) hk
 rwa [nat_of hv] at this
noncomputable def zI (n:Nat) (A:Nat->List Nat) (N:Nat->Int):Nat->List (Nat×AV)×List (Option AObj)
 | 0=>([(4,.p 0 0),(10,.sv 2 n (eF A N)),(11,.i .i64 (Int.ofNat n)),(12,.i .i64 0)],[some w0O])
 | i+1=>([(4,.p 0 0),(10,.sv 2 n (eF A N)),(11,.i .i64 (Int.ofNat n)),(12,.i .i64 (Int.ofNat (i+1)))],[some (wO (enP A N (i+1)).length),some (shO 2 (enP A N (i+1)).length),some (.rows 5 1 (enP A N (i+1)).length (byF (tB (enP A N (i+1)))))])
theorem z_lp (n:Nat) (A:Nat->List Nat) (N:Nat->Int) (h0:0<n) (h:EnOk n A N):LDoes Try.prog (loopAt Try.prog 17 0) 25 1 (mkT [(4,.p 0 0),(10,.sv 2 n (eF A N)),(11,.i .i64 (Int.ofNat n)),(12,.i .i64 0)]) [some w0O] (.exit 0) (mkT [(4,.p 0 0)]) [some (wO (enP A N n).length),some (shO 2 (enP A N n).length),some (.rows 5 1 (enP A N n).length (byF (tB (enP A N n))))]:=by
 have h8:=h.1
 refine loop_q (zI n A N) (fun i=>n-i) (fun i=>i<=n) (fun i=>by cases i<;>simp [zI]) ?_ 0 (Nat.zero_le _)
 intro i hi
 cases i with
 | zero=>
   have h1:decide ((0:Int)<Int.ofNat n)=true:=decide_eq_true (by simp;omega)
   obtain ⟨a,b,c⟩:=h.2 0 h0
   have ct:=wtF_con (A 0) (by omega)
   have cn:=wnI_con (tN (A 0)) (N 0) c (by have:=tN_le a;omega)
   have bi:(0:Int)<=0/\(0:Int)<(↑n:Int):=⟨by simp,by simp;omega⟩
   exact rd_nrm (zA_lq (tN (A 0)).length (tB (tN (A 0))) (enP A N 1).length (tB (enP A N 1)) n A N h1) ⟨h1,bi,trivial,trivial,ct,trivial,cn,by decide,rfl⟩ 1 h0 (by show n-1<n-0;omega) rfl (.refl _) (.refl _)
 | succ i=>
   have hle:=enP_le h (i+1) hi
   rcases Nat.lt_or_ge (i+1) n with hlt | q
   · have h1:decide (Int.ofNat (i+1)<Int.ofNat n)=true:=decide_eq_true (by simp;omega)
     obtain ⟨a,b,c⟩:=h.2 (i+1) hlt
     have ct:=wtG_con (enP A N (i+1)) (A (i+1)) (by omega) (by omega)
     have cn:=wnI_con (enP A N (i+1) ++ tN (A (i+1))) (N (i+1)) c (by have:=tN_le a;rw [List.length_append];omega)
     have bi:(0:Int)<=Int.ofNat (i+1)/\Int.ofNat (i+1)<(↑n:Int):=⟨by simp<;>omega,by simp;omega⟩
     have ri:rg (Int.ofNat (i+1)+1):=⟨by simp<;>omega,by simp<;>omega⟩
     exact rd_nrm (zR_lq (enP A N (i+1) ++ tN (A (i+1))).length (tB (enP A N (i+1) ++ tN (A (i+1)))) (enP A N (i+2)).length (tB (enP A N (i+2))) n (i+1) (enP A N (i+1)).length A N (tB (enP A N (i+1))) h1) ⟨h1,bi,trivial,trivial,ct,trivial,cn,ri,rfl⟩ (i+2) hlt (by show n-(i+2)<n-(i+1);omega) rfl (.refl _) (.refl _)
   · obtain rfl:i+1=n:=Nat.le_antisymm hi q
     have h1:decide (Int.ofNat (i+1)<Int.ofNat (i+1))=false:=decide_eq_false (by simp)
     exact rd_out (zE_lq (i+1) (i+1) (enP A N (i+1)).length A N (tB (enP A N (i+1))) h1) ⟨h1,rfl⟩ rfl rfl (.refl _) (.refl _)
theorem zn_lp (A:Nat->List Nat) (N:Nat->Int):LDoes Try.prog (loopAt Try.prog 17 0) 25 1 (mkT [(4,.p 0 0),(10,.sv 2 0 (eF A N)),(11,.i .i64 (Int.ofNat 0)),(12,.i .i64 0)]) [some w0O] (.exit 0) (mkT [(4,.p 0 0)]) [some w0O]:=by
 refine loop_q (D:=Nat) (fun i:Nat=>([(4,.p 0 0),(10,.sv 2 0 (eF A N)),(11,.i .i64 (Int.ofNat 0)),(12,.i .i64 0)],[some w0O])) (fun i=>0) (fun i=>True) (fun _=>Nat.le_refl _) ?_ 0 trivial
 intro i _
 have h1:decide ((0:Int)<Int.ofNat 0)=false:=by decide
 exact rd_out (zN_lq 0 A N h1) ⟨h1,rfl⟩ rfl rfl (.refl _) (.refl _)
theorem en_ok {n:Nat} {A:Nat->List Nat} {N:Nat->Int} (h:enB n A N=true) (hb:∀i,i<n->Byt (A i)):EnOk n A N:=by
 unfold enB at h
 rw [Bool.and_eq_true] at h
 obtain ⟨h1,h2⟩:=h
 refine ⟨by have:=of_decide_eq_true h1;simp at this;omega,fun i hi=>?_⟩
 have:=alB_t h2 i hi
 unfold pE at this
 simp only [Bool.and_eq_true] at this
 exact ⟨nm_le this.1,hb i hi,wi_rw this.2.1 (by decide) (by decide)⟩
noncomputable def enT (n:Nat) (A:Nat->List Nat) (N:Nat->Int):List Nat:=bif enB n A N then enP A N n else []
noncomputable def enE (n:Nat) (A:Nat->List Nat) (N:Nat->Int):Int:=bif enB n A N then 0 else 2
theorem encE_con (n:Nat) (A:Nat->List Nat) (N:Nat->Int) (hA:LenA n A) (hb:∀i,i<n->Byt (A i)):Con Try.prog 17 [.sv 2 n (eF A N)] [] (.tup [.s (enT n A N),.i .i64 (enE n A N)]) []:=by
 unfold enT enE
 cases h:enB n A N with
 | false=>exact ee0_con n A N h hA
 | true=>
   have ok:=en_ok h hb
   have hle:=enP_le ok n (Nat.le_refl _)
   have:=ok.1
   cases n with
   | zero=>exact ee1_con 0 A N h hA (zn_lp A N)
   | succ n=>
     have q:=ee2_con (n+1) A N h hA (enP A N (n+1)).length (tB (enP A N (n+1))) (by omega) (u8_of _) (z_lp (n+1) A N (by omega) ok)
     rw [bts_eq (enP_byt ok _ (Nat.le_refl _))] at q
     exact q
structure Rd where
 u:List Nat
 e:Int
noncomputable def nvU (u:List Nat):Nat:=nmv (tB u) u.length
noncomputable def nzU (u:List Nat):Nat:=nmz (tB u) u.length
noncomputable def neU (u:List Nat):Nat:=nme (tB u) u.length
noncomputable def rO (r:Rd):AObj:=rdO r.u.length (tB r.u) r.e
noncomputable def rG (r:Rd):AV:=.agg [.sv 1 r.u.length (byF (tB r.u)),.i .i64 r.e]
noncomputable def rV (r:Rd):Nat:=bif decide (r.e=0) then nvU r.u else 0
noncomputable def rN (r:Rd):Rd:=bif decide (r.e=0) then ⟨r.u.drop (nzU r.u),Int.ofNat (neU r.u)⟩ else r
noncomputable def txV (u:List Nat):List Nat:=bif decide (Int.ofNat (neU u)=0) then (bif decide ((6:Int)<Int.ofNat (nvU u)) then [] else bif decide (Int.ofNat u.length-Int.ofNat (nzU u)<Int.ofNat (nvU u)) then [] else (u.drop (nzU u)).take (nvU u)) else []
noncomputable def txZ (u:List Nat):Nat:=bif decide (Int.ofNat (neU u)=0) then (bif decide ((6:Int)<Int.ofNat (nvU u)) then 0 else bif decide (Int.ofNat u.length-Int.ofNat (nzU u)<Int.ofNat (nvU u)) then 0 else nzU u+nvU u) else 0
noncomputable def txE (u:List Nat):Nat:=bif decide (Int.ofNat (neU u)=0) then (bif decide ((6:Int)<Int.ofNat (nvU u)) then 11 else bif decide (Int.ofNat u.length-Int.ofNat (nzU u)<Int.ofNat (nvU u)) then 10 else 0) else neU u
noncomputable def rT (r:Rd):List Nat:=bif decide (r.e=0) then txV r.u else []
noncomputable def rX (r:Rd):Rd:=bif decide (r.e=0) then ⟨r.u.drop (txZ r.u),Int.ofNat (txE r.u)⟩ else r
theorem shB_drop (z:Nat) (u:List Nat):shB z (tB u)=tB (u.drop z):=by
 funext i
 show u.getD (z+i) 0=(u.drop z).getD i 0
 rw [List.getD_eq_getElem?_getD,List.getD_eq_getElem?_getD,List.getElem?_drop]
theorem sv_drop (z:Nat) (u:List Nat):AV.sv 1 (u.length-z) (shiftF z (byF (tB u)))=.sv 1 (u.drop z).length (byF (tB (u.drop z))):=by
 rw [shift_by,shB_drop,List.length_drop]
theorem Byt.drop {u:List Nat} (h:Byt u) (z:Nat):Byt (u.drop z):=fun x hx=>h x (List.mem_of_mem_drop hx)
theorem Byt.take {u:List Nat} (h:Byt u) (z:Nat):Byt (u.take z):=fun x hx=>h x (List.mem_of_mem_take hx)
theorem shU8 (n z:Nat) (b:Nat->Nat):U8s n (shiftF z (byF b)):=by rw [shift_by];exact iF_u8 (g:=fun i=>Int.ofNat (shB z b i)) fun i=>⟨_,rfl⟩
theorem tx_eq {u:List Nat} (h:Byt u) {z v:Nat} (hz:z+v<=u.length):bytesF (Int.toNat (Int.ofNat z+Int.ofNat v)-z) (shiftF z (byF (tB u)))=(u.drop z).take v:=by
 have e:Int.toNat (Int.ofNat z+Int.ofNat v)-z=v:=by simp;omega
 rw [e,shift_by,shB_drop]
 refine bytesF_eq (by simp;omega) ((h.drop z).take v) fun i hi=>?_
 show CV.i .u8 (Int.ofNat ((u.drop z).getD i 0))=CV.i .u8 (Int.ofNat (((u.drop z).take v).getD i 0))
 rw [List.getD_eq_getElem?_getD,List.getD_eq_getElem?_getD,List.getElem?_take,if_pos hi]
theorem txl {L nz nv:Nat} (h:decide (Int.ofNat L-Int.ofNat nz<Int.ofNat nv)=false) (hz:nz<=L):nz+nv<=L:=by
 have:=of_decide_eq_false h
 simp at this;omega
theorem nm_err0 (b:Nat->Nat) (L:Nat):∀k i v z e,nm b L k i=some (v,z,e)->e≠0->v=0/\z=0
 | 0,i,v,z,e,h,he=>by cases h
 | k+1,i,v,z,e,h,he=>by
   have h:(match Nat.beq i L with
    | true=>some (0,0,10)
    | false=>match Nat.ble 128 (b i) with
      | true=>Cl.nm b L k (i+1)
      | false=>match Nat.beq (b i) 0 && Nat.blt 0 i with
        | true=>some (0,0,11)
        | false=>some (Cl.nV b (i+1),i+1,0))=some (v,z,e):=h
   cases h1:Nat.beq i L with
   | true=>rw [h1] at h;simp only [Option.some.injEq,Prod.mk.injEq] at h;exact ⟨h.1.symm,h.2.1.symm⟩
   | false=>
     rw [h1] at h
     cases h2:Nat.ble 128 (b i) with
     | true=>rw [h2] at h;exact nm_err0 b L k (i+1) v z e h he
     | false=>
       rw [h2] at h
       cases h3:(Nat.beq (b i) 0 && Nat.blt 0 i) with
       | true=>rw [h3] at h;simp only [Option.some.injEq,Prod.mk.injEq] at h;exact ⟨h.1.symm,h.2.1.symm⟩
       | false=>rw [h3] at h;simp only [Option.some.injEq,Prod.mk.injEq] at h;exact absurd h.2.2.symm he
theorem nm_err (b:Nat->Nat) (L:Nat) (h:nme b L≠0):nmv b L=0/\nmz b L=0:=by
 cases e:nm b L 9 0 with
 | none=>exact ⟨by unfold nmv;rw [e];rfl,by unfold nmz;rw [e];rfl⟩
 | some p=>
   obtain ⟨v,z,x⟩:=p
   have hx:x≠0:=by unfold nme at h;rw [e] at h;exact h
   obtain ⟨a,b'⟩:=nm_err0 b L 9 0 v z x e hx
   exact ⟨by unfold nmv;rw [e];exact a,by unfold nmz;rw [e];exact b'⟩
theorem pt00_vq (nv:Nat) (nz:Nat) (ne:Nat) (L:Nat) (b:Nat->Nat) (h0:decide (Int.ofNat ne=0)=false):VD Try.prog 86 [.sv 1 L (byF b),.i .i64 6] [] (Orc.cal []
 (.tup [.i .i64 (Int.ofNat nv),.i .i64 (Int.ofNat nz),.i .i64 (Int.ofNat ne)]) [] (Orc.t Orc.z)) (.tup [.s [],.i .i64 0,.i .i64 (Int.ofNat ne)]) [] [] 0 (fun Lf=>Con
 Try.prog 84 [.sv 1 L (byF b)] [] (.tup [.i .i64 (Int.ofNat nv),.i .i64 (Int.ofNat nz),.i .i64 (Int.ofNat ne)]) []/\(!decide (Int.ofNat ne=0))=true/\Lf)
 :=by unfold VD VQ;kernel_rfl
theorem pt0_con (L:Nat) (b:Nat->Nat) (nv nz ne:Nat) (h0:decide (Int.ofNat ne=0)=false) (hL:L<=140737488351232) (hz:nz<=L) (hc:Con Try.prog 84 [.sv 1 L (byF b)] [] (.tup [.i .i64 (Int.ofNat nv),.i .i64 (Int.ofNat nz),.i .i64 (Int.ofNat ne)]) []):Con Try.prog 86 [.sv 1 L (byF b),.i .i64 6] [] (.tup [.s [],.i .i64 0,.i .i64 (Int.ofNat ne)]) []:=by
 have r1:rg (Int.ofNat L-Int.ofNat nz):=⟨by simp<;>omega,by simp<;>omega⟩
 exact con_d (pt00_vq (nv:=nv) (nz:=nz) (ne:=ne) (L:=L) (b:=b) (h0:=h0)) (by repeat' first | exact trivial | assumption | exact rfl | exact nT (by assumption) | exact nF (by assumption) | exact hc | exact shU8 _ _ _ | apply And.intro | decide)
theorem pt10_vq (nv:Nat) (nz:Nat) (ne:Nat) (L:Nat) (b:Nat->Nat) (h0:decide (Int.ofNat ne=0)=true) (h1:decide (6<Int.ofNat nv)=true):VD Try.prog 86 [.sv
 1 L (byF b),.i .i64 6] [] (Orc.cal [] (.tup [.i .i64 (Int.ofNat nv),.i .i64 (Int.ofNat nz),.i .i64 (Int.ofNat ne)]) [] (Orc.f (Orc.t Orc.z))) (.tup [.s [],.i .i64 0,.i
 .i64 11]) [] [] 0 (fun Lf=>Con Try.prog 84 [.sv 1 L (byF b)] [] (.tup [.i .i64 (Int.ofNat nv),.i .i64 (Int.ofNat nz),.i .i64 (Int.ofNat ne)]) []/\(!decide (Int.ofNat ne
 =0))=false/\decide (6<Int.ofNat nv)=true/\Lf):=by unfold VD VQ;kernel_rfl
theorem pt1_con (L:Nat) (b:Nat->Nat) (nv nz ne:Nat) (h0:decide (Int.ofNat ne=0)=true) (h1:decide (6<Int.ofNat nv)=true) (hL:L<=140737488351232) (hz:nz<=L) (hc:Con Try.prog 84 [.sv 1 L (byF b)] [] (.tup [.i .i64 (Int.ofNat nv),.i .i64 (Int.ofNat nz),.i .i64 (Int.ofNat ne)]) []):Con Try.prog 86 [.sv 1 L (byF b),.i .i64 6] [] (.tup [.s [],.i .i64 0,.i .i64 11]) []:=by
 have r1:rg (Int.ofNat L-Int.ofNat nz):=⟨by simp<;>omega,by simp<;>omega⟩
 exact con_d (pt10_vq (nv:=nv) (nz:=nz) (ne:=ne) (L:=L) (b:=b) (h0:=h0) (h1:=h1)) (by repeat' first | exact trivial | assumption | exact rfl | exact nT (by assumption) | exact nF (by assumption) | exact hc | exact shU8 _ _ _ | apply And.intro | decide)
theorem pt20_vq (nv:Nat) (nz:Nat) (ne:Nat) (L:Nat) (b:Nat->Nat) (h0:decide (Int.ofNat ne=0)=true) (h1:decide (6<Int.ofNat nv)=false) (h2:decide
 (Int.ofNat L-Int.ofNat nz<Int.ofNat nv)=true):VD Try.prog 86 [.sv 1 L (byF b),.i .i64 6] [] (Orc.cal [] (.tup [.i .i64 (Int.ofNat nv),.i .i64 (Int.ofNat nz),.i
 .i64 (Int.ofNat ne)]) [] (Orc.f (Orc.f (Orc.t Orc.z)))) (.tup [.s [],.i .i64 0,.i .i64 10]) [] [] 0 (fun Lf=>Con Try.prog 84 [.sv 1 L (byF b)] [] (.tup [.i .i64
 (Int.ofNat nv),.i .i64 (Int.ofNat nz),.i .i64 (Int.ofNat ne)]) []/\(!decide (Int.ofNat ne=0))=false/\decide (6<Int.ofNat nv)=false/\rg (Int.ofNat L-Int.ofNat
 nz)/\decide (Int.ofNat L-Int.ofNat nz<Int.ofNat nv)=true/\Lf):=by unfold VD VQ;kernel_rfl
theorem pt2_con (L:Nat) (b:Nat->Nat) (nv nz ne:Nat) (h0:decide (Int.ofNat ne=0)=true) (h1:decide (6<Int.ofNat nv)=false) (h2:decide (Int.ofNat L-Int.ofNat nz<Int.ofNat nv)=true) (hL:L<=140737488351232) (hz:nz<=L) (hc:Con Try.prog 84 [.sv 1 L (byF b)] [] (.tup [.i .i64 (Int.ofNat nv),.i .i64 (Int.ofNat nz),.i .i64 (Int.ofNat ne)]) []):Con Try.prog 86 [.sv 1 L (byF b),.i .i64 6] [] (.tup [.s [],.i .i64 0,.i .i64 10]) []:=by
 have r1:rg (Int.ofNat L-Int.ofNat nz):=⟨by simp<;>omega,by simp<;>omega⟩
 exact con_d (pt20_vq (nv:=nv) (nz:=nz) (ne:=ne) (L:=L) (b:=b) (h0:=h0) (h1:=h1) (h2:=h2)) (by repeat' first | exact trivial | assumption | exact rfl | exact nT (by assumption) | exact nF (by assumption) | exact hc | exact shU8 _ _ _ | apply And.intro | decide)
theorem pt30_vq (nv:Nat) (nz:Nat) (ne:Nat) (L:Nat) (b:Nat->Nat) (h0:decide (Int.ofNat ne=0)=true) (h1:decide (6<Int.ofNat nv)=false) (h2:decide
 (Int.ofNat L-Int.ofNat nz<Int.ofNat nv)=false):VD Try.prog 86 [.sv 1 L (byF b),.i .i64 6] [] (Orc.cal [] (.tup [.i .i64 (Int.ofNat nv),.i .i64 (Int.ofNat nz),.i
 .i64 (Int.ofNat ne)]) [] (Orc.f (Orc.f (Orc.f Orc.z)))) (.tup [.s (bytesF (Int.toNat (Int.ofNat nz+Int.ofNat nv)-nz) (shiftF nz (byF b))),.i .i64 (Int.ofNat nz +
 Int.ofNat nv),.i .i64 0]) [] [] 0 (fun Lf=>Con Try.prog 84 [.sv 1 L (byF b)] [] (.tup [.i .i64 (Int.ofNat nv),.i .i64 (Int.ofNat nz),.i .i64 (Int.ofNat ne)]) []/\
 (!decide (Int.ofNat ne=0))=false/\decide (6<Int.ofNat nv)=false/\rg (Int.ofNat L-Int.ofNat nz)/\decide (Int.ofNat L-Int.ofNat nz<Int.ofNat nv)=false/\rg
 (Int.ofNat nz+Int.ofNat nv)/\(0<=Int.ofNat nz/\0<=Int.ofNat nz+Int.ofNat nv/\nz<=Int.toNat (Int.ofNat nz+Int.ofNat nv)/\Int.toNat (Int.ofNat nz+Int.ofNat nv)<=
 L)/\U8s (Int.toNat (Int.ofNat nz+Int.ofNat nv)-nz) (shiftF nz (byF b))/\rg (Int.ofNat nz+Int.ofNat nv)/\Lf):=by unfold VD VQ;kernel_rfl
theorem pt3_con (L:Nat) (b:Nat->Nat) (nv nz ne:Nat) (h0:decide (Int.ofNat ne=0)=true) (h1:decide (6<Int.ofNat nv)=false) (h2:decide (Int.ofNat L-Int.ofNat nz<Int.ofNat nv)=false) (hL:L<=140737488351232) (hz:nz<=L) (hc:Con Try.prog 84 [.sv 1 L (byF b)] [] (.tup [.i .i64 (Int.ofNat nv),.i .i64 (Int.ofNat nz),.i .i64 (Int.ofNat ne)]) []):Con Try.prog 86 [.sv 1 L (byF b),.i .i64 6] [] (.tup [.s (bytesF (Int.toNat (Int.ofNat nz+Int.ofNat nv)-nz) (shiftF nz (byF b))),.i .i64 (Int.ofNat nz+Int.ofNat nv),.i .i64 0]) []:=by
 have r1:rg (Int.ofNat L-Int.ofNat nz):=⟨by simp<;>omega,by simp<;>omega⟩
 have hv:nv<=6:=by have:=of_decide_eq_false h1;simp at this;omega
 have r2:rg (Int.ofNat nz+Int.ofNat nv):=⟨by simp<;>omega,by simp<;>omega⟩
 have r3:(0:Int)<=Int.ofNat nz:=by simp
 have r4:(0:Int)<=Int.ofNat nz+Int.ofNat nv:=by simp<;>omega
 have r5:nz<=Int.toNat (Int.ofNat nz+Int.ofNat nv):=by simp<;>omega
 have r6:Int.toNat (Int.ofNat nz+Int.ofNat nv)<=L:=by have:=txl h2 hz;simp;omega
 exact con_d (pt30_vq (nv:=nv) (nz:=nz) (ne:=ne) (L:=L) (b:=b) (h0:=h0) (h1:=h1) (h2:=h2)) (by repeat' first | exact trivial | assumption | exact rfl | exact nT (by assumption) | exact nF (by assumption) | exact hc | exact shU8 _ _ _ | apply And.intro | decide)
theorem qt00_vq (nv:Nat) (nz:Nat) (ne:Nat) (L:Nat) (b:Nat->Nat) (h0:decide (Int.ofNat ne=0)=false):VD Try.prog 87 [.sv 1 L (byF b),.i .i64 6] [] (Orc.cal []
 (.tup [.i .i64 (Int.ofNat nv),.i .i64 (Int.ofNat nz),.i .i64 (Int.ofNat ne)]) [] (Orc.t Orc.z)) (.tup [.s [],.i .i64 0,.i .i64 (Int.ofNat ne)]) [] [] 0 (fun Lf=>Con
 Try.prog 58 [.sv 1 L (byF b)] [] (.tup [.i .i64 (Int.ofNat nv),.i .i64 (Int.ofNat nz),.i .i64 (Int.ofNat ne)]) []/\(!decide (Int.ofNat ne=0))=true/\Lf)
 :=by unfold VD VQ;kernel_rfl
theorem qt0_con (L:Nat) (b:Nat->Nat) (nv nz ne:Nat) (h0:decide (Int.ofNat ne=0)=false) (hL:L<=140737488351232) (hz:nz<=L) (hc:Con Try.prog 58 [.sv 1 L (byF b)] [] (.tup [.i .i64 (Int.ofNat nv),.i .i64 (Int.ofNat nz),.i .i64 (Int.ofNat ne)]) []):Con Try.prog 87 [.sv 1 L (byF b),.i .i64 6] [] (.tup [.s [],.i .i64 0,.i .i64 (Int.ofNat ne)]) []:=by
 have r1:rg (Int.ofNat L-Int.ofNat nz):=⟨by simp<;>omega,by simp<;>omega⟩
 exact con_d (qt00_vq (nv:=nv) (nz:=nz) (ne:=ne) (L:=L) (b:=b) (h0:=h0)) (by repeat' first | exact trivial | assumption | exact rfl | exact nT (by assumption) | exact nF (by assumption) | exact hc | exact shU8 _ _ _ | apply And.intro | decide)
theorem qt10_vq (nv:Nat) (nz:Nat) (ne:Nat) (L:Nat) (b:Nat->Nat) (h0:decide (Int.ofNat ne=0)=true) (h1:decide (6<Int.ofNat nv)=true):VD Try.prog 87 [.sv
 1 L (byF b),.i .i64 6] [] (Orc.cal [] (.tup [.i .i64 (Int.ofNat nv),.i .i64 (Int.ofNat nz),.i .i64 (Int.ofNat ne)]) [] (Orc.f (Orc.c (Orc.t Orc.z)))) (.tup [.s [],.i .i64
 0,.i .i64 11]) [] [] 0 (fun Lf=>Con Try.prog 58 [.sv 1 L (byF b)] [] (.tup [.i .i64 (Int.ofNat nv),.i .i64 (Int.ofNat nz),.i .i64 (Int.ofNat ne)]) []/\(!decide
 (Int.ofNat ne=0))=false/\decide (6<Int.ofNat nv)=true/\Lf):=by unfold VD VQ;kernel_rfl
theorem qt1_con (L:Nat) (b:Nat->Nat) (nv nz ne:Nat) (h0:decide (Int.ofNat ne=0)=true) (h1:decide (6<Int.ofNat nv)=true) (hL:L<=140737488351232) (hz:nz<=L) (hc:Con Try.prog 58 [.sv 1 L (byF b)] [] (.tup [.i .i64 (Int.ofNat nv),.i .i64 (Int.ofNat nz),.i .i64 (Int.ofNat ne)]) []):Con Try.prog 87 [.sv 1 L (byF b),.i .i64 6] [] (.tup [.s [],.i .i64 0,.i .i64 11]) []:=by
 have r1:rg (Int.ofNat L-Int.ofNat nz):=⟨by simp<;>omega,by simp<;>omega⟩
 exact con_d (qt10_vq (nv:=nv) (nz:=nz) (ne:=ne) (L:=L) (b:=b) (h0:=h0) (h1:=h1)) (by repeat' first | exact trivial | assumption | exact rfl | exact nT (by assumption) | exact nF (by assumption) | exact hc | exact shU8 _ _ _ | apply And.intro | decide)
theorem qt20_vq (nv:Nat) (nz:Nat) (ne:Nat) (L:Nat) (b:Nat->Nat) (h0:decide (Int.ofNat ne=0)=true) (h1:decide (6<Int.ofNat nv)=false) (h2:decide
 (Int.ofNat L-Int.ofNat nz<Int.ofNat nv)=true):VD Try.prog 87 [.sv 1 L (byF b),.i .i64 6] [] (Orc.cal [] (.tup [.i .i64 (Int.ofNat nv),.i .i64 (Int.ofNat nz),.i
 .i64 (Int.ofNat ne)]) [] (Orc.f (Orc.c (Orc.f (Orc.t Orc.z))))) (.tup [.s [],.i .i64 0,.i .i64 10]) [] [] 0 (fun Lf=>Con Try.prog 58 [.sv 1 L (byF b)] [] (.tup [.i .i64
 (Int.ofNat nv),.i .i64 (Int.ofNat nz),.i .i64 (Int.ofNat ne)]) []/\(!decide (Int.ofNat ne=0))=false/\decide (6<Int.ofNat nv)=false/\rg (Int.ofNat L-Int.ofNat
 nz)/\decide (Int.ofNat L-Int.ofNat nz<Int.ofNat nv)=true/\Lf):=by unfold VD VQ;kernel_rfl
theorem qt2_con (L:Nat) (b:Nat->Nat) (nv nz ne:Nat) (h0:decide (Int.ofNat ne=0)=true) (h1:decide (6<Int.ofNat nv)=false) (h2:decide (Int.ofNat L-Int.ofNat nz<Int.ofNat nv)=true) (hL:L<=140737488351232) (hz:nz<=L) (hc:Con Try.prog 58 [.sv 1 L (byF b)] [] (.tup [.i .i64 (Int.ofNat nv),.i .i64 (Int.ofNat nz),.i .i64 (Int.ofNat ne)]) []):Con Try.prog 87 [.sv 1 L (byF b),.i .i64 6] [] (.tup [.s [],.i .i64 0,.i .i64 10]) []:=by
 have r1:rg (Int.ofNat L-Int.ofNat nz):=⟨by simp<;>omega,by simp<;>omega⟩
 exact con_d (qt20_vq (nv:=nv) (nz:=nz) (ne:=ne) (L:=L) (b:=b) (h0:=h0) (h1:=h1) (h2:=h2)) (by repeat' first | exact trivial | assumption | exact rfl | exact nT (by assumption) | exact nF (by assumption) | exact hc | exact shU8 _ _ _ | apply And.intro | decide)
theorem qt30_vq (nv:Nat) (nz:Nat) (ne:Nat) (L:Nat) (b:Nat->Nat) (h0:decide (Int.ofNat ne=0)=true) (h1:decide (6<Int.ofNat nv)=false) (h2:decide
 (Int.ofNat L-Int.ofNat nz<Int.ofNat nv)=false):VD Try.prog 87 [.sv 1 L (byF b),.i .i64 6] [] (Orc.cal [] (.tup [.i .i64 (Int.ofNat nv),.i .i64 (Int.ofNat nz),.i
 .i64 (Int.ofNat ne)]) [] (Orc.f (Orc.c (Orc.f (Orc.f Orc.z))))) (.tup [.s (bytesF (Int.toNat (Int.ofNat nz+Int.ofNat nv)-nz) (shiftF nz (byF b))),.i .i64 (Int.ofNat nz +
 Int.ofNat nv),.i .i64 0]) [] [] 0 (fun Lf=>Con Try.prog 58 [.sv 1 L (byF b)] [] (.tup [.i .i64 (Int.ofNat nv),.i .i64 (Int.ofNat nz),.i .i64 (Int.ofNat ne)]) []/\
 (!decide (Int.ofNat ne=0))=false/\decide (6<Int.ofNat nv)=false/\rg (Int.ofNat L-Int.ofNat nz)/\decide (Int.ofNat L-Int.ofNat nz<Int.ofNat nv)=false/\rg
 (Int.ofNat nz+Int.ofNat nv)/\(0<=Int.ofNat nz/\0<=Int.ofNat nz+Int.ofNat nv/\nz<=Int.toNat (Int.ofNat nz+Int.ofNat nv)/\Int.toNat (Int.ofNat nz+Int.ofNat nv)<=
 L)/\U8s (Int.toNat (Int.ofNat nz+Int.ofNat nv)-nz) (shiftF nz (byF b))/\rg (Int.ofNat nz+Int.ofNat nv)/\Lf):=by unfold VD VQ;kernel_rfl
theorem qt3_con (L:Nat) (b:Nat->Nat) (nv nz ne:Nat) (h0:decide (Int.ofNat ne=0)=true) (h1:decide (6<Int.ofNat nv)=false) (h2:decide (Int.ofNat L-Int.ofNat nz<Int.ofNat nv)=false) (hL:L<=140737488351232) (hz:nz<=L) (hc:Con Try.prog 58 [.sv 1 L (byF b)] [] (.tup [.i .i64 (Int.ofNat nv),.i .i64 (Int.ofNat nz),.i .i64 (Int.ofNat ne)]) []):Con Try.prog 87 [.sv 1 L (byF b),.i .i64 6] [] (.tup [.s (bytesF (Int.toNat (Int.ofNat nz+Int.ofNat nv)-nz) (shiftF nz (byF b))),.i .i64 (Int.ofNat nz+Int.ofNat nv),.i .i64 0]) []:=by
 have r1:rg (Int.ofNat L-Int.ofNat nz):=⟨by simp<;>omega,by simp<;>omega⟩
 have hv:nv<=6:=by have:=of_decide_eq_false h1;simp at this;omega
 have r2:rg (Int.ofNat nz+Int.ofNat nv):=⟨by simp<;>omega,by simp<;>omega⟩
 have r3:(0:Int)<=Int.ofNat nz:=by simp
 have r4:(0:Int)<=Int.ofNat nz+Int.ofNat nv:=by simp<;>omega
 have r5:nz<=Int.toNat (Int.ofNat nz+Int.ofNat nv):=by simp<;>omega
 have r6:Int.toNat (Int.ofNat nz+Int.ofNat nv)<=L:=by have:=txl h2 hz;simp;omega
 exact con_d (qt30_vq (nv:=nv) (nz:=nz) (ne:=ne) (L:=L) (b:=b) (h0:=h0) (h1:=h1) (h2:=h2)) (by repeat' first | exact trivial | assumption | exact rfl | exact nT (by assumption) | exact nF (by assumption) | exact hc | exact shU8 _ _ _ | apply And.intro | decide)
theorem rt00_vq (L:Nat) (b:Nat->Nat) (e:Int) (h0:decide (e=0)=false):VD Try.prog 68 [.p 0 0,.i .i64 6] [some (rdO L b e)] (Orc.inl (Orc.c (Orc.t Orc.z))) (.s
 []) [.keep] [] 1 (fun Lf=>True/\True/\(!decide (e=0))=true/\Lf):=by unfold VD VQ;kernel_rfl
theorem rt0_con (L:Nat) (b:Nat->Nat) (e:Int) (h0:decide (e=0)=false):Con Try.prog 68 [.p 0 0,.i .i64 6] [some (rdO L b e)] (.s []) [.keep]:=by
 exact con_d (rt00_vq (L:=L) (b:=b) (e:=e) (h0:=h0)) (by repeat' first | exact trivial | assumption | exact rfl | exact nT (by assumption) | exact nF (by assumption) | exact hc | apply And.intro | decide)
theorem rt10_vq (tt:List Nat) (tz:Nat) (te:Nat) (L:Nat) (b:Nat->Nat):VD Try.prog 68 [.p 0 0,.i .i64 6] [some (rdO L b 0)] (Orc.inl (oc 2 (Orc.cal [] (.tup [.s tt,
 .i .i64 (Int.ofNat tz),.i .i64 (Int.ofNat te)]) [] Orc.z))) (.s tt) [.set (.cells 138 2 [] (setAll .e 0 [.sv 1 (L-tz) (shiftF tz (byF b)),.i .i64 (Int.ofNat te)]))] [] 1
 (fun Lf=>True/\True/\True/\Con Try.prog 86 [.sv 1 L (byF b),.i .i64 6] [] (.tup [.s tt,.i .i64 (Int.ofNat tz),.i .i64 (Int.ofNat te)]) []/\True/\True/\(0<=
 Int.ofNat tz/\True/\tz<=L/\L<=L)/\True/\Lf):=by unfold VD VQ;kernel_rfl
theorem rt1_con (L:Nat) (b:Nat->Nat) (tt:List Nat) (tz te:Nat) (hz:tz<=L) (hc:Con Try.prog 86 [.sv 1 L (byF b),.i .i64 6] [] (.tup [.s tt,.i .i64 (Int.ofNat tz),.i .i64 (Int.ofNat te)]) []):Con Try.prog 68 [.p 0 0,.i .i64 6] [some (rdO L b 0)] (.s tt) [.set (.cells 138 2 [] (setAll .e 0 [.sv 1 (L-tz) (shiftF tz (byF b)),.i .i64 (Int.ofNat te)]))]:=by
 have r3:(0:Int)<=Int.ofNat tz:=by simp
 have r4:L<=L:=Nat.le_refl _
 exact con_d (rt10_vq (tt:=tt) (tz:=tz) (te:=te) (L:=L) (b:=b)) (by repeat' first | exact trivial | assumption | exact rfl | exact nT (by assumption) | exact nF (by assumption) | exact hc | apply And.intro | decide)
theorem qr00_vq (L:Nat) (b:Nat->Nat) (e:Int) (h0:decide (e=0)=false):VD Try.prog 69 [.agg [.sv 1 L (byF b),.i .i64 e],.i .i64 6] [] (Orc.t Orc.z) (.tup [.s [],
 .agg [.sv 1 L (byF b),.i .i64 e]]) [] [] 2 (fun Lf=>True/\(!decide (e=0))=true/\Lf):=by unfold VD VQ;kernel_rfl
theorem qr0_con (L:Nat) (b:Nat->Nat) (e:Int) (h0:decide (e=0)=false):Con Try.prog 69 [.agg [.sv 1 L (byF b),.i .i64 e],.i .i64 6] [] (.tup [.s [],.agg [.sv 1 L (byF b),.i .i64 e]]) []:=by
 exact con_d (qr00_vq (L:=L) (b:=b) (e:=e) (h0:=h0)) (by repeat' first | exact trivial | assumption | exact rfl | exact nT (by assumption) | exact nF (by assumption) | exact hc | apply And.intro | decide)
theorem qr10_vq (tt:List Nat) (tz:Nat) (te:Nat) (L:Nat) (b:Nat->Nat) (h0:decide (Int.ofNat te=0)=false):VD Try.prog 69 [.agg [.sv 1 L (byF b),.i .i64 0],.i
 .i64 6] [] (Orc.c (Orc.cal [] (.tup [.s tt,.i .i64 (Int.ofNat tz),.i .i64 (Int.ofNat te)]) [] (Orc.t Orc.z))) (.tup [.s [],.agg [.sv 1 L (byF b),.i .i64 (Int.ofNat te)]])
 [] [] 2 (fun Lf=>True/\True/\Con Try.prog 87 [.sv 1 L (byF b),.i .i64 6] [] (.tup [.s tt,.i .i64 (Int.ofNat tz),.i .i64 (Int.ofNat te)]) []/\(!decide (Int.ofNat te =
 0))=true/\True/\Lf):=by unfold VD VQ;kernel_rfl
theorem qr1_con (L:Nat) (b:Nat->Nat) (tt:List Nat) (tz te:Nat) (h0:decide (Int.ofNat te=0)=false) (hc:Con Try.prog 87 [.sv 1 L (byF b),.i .i64 6] [] (.tup [.s tt,.i .i64 (Int.ofNat tz),.i .i64 (Int.ofNat te)]) []):Con Try.prog 69 [.agg [.sv 1 L (byF b),.i .i64 0],.i .i64 6] [] (.tup [.s [],.agg [.sv 1 L (byF b),.i .i64 (Int.ofNat te)]]) []:=by
 exact con_d (qr10_vq (tt:=tt) (tz:=tz) (te:=te) (L:=L) (b:=b) (h0:=h0)) (by repeat' first | exact trivial | assumption | exact rfl | exact nT (by assumption) | exact nF (by assumption) | exact hc | apply And.intro | decide)
theorem qr20_vq (tt:List Nat) (tz:Nat) (te:Nat) (L:Nat) (b:Nat->Nat) (h0:decide (Int.ofNat te=0)=true):VD Try.prog 69 [.agg [.sv 1 L (byF b),.i .i64 0],.i
 .i64 6] [] (Orc.c (Orc.cal [] (.tup [.s tt,.i .i64 (Int.ofNat tz),.i .i64 (Int.ofNat te)]) [] (Orc.f Orc.z))) (.tup [.s tt,.agg [.sv 1 (L-tz) (shiftF tz (byF b)),.i
 .i64 0]]) [] [] 2 (fun Lf=>True/\True/\Con Try.prog 87 [.sv 1 L (byF b),.i .i64 6] [] (.tup [.s tt,.i .i64 (Int.ofNat tz),.i .i64 (Int.ofNat te)]) []/\(!decide
 (Int.ofNat te=0))=false/\True/\(0<=Int.ofNat tz/\True/\tz<=L/\L<=L)/\Lf):=by unfold VD VQ;kernel_rfl
theorem qr2_con (L:Nat) (b:Nat->Nat) (tt:List Nat) (tz te:Nat) (h0:decide (Int.ofNat te=0)=true) (hz:tz<=L) (hc:Con Try.prog 87 [.sv 1 L (byF b),.i .i64 6] [] (.tup [.s tt,.i .i64 (Int.ofNat tz),.i .i64 (Int.ofNat te)]) []):Con Try.prog 69 [.agg [.sv 1 L (byF b),.i .i64 0],.i .i64 6] [] (.tup [.s tt,.agg [.sv 1 (L-tz) (shiftF tz (byF b)),.i .i64 0]]) []:=by
 have r3:(0:Int)<=Int.ofNat tz:=by simp
 have r4:L<=L:=Nat.le_refl _
 exact con_d (qr20_vq (tt:=tt) (tz:=tz) (te:=te) (L:=L) (b:=b) (h0:=h0)) (by repeat' first | exact trivial | assumption | exact rfl | exact nT (by assumption) | exact nF (by assumption) | exact hc | apply And.intro | decide)
theorem u_lt {u:List Nat} (h:Byt u) (k:Nat):tB u k<256:=tB_lt h k
theorem num_u {u:List Nat} (h:Byt u):Con Try.prog 55 [.p 0 0] [some (rO ⟨u,0⟩)] (.i .i64 (Int.ofNat (nvU u))) [.set (rO ⟨u.drop (nzU u),Int.ofNat (neU u)⟩)]:=by
 have k:=rdNum_con u.length (tB u) (u_lt h)
 unfold rO
 show Con Try.prog 55 [.p 0 0] [some (rdO u.length (tB u) 0)] (.i .i64 (Int.ofNat (nmv (tB u) u.length))) [.set (rdO (u.drop (nmz (tB u) u.length)).length (tB (u.drop (nmz (tB u) u.length))) (Int.ofNat (nme (tB u) u.length)))]
 rw [<-shB_drop,List.length_drop]
 exact k
theorem rnum_r (r:Rd) (h:Byt r.u):Con Try.prog 55 [.p 0 0] [some (rO r)] (.i .i64 (Int.ofNat (rV r))) [.set (rO (rN r))]:=by
 obtain ⟨u,e⟩:=r
 cases he:decide (e=0) with
 | true=>
   obtain rfl:=of_decide_eq_true he
   exact num_u h
 | false=>
   have k:=(rdNumE_con u.length (tB u) e (of_decide_eq_false he)).post (us':=[.set (rO ⟨u,e⟩)]) (.refl _) ⟨.refl _,trivial⟩
   have e1:rV ⟨u,e⟩=0:=by unfold rV;rw [he];rfl
   have e2:rN ⟨u,e⟩=⟨u,e⟩:=by unfold rN;rw [he];rfl
   rw [e1,e2];exact k
theorem qnum_r (r:Rd) (h:Byt r.u):Con Try.prog 70 [rG r] [] (.tup [.i .i64 (Int.ofNat (rV r)),rG (rN r)]) []:=by
 obtain ⟨u,e⟩:=r
 cases he:decide (e=0) with
 | true=>
   obtain rfl:=of_decide_eq_true he
   show Con Try.prog 70 [.agg [.sv 1 u.length (byF (tB u)),.i .i64 0]] [] (.tup [.i .i64 (Int.ofNat (nvU u)),.agg [.sv 1 (u.drop (nzU u)).length (byF (tB (u.drop (nzU u)))),.i .i64 (Int.ofNat (neU u))]]) []
   cases hn:decide (neU u=0) with
   | true=>
     have hn:=of_decide_eq_true hn
     have k:=rnO_con (tB u) u.length (u_lt h) hn (nmz_le _ _)
     rw [sv_drop] at k
     rw [hn];exact k
   | false=>
     have hn:=of_decide_eq_false hn
     have k:=rnB_con (tB u) u.length (u_lt h) hn
     obtain ⟨e1,e2⟩:=nm_err (tB u) u.length hn
     rw [show nvU u=0 from e1,show nzU u=0 from e2]
     exact k
 | false=>
   have k:=rnE_con (tB u) u.length e (of_decide_eq_false he)
   have e1:rV ⟨u,e⟩=0:=by unfold rV;rw [he];rfl
   have e2:rN ⟨u,e⟩=⟨u,e⟩:=by unfold rN;rw [he];rfl
   rw [e1,e2];exact k
theorem pt_u {u:List Nat} (h:Byt u) (hL:u.length<=140737488351232):Con Try.prog 86 [.sv 1 u.length (byF (tB u)),.i .i64 6] [] (.tup [.s (txV u),.i .i64 (Int.ofNat (txZ u)),.i .i64 (Int.ofNat (txE u))]) []:=by
 have hc:Con Try.prog 84 [.sv 1 u.length (byF (tB u))] [] (.tup [.i .i64 (Int.ofNat (nvU u)),.i .i64 (Int.ofNat (nzU u)),.i .i64 (Int.ofNat (neU u))]) []:=num_con (tB u) u.length (u_lt h)
 have hz:nzU u<=u.length:=nmz_le _ _
 unfold txV txZ txE
 cases h0:decide (Int.ofNat (neU u)=0) with
 | false=>exact pt0_con _ _ _ _ _ h0 hL hz hc
 | true=>cases h1:decide ((6:Int)<Int.ofNat (nvU u)) with
   | true=>exact pt1_con _ _ _ _ _ h0 h1 hL hz hc
   | false=>cases h2:decide (Int.ofNat u.length-Int.ofNat (nzU u)<Int.ofNat (nvU u)) with
     | true=>exact pt2_con _ _ _ _ _ h0 h1 h2 hL hz hc
     | false=>
       have k:=pt3_con _ _ _ _ _ h0 h1 h2 hL hz hc
       rw [tx_eq h (txl h2 hz)] at k
       exact k
theorem qt_u {u:List Nat} (h:Byt u) (hL:u.length<=140737488351232):Con Try.prog 87 [.sv 1 u.length (byF (tB u)),.i .i64 6] [] (.tup [.s (txV u),.i .i64 (Int.ofNat (txZ u)),.i .i64 (Int.ofNat (txE u))]) []:=by
 have hc:Con Try.prog 58 [.sv 1 u.length (byF (tB u))] [] (.tup [.i .i64 (Int.ofNat (nvU u)),.i .i64 (Int.ofNat (nzU u)),.i .i64 (Int.ofNat (neU u))]) []:=tk_con (tB u) u.length (u_lt h)
 have hz:nzU u<=u.length:=nmz_le _ _
 unfold txV txZ txE
 cases h0:decide (Int.ofNat (neU u)=0) with
 | false=>exact qt0_con _ _ _ _ _ h0 hL hz hc
 | true=>cases h1:decide ((6:Int)<Int.ofNat (nvU u)) with
   | true=>exact qt1_con _ _ _ _ _ h0 h1 hL hz hc
   | false=>cases h2:decide (Int.ofNat u.length-Int.ofNat (nzU u)<Int.ofNat (nvU u)) with
     | true=>exact qt2_con _ _ _ _ _ h0 h1 h2 hL hz hc
     | false=>
       have k:=qt3_con _ _ _ _ _ h0 h1 h2 hL hz hc
       rw [tx_eq h (txl h2 hz)] at k
       exact k
theorem txZ_le (u:List Nat):txZ u<=u.length:=by
 have hz:nzU u<=u.length:=nmz_le _ _
 unfold txZ
 cases decide (Int.ofNat (neU u)=0) with
 | false=>exact Nat.zero_le _
 | true=>cases decide ((6:Int)<Int.ofNat (nvU u)) with
   | true=>exact Nat.zero_le _
   | false=>cases h2:decide (Int.ofNat u.length-Int.ofNat (nzU u)<Int.ofNat (nvU u)) with
     | true=>exact Nat.zero_le _
     | false=>exact txl h2 hz
theorem tx_err (u:List Nat) (h:txE u≠0):txV u=[]/\txZ u=0:=by
 unfold txE at h
 unfold txV txZ
 cases h0:decide (Int.ofNat (neU u)=0) with
 | false=>exact ⟨rfl,rfl⟩
 | true=>rw [h0] at h;cases h1:decide ((6:Int)<Int.ofNat (nvU u)) with
   | true=>exact ⟨rfl,rfl⟩
   | false=>rw [h1] at h;cases h2:decide (Int.ofNat u.length-Int.ofNat (nzU u)<Int.ofNat (nvU u)) with
     | true=>exact ⟨rfl,rfl⟩
     | false=>rw [h2] at h;exact absurd rfl h
theorem rtext_r (r:Rd) (h:Byt r.u) (hL:r.u.length<=140737488351232):Con Try.prog 68 [.p 0 0,.i .i64 6] [some (rO r)] (.s (rT r)) [.set (rO (rX r))]:=by
 obtain ⟨u,e⟩:=r
 cases he:decide (e=0) with
 | true=>
   obtain rfl:=of_decide_eq_true he
   have k:=rt1_con u.length (tB u) _ _ _ (txZ_le u) (pt_u h hL)
   rw [sv_drop] at k
   exact k
 | false=>
   have k:=(rt0_con u.length (tB u) e he).post (us':=[.set (rO ⟨u,e⟩)]) (.refl _) ⟨.refl _,trivial⟩
   have e1:rT ⟨u,e⟩=[]:=by unfold rT;rw [he];rfl
   have e2:rX ⟨u,e⟩=⟨u,e⟩:=by unfold rX;rw [he];rfl
   rw [e1,e2];exact k
theorem qtext_r (r:Rd) (h:Byt r.u) (hL:r.u.length<=140737488351232):Con Try.prog 69 [rG r,.i .i64 6] [] (.tup [.s (rT r),rG (rX r)]) []:=by
 obtain ⟨u,e⟩:=r
 cases he:decide (e=0) with
 | true=>
   obtain rfl:=of_decide_eq_true he
   show Con Try.prog 69 [.agg [.sv 1 u.length (byF (tB u)),.i .i64 0],.i .i64 6] [] (.tup [.s (txV u),.agg [.sv 1 (u.drop (txZ u)).length (byF (tB (u.drop (txZ u)))),.i .i64 (Int.ofNat (txE u))]]) []
   have hc:=qt_u h hL
   cases hn:decide (Int.ofNat (txE u)=0) with
   | true=>
     have hn':txE u=0:=by have:=of_decide_eq_true hn;simp at this;omega
     have k:=qr2_con u.length (tB u) _ _ _ hn (txZ_le u) hc
     rw [sv_drop] at k
     rw [hn'];exact k
   | false=>
     have hn':txE u≠0:=by have:=of_decide_eq_false hn;simp at this;omega
     have k:=qr1_con u.length (tB u) _ _ _ hn hc
     obtain ⟨e1,e2⟩:=tx_err u hn'
     rw [e1,e2];exact k
 | false=>
   have k:=qr0_con u.length (tB u) e he
   have e1:rT ⟨u,e⟩=[]:=by unfold rT;rw [he];rfl
   have e2:rX ⟨u,e⟩=⟨u,e⟩:=by unfold rX;rw [he];rfl
   rw [e1,e2];exact k
end Go.Proofs.Ly
