/- Runs over unknown values, told by the kernel: part GC. -/
import Derived.Test.YtjhcbjncdbmhoaaGB
set_option linter.unusedSimpArgs false
set_option linter.unusedVariables false
set_option maxRecDepth 20000
namespace Go.Proofs.Ly
open Go Go.Sim Go.Proofs Go.Proofs.Cl Go.Proofs.Ytjhcbjncdbmhoaa
def gat (f:Nat->Bool):Nat->Nat
 | 0=>0
 | i+1=>gat f i+(bif f i then 2 ^ i else 0)
theorem gat_lt (f:Nat->Bool):∀n,gat f n<2 ^ n
 | 0=>Nat.zero_lt_one
 | n+1=>by
   have:=gat_lt f n
   show gat f n+(bif f n then 2 ^ n else 0)<2 ^ (n+1)
   rw [Nat.pow_succ]
   cases f n
   · show gat f n+0<_;omega
   · show gat f n+2 ^ n<_;omega
theorem pow_le {i n:Nat} (h:i<=n):2 ^ i<=2 ^ n:=Nat.pow_le_pow_right (by decide) h
theorem i_pow (i:Nat):(2:Int) ^ i=Int.ofNat (2 ^ i):=by
 show (2:Int) ^ i=((2 ^ i:Nat):Int)
 rw [Int.natCast_pow];rfl
theorem ga_or {f:Nat->Bool} {i:Nat} (hi:i<60) (h:f i=true):wrapA IntKind.i64 ↑(BitVec.toNat (BitVec.ofInt 64 (Int.ofNat (gat f i)) ||| BitVec.ofInt 64 (wrapA IntKind.i64 ((1:Int)*(2:Int) ^ min i 64))))=Int.ofNat (gat f (i+1)):=by
 have hp:2 ^ i<=2 ^ 60:=pow_le (by omega)
 have h60:2 ^ 60=1152921504606846976:=by decide
 have hg:=gat_lt f i
 have e1:wrapA IntKind.i64 ((1:Int)*(2:Int) ^ min i 64)=Int.ofNat (2 ^ i):=by
  rw [Int.one_mul,show min i 64=i by omega,i_pow];exact wrap64 (by omega)
 rw [e1,BitVec.toNat_or,ofInt_nat,ofInt_nat,Nat.mod_eq_of_lt (by omega),Nat.mod_eq_of_lt (by omega)]
 have e2:gat f i ||| 2 ^ i=gat f i+2 ^ i:=by
  have:=Nat.two_pow_add_eq_or_of_lt hg 1
  rw [Nat.mul_one] at this
  rw [Nat.or_comm,<-this,Nat.add_comm]
 rw [e2]
 have e3:gat f (i+1)=gat f i+2 ^ i:=by show gat f i+(bif f i then 2 ^ i else 0)= _;rw [h];rfl
 rw [e3]
 exact wrap64 (by omega)
theorem gat_s {f:Nat->Bool} {i:Nat} (h:f i=false):gat f (i+1)=gat f i:=by show gat f i+(bif f i then 2 ^ i else 0)= _;rw [h];rfl
theorem gat_t {f:Nat->Bool} {i:Nat} (h:f i=true):gat f (i+1)=gat f i+2 ^ i:=by show gat f i+(bif f i then 2 ^ i else 0)= _;rw [h];rfl
def f2I (a b:Int):List Nat:=fI [a,b]
theorem ga_rw (f:Nat->Bool) {n:Nat} (hn:n<60):rwI (Int.ofNat (gat f n)):=by
 have h:=gat_lt f n
 have hp:2 ^ n<=2 ^ 60:=pow_le (by omega)
 have h60:2 ^ 60=1152921504606846976:=by decide
 exact ⟨by simp,by simp;omega⟩
theorem gaT_lq (n i s:Nat) (f:Nat->Bool) (h0:decide (Int.ofNat i<Int.ofNat n)=true) (h1:f i=true):LD Try.prog (loopAt Try.prog 50 0) 20 0 [(3,.i .i64
 (Int.ofNat s)),(6,.sv 1 n (fun i _=>.b (f i))),(7,.i .i64 (Int.ofNat n)),(8,.i .i64 (Int.ofNat i))] [] (Orc.t (Orc.t Orc.z)) .nrm [] [(3,.i .i64 (wrapA .i64
 ↑(BitVec.toNat (BitVec.ofInt 64 (Int.ofNat s) ||| BitVec.ofInt 64 (wrapA .i64 ((1:Int)*(2:Int) ^ min i 64)))))),(6,.sv 1 n (fun i _=>.b (f i))),(7,.i .i64
 (Int.ofNat n)),(8,.i .i64 (Int.ofNat i+1))] [] 0 (fun Lf=>decide (Int.ofNat i<Int.ofNat n)=true/\(0<=Int.ofNat i/\Int.ofNat i<↑n)/\True/\f i=true/\0<=
 Int.ofNat i/\True/\rg (Int.ofNat i+1)/\Lf):=by unfold LD LQ;kernel_rfl
theorem gaF_lq (n i s:Nat) (f:Nat->Bool) (h0:decide (Int.ofNat i<Int.ofNat n)=true) (h1:f i=false):LD Try.prog (loopAt Try.prog 50 0) 20 0 [(3,.i .i64
 (Int.ofNat s)),(6,.sv 1 n (fun i _=>.b (f i))),(7,.i .i64 (Int.ofNat n)),(8,.i .i64 (Int.ofNat i))] [] (Orc.t (Orc.f Orc.z)) .nrm [] [(3,.i .i64 (Int.ofNat s)),(6,
 .sv 1 n (fun i _=>.b (f i))),(7,.i .i64 (Int.ofNat n)),(8,.i .i64 (Int.ofNat i+1))] [] 0 (fun Lf=>decide (Int.ofNat i<Int.ofNat n)=true/\(0<=Int.ofNat i/\
 Int.ofNat i<↑n)/\True/\f i=false/\rg (Int.ofNat i+1)/\Lf):=by unfold LD LQ;kernel_rfl
theorem gaE_lq (n i s:Nat) (f:Nat->Bool) (h0:decide (Int.ofNat i<Int.ofNat n)=false):LD Try.prog (loopAt Try.prog 50 0) 20 0 [(3,.i .i64 (Int.ofNat s)),(6,.sv 1
 n (fun i _=>.b (f i))),(7,.i .i64 (Int.ofNat n)),(8,.i .i64 (Int.ofNat i))] [] (Orc.f Orc.z) (.exit 0) [] [(3,.i .i64 (Int.ofNat s))] [] 0 (fun Lf=>decide (Int.ofNat
 i<Int.ofNat n)=false/\Lf):=by unfold LD LQ;kernel_rfl
theorem ga00_vq (s0:Nat) (n:Nat) (f:Nat->Bool):VD Try.prog 50 [.sv 1 n (fun i _=>.b (f i))] [] (Orc.lop [] [3,6,7,8] 0 (XO.exit 0) [(3,.i .i64 (Int.ofNat s0))]
 [] Orc.z) (.i .i64 (Int.ofNat s0)) [] [] 0 (fun Lf=>LDoes Try.prog (loopAt Try.prog 50 0) 20 0 (mkT [(3,.i .i64 0),(6,.sv 1 n fun i x=>CV.b (f i)),(7,.i .i64
 (Int.ofNat n)),(8,.i .i64 0)]) [] (XO.exit 0) (mkT [(3,.i .i64 (Int.ofNat s0))]) []/\Lf):=by unfold VD VQ;kernel_rfl
theorem ga0_con (n:Nat) (f:Nat->Bool) (s0:Nat) (hl:LDoes Try.prog (loopAt Try.prog 50 0) 20 0 (mkT [(3,.i .i64 0),(6,.sv 1 n (fun i _=>.b (f i))),(7,.i .i64 (Int.ofNat n)),(8,.i .i64 0)]) [] (.exit 0) (mkT [(3,.i .i64 (Int.ofNat s0))]) []):Con Try.prog 50 [.sv 1 n (fun i _=>.b (f i))] [] (.i .i64 (Int.ofNat s0)) []:=by
 exact con_d (ga00_vq (s0:=s0) (n:=n) (f:=f)) (by repeat' first | exact trivial | assumption | exact rfl | exact nT (by assumption) | exact nF (by assumption) | exact hl | apply And.intro)
theorem ga_lp (n:Nat) (f:Nat->Bool) (hn:n<60):LDoes Try.prog (loopAt Try.prog 50 0) 20 0 (mkT [(3,.i .i64 0),(6,.sv 1 n (fun i _=>.b (f i))),(7,.i .i64 (Int.ofNat n)),(8,.i .i64 0)]) [] (.exit 0) (mkT [(3,.i .i64 (Int.ofNat (gat f n)))]) []:=by
 refine loop_q (fun i:Nat=>([(3,.i .i64 (Int.ofNat (gat f i))),(6,.sv 1 n (fun i _=>.b (f i))),(7,.i .i64 (Int.ofNat n)),(8,.i .i64 (Int.ofNat i))],[])) (fun i=>n-i) (fun i=>i<=n) (fun _=>Nat.le_refl _) ?_ 0 (Nat.zero_le _)
 intro i hi
 rcases Nat.lt_or_ge i n with hlt | q
 · have h1:decide (Int.ofNat i<Int.ofNat n)=true:=decide_eq_true (by simp;omega)
   have bi:(0:Int)<=Int.ofNat i/\Int.ofNat i<(↑n:Int):=⟨by simp,by simp;omega⟩
   have b0:(0:Int)<=Int.ofNat i:=bi.1
   have ri:rg (Int.ofNat i+1):=⟨by simp<;>omega,by simp<;>omega⟩
   cases h:f i with
   | true=>exact rd_nrm (gaT_lq n i (gat f i) f h1 h) (by repeat' first | exact trivial | assumption | exact rfl | exact nT (by assumption) | exact nF (by assumption) | apply And.intro) (i+1) hlt (by show n-(i+1)<n-i;omega) rfl (by rw [ga_or (by omega) h];exact .refl _) (.refl _)
   | false=>exact rd_nrm (gaF_lq n i (gat f i) f h1 h) (by repeat' first | exact trivial | assumption | exact rfl | exact nT (by assumption) | exact nF (by assumption) | apply And.intro) (i+1) hlt (by show n-(i+1)<n-i;omega) rfl (by rw [gat_s h];exact .refl _) (.refl _)
 · obtain rfl:i=n:=Nat.le_antisymm hi q
   have h1:decide (Int.ofNat i<Int.ofNat i)=false:=decide_eq_false (by simp)
   exact rd_out (gaE_lq i i (gat f i) f h1) ⟨h1,rfl⟩ rfl rfl (.refl _) (.refl _)
theorem ga_con (n:Nat) (f:Nat->Bool) (hn:n<60):Con Try.prog 50 [.sv 1 n (fun i _=>.b (f i))] [] (.i .i64 (Int.ofNat (gat f n))) []:=ga0_con n f _ (ga_lp n f hn)
theorem ga8_con (g:Nat->Bool):Con Try.prog 50 [.l 0 0 8 8 1 true] [some (cellsO 37 [.b (g 0),.b (g 1),.b (g 2),.b (g 3),.b (g 4),.b (g 5),.b (g 6),.b (g 7),.b (g 8),.b (g 9),.b (g 10),.b (g 11),.b (g 12),.b (g 13),.b (g 14),.b (g 15),.b (g 16),.b (g 17),.b (g 18),.b (g 19),.b (g 20),.b (g 21),.b (g 22),.b (g 23),.b (g 24),.b (g 25),.b (g 26),.b (g 27),.b (g 28),.b (g 29),.b (g 30),.b (g 31)])] (.i .i64 (Int.ofNat (gat (fun i=>g (0+i)) 8))) [.keep]:=
 ((ga_con 8 (fun i=>g (0+i)) (by decide)).pre (pargs':=[.sv 1 8 (listF 1 [.b (g 0),.b (g 1),.b (g 2),.b (g 3),.b (g 4),.b (g 5),.b (g 6),.b (g 7),.b (g 8),.b (g 9),.b (g 10),.b (g 11),.b (g 12),.b (g 13),.b (g 14),.b (g 15),.b (g 16),.b (g 17),.b (g 18),.b (g 19),.b (g 20),.b (g 21),.b (g 22),.b (g 23),.b (g 24),.b (g 25),.b (g 26),.b (g 27),.b (g 28),.b (g 29),.b (g 30),.b (g 31)] 8)]) ⟨by
   refine .sv fun i j hi hj=>?_
   obtain rfl:j=0:=by omega
   have hi:i<8:=hi
   rcases i with _ | _ | _ | _ | _ | _ | _ | _ | i<;>first | rfl | omega,trivial⟩).borrow (pargs0:=[.l 0 0 8 8 1 true]) (objs:=[some (cellsO 37 [.b (g 0),.b (g 1),.b (g 2),.b (g 3),.b (g 4),.b (g 5),.b (g 6),.b (g 7),.b (g 8),.b (g 9),.b (g 10),.b (g 11),.b (g 12),.b (g 13),.b (g 14),.b (g 15),.b (g 16),.b (g 17),.b (g 18),.b (g 19),.b (g 20),.b (g 21),.b (g 22),.b (g 23),.b (g 24),.b (g 25),.b (g 26),.b (g 27),.b (g 28),.b (g 29),.b (g 30),.b (g 31)])]) [0] (frzP 0 (.cells 32 [.b (g 0),.b (g 1),.b (g 2),.b (g 3),.b (g 4),.b (g 5),.b (g 6),.b (g 7),.b (g 8),.b (g 9),.b (g 10),.b (g 11),.b (g 12),.b (g 13),.b (g 14),.b (g 15),.b (g 16),.b (g 17),.b (g 18),.b (g 19),.b (g 20),.b (g 21),.b (g 22),.b (g 23),.b (g 24),.b (g 25),.b (g 26),.b (g 27),.b (g 28),.b (g 29),.b (g 30),.b (g 31)]) (.tup [.l 0 0 8 8 1 true])/\True) (by kernel_rfl) (by kernel_rfl) (by kernel_rfl) ⟨by simp [frzP,frzsP],trivial⟩ (by kernel_rfl) (by kernel_rfl) VR_i
theorem ga24_con (g:Nat->Bool):Con Try.prog 50 [.l 0 8 24 24 1 true] [some (cellsO 37 [.b (g 0),.b (g 1),.b (g 2),.b (g 3),.b (g 4),.b (g 5),.b (g 6),.b (g 7),.b (g 8),.b (g 9),.b (g 10),.b (g 11),.b (g 12),.b (g 13),.b (g 14),.b (g 15),.b (g 16),.b (g 17),.b (g 18),.b (g 19),.b (g 20),.b (g 21),.b (g 22),.b (g 23),.b (g 24),.b (g 25),.b (g 26),.b (g 27),.b (g 28),.b (g 29),.b (g 30),.b (g 31)])] (.i .i64 (Int.ofNat (gat (fun i=>g (8+i)) 24))) [.keep]:=
 ((ga_con 24 (fun i=>g (8+i)) (by decide)).pre (pargs':=[.sv 1 24 (listF 1 [.b (g 8),.b (g 9),.b (g 10),.b (g 11),.b (g 12),.b (g 13),.b (g 14),.b (g 15),.b (g 16),.b (g 17),.b (g 18),.b (g 19),.b (g 20),.b (g 21),.b (g 22),.b (g 23),.b (g 24),.b (g 25),.b (g 26),.b (g 27),.b (g 28),.b (g 29),.b (g 30),.b (g 31)] 24)]) ⟨by
   refine .sv fun i j hi hj=>?_
   obtain rfl:j=0:=by omega
   have hi:i<24:=hi
   rcases i with _ | _ | _ | _ | _ | _ | _ | _ | _ | _ | _ | _ | _ | _ | _ | _ | _ | _ | _ | _ | _ | _ | _ | _ | i<;>first | rfl | omega,trivial⟩).borrow (pargs0:=[.l 0 8 24 24 1 true]) (objs:=[some (cellsO 37 [.b (g 0),.b (g 1),.b (g 2),.b (g 3),.b (g 4),.b (g 5),.b (g 6),.b (g 7),.b (g 8),.b (g 9),.b (g 10),.b (g 11),.b (g 12),.b (g 13),.b (g 14),.b (g 15),.b (g 16),.b (g 17),.b (g 18),.b (g 19),.b (g 20),.b (g 21),.b (g 22),.b (g 23),.b (g 24),.b (g 25),.b (g 26),.b (g 27),.b (g 28),.b (g 29),.b (g 30),.b (g 31)])]) [0] (frzP 0 (.cells 32 [.b (g 0),.b (g 1),.b (g 2),.b (g 3),.b (g 4),.b (g 5),.b (g 6),.b (g 7),.b (g 8),.b (g 9),.b (g 10),.b (g 11),.b (g 12),.b (g 13),.b (g 14),.b (g 15),.b (g 16),.b (g 17),.b (g 18),.b (g 19),.b (g 20),.b (g 21),.b (g 22),.b (g 23),.b (g 24),.b (g 25),.b (g 26),.b (g 27),.b (g 28),.b (g 29),.b (g 30),.b (g 31)]) (.tup [.l 0 8 24 24 1 true])/\True) (by kernel_rfl) (by kernel_rfl) (by kernel_rfl) ⟨by simp [frzP,frzsP],trivial⟩ (by kernel_rfl) (by kernel_rfl) VR_i
theorem es0_vq (sa:Nat) (sb:Nat) (f2:Int->Int->List Nat) (g:Nat->Bool):VD Try.prog 19 [.agg [.b (g 0),.b (g 1),.b (g 2),.b (g 3),.b (g 4),.b (g 5),.b (g 6),
 .b (g 7),.b (g 8),.b (g 9),.b (g 10),.b (g 11),.b (g 12),.b (g 13),.b (g 14),.b (g 15),.b (g 16),.b (g 17),.b (g 18),.b (g 19),.b (g 20),.b (g 21),.b (g 22),
 .b (g 23),.b (g 24),.b (g 25),.b (g 26),.b (g 27),.b (g 28),.b (g 29),.b (g 30),.b (g 31)]] [] (Orc.cal [0] (.i .i64 (Int.ofNat sa)) [.keep] (Orc.cal [0] (.i .i64
 (Int.ofNat sb)) [.keep] (Orc.cal [1] (.s (f2 (Int.ofNat sa) (Int.ofNat sb))) [.keep] Orc.z))) (.s (f2 (Int.ofNat sa) (Int.ofNat sb))) [] [] 2 (fun Lf=>True/\Con Try.prog
 50 [.l 0 0 8 8 1 true] [some (cellsO 37 [.b (g 0),.b (g 1),.b (g 2),.b (g 3),.b (g 4),.b (g 5),.b (g 6),.b (g 7),.b (g 8),.b (g 9),.b (g 10),.b (g 11),.b (g 12),
 .b (g 13),.b (g 14),.b (g 15),.b (g 16),.b (g 17),.b (g 18),.b (g 19),.b (g 20),.b (g 21),.b (g 22),.b (g 23),.b (g 24),.b (g 25),.b (g 26),.b (g 27),.b (g
 28),.b (g 29),.b (g 30),.b (g 31)])] (.i .i64 (Int.ofNat sa)) [.keep]/\True/\Con Try.prog 50 [.l 0 8 24 24 1 true] [some (cellsO 37 [.b (g 0),.b (g 1),.b (g 2),.b (g
 3),.b (g 4),.b (g 5),.b (g 6),.b (g 7),.b (g 8),.b (g 9),.b (g 10),.b (g 11),.b (g 12),.b (g 13),.b (g 14),.b (g 15),.b (g 16),.b (g 17),.b (g 18),.b (g 19),
 .b (g 20),.b (g 21),.b (g 22),.b (g 23),.b (g 24),.b (g 25),.b (g 26),.b (g 27),.b (g 28),.b (g 29),.b (g 30),.b (g 31)])] (.i .i64 (Int.ofNat sb)) [.keep]/\Con
 Try.prog 37 [.l 0 0 2 2 1 true] [some (cellsO 3 [.i .i64 (Int.ofNat sa),.i .i64 (Int.ofNat sb)])] (.s (f2 (Int.ofNat sa) (Int.ofNat sb))) [.keep]/\Lf)
 :=by unfold VD VQ;kernel_rfl
theorem es_con (g:Nat->Bool):Con Try.prog 19 [.agg [.b (g 0),.b (g 1),.b (g 2),.b (g 3),.b (g 4),.b (g 5),.b (g 6),.b (g 7),.b (g 8),.b (g 9),.b (g 10),.b (g 11),.b (g 12),.b (g 13),.b (g 14),.b (g 15),.b (g 16),.b (g 17),.b (g 18),.b (g 19),.b (g 20),.b (g 21),.b (g 22),.b (g 23),.b (g 24),.b (g 25),.b (g 26),.b (g 27),.b (g 28),.b (g 29),.b (g 30),.b (g 31)]] [] (.s (f2I (Int.ofNat (gat (fun i=>g (0+i)) 8)) (Int.ofNat (gat (fun i=>g (8+i)) 24)))) []:=by
 generalize hsa:gat (fun i=>g (0+i)) 8=sa
 generalize hsb:gat (fun i=>g (8+i)) 24=sb
 have k1:=ga8_con g
 have k2:=ga24_con g
 rw [hsa] at k1;rw [hsb] at k2
 have k3:=f2_con (Int.ofNat sa) (Int.ofNat sb) (hsa▸ga_rw _ (by decide)) (hsb▸ga_rw _ (by decide))
 exact con_d (es0_vq (sa:=sa) (sb:=sb) (f2:=f2I) (g:=g)) (by repeat' first | exact trivial | assumption | exact rfl | exact nT (by assumption) | exact nF (by assumption) | exact ga8_con _ | exact ga24_con _ | exact f2_con _ _ (ga_rw _ (by decide)) (ga_rw _ (by decide)) | apply And.intro)
noncomputable def sgT (g:Nat->Bool):List Nat:=f2I (Int.ofNat (gat (fun i=>g (0+i)) 8)) (Int.ofNat (gat (fun i=>g (8+i)) 24))
theorem seg_con (g:Nat->Bool):Con Try.prog 19 [.agg [.b (g 0),.b (g 1),.b (g 2),.b (g 3),.b (g 4),.b (g 5),.b (g 6),.b (g 7),.b (g 8),.b (g 9),.b (g 10),.b (g 11),.b (g 12),.b (g 13),.b (g 14),.b (g 15),.b (g 16),.b (g 17),.b (g 18),.b (g 19),.b (g 20),.b (g 21),.b (g 22),.b (g 23),.b (g 24),.b (g 25),.b (g 26),.b (g 27),.b (g 28),.b (g 29),.b (g 30),.b (g 31)]] [] (.s (sgT g)) []:=es_con g
def rlN (v:Int):Nat:=(fN v.toNat).length
noncomputable def rlF (v:Int):Nat->Nat:=tB (fN v.toNat)
theorem rnI_con (v:Int) (h:rwI v):Con Try.prog 39 [.i .i64 v] [] (.sv 1 (rlN v) (byF (rlF v))) []:=by
 have:=rnum_con v.toNat (by unfold rwI at h;omega)
 rwa [nat_of h] at this
theorem rl_u8 (v:Int):U8s (rlN v) (byF (rlF v)):=u8_of _
theorem rl_eq {v:Int} (h:rwI v):bytesF (rlN v) (byF (rlF v))=fI [v]:=by
 unfold rlN rlF
 rw [bts_eq (fN_byt (by unfold rwI at h;omega))]
 show fN v.toNat=fN v.toNat ++ []
 rw [List.append_nil]
theorem rl_len {v:Int} {t:List Nat} (h:blB v t=true):(bytesF (rlN v) (byF (rlF v))).length+t.length<=1073741824:=by
 rw [rl_eq (bl_rw h)];exact bl_len h
noncomputable def zrR (k g l s d0 d1 d2 d3 i:Int):Bool:=zrB k g l s d0 d1 d2 d3 i
noncomputable def rinT (k l s i:Int):Bool:=bif decide (k=1) then decide (1<=l) && (decide (l<=9) && (decide (0<=s) && (decide (s<=384) && (decide (i=0) || wi i 32 79)))) else bif decide (k=2) then decide (l=1) && (decide (0<=s) && (decide (s<=128) && (decide (0<=i) && decide (i<16)))) else false
theorem rb00_vq (bl:Int->List Nat->Bool) (v:Int) (t:List Nat) (h0:bl v t=true) (h1:decide (v=0)=true):VD Try.prog 12 [.agg [.i .i64 v,.s t]] [] (Orc.cal []
 (.b (bl v t)) [] (Orc.f (Orc.t Orc.z))) (.tup [.s [],.i .i64 0]) [] [] 1 (fun Lf=>Con Try.prog 38 [.agg [.i .i64 v,.s t]] [] (.b (bl v t)) []/\True/\(!bl v t)=false/\
 True/\decide (v=0)=true/\Lf):=by unfold VD VQ;kernel_rfl
theorem rb01_vq (rl:Int->Nat) (rf:Int->Nat->Nat) (bl:Int->List Nat->Bool) (v:Int) (t:List Nat) (h0:bl v t=true) (h1:decide (v=0)=false):VD Try.prog
 12 [.agg [.i .i64 v,.s t]] [] (Orc.cal [] (.b (bl v t)) [] (Orc.f (Orc.f (Orc.cal [] (.sv 1 (rl v) (byF (rf v))) [] Orc.z)))) (.tup [.s (bytesF (rl v) (byF (rf v)) ++ t),.i
 .i64 0]) [] [] 1 (fun Lf=>Con Try.prog 38 [.agg [.i .i64 v,.s t]] [] (.b (bl v t)) []/\True/\(!bl v t)=false/\True/\decide (v=0)=false/\True/\Con Try.prog 39
 [.i .i64 v] [] (.sv 1 (rl v) (byF (rf v))) []/\U8s (rl v) (byF (rf v))/\True/\List.length (bytesF (rl v) (byF (rf v)))+List.length t<=1073741824/\Lf)
 :=by unfold VD VQ;kernel_rfl
theorem rb02_vq (bl:Int->List Nat->Bool) (v:Int) (t:List Nat) (h0:bl v t=false):VD Try.prog 12 [.agg [.i .i64 v,.s t]] [] (Orc.cal [] (.b (bl v t)) [] (Orc.t
 Orc.z)) (.tup [.s [],.i .i64 2]) [] [] 1 (fun Lf=>Con Try.prog 38 [.agg [.i .i64 v,.s t]] [] (.b (bl v t)) []/\True/\(!bl v t)=true/\Lf)
 :=by unfold VD VQ;kernel_rfl
theorem rb0_con (v:Int) (t:List Nat):Con Try.prog 12 [.agg [.i .i64 v,.s t]] [] (.tup [.s (bif blB v t then (bif decide (v=0) then [] else bytesF (rlN v) (byF (rlF v)) ++ t) else []),.i .i64 (ebE v t)]) []:=by
 unfold ebE
 cases h0:blB v t with
 | true=>
   cases h1:decide (v=0) with
   | true=>
     exact con_d (rb00_vq (bl:=blB) (v:=v) (t:=t) (h0:=h0) (h1:=h1)) (by repeat' first | exact trivial | assumption | exact rfl | exact nT (by assumption) | exact nF (by assumption) | exact rb_con _ _ | exact rnI_con _ (bl_rw (by assumption)) | exact rl_u8 _ | exact rl_len (by assumption) | apply And.intro | decide)
   | false=>
     exact con_d (rb01_vq (rl:=rlN) (rf:=rlF) (bl:=blB) (v:=v) (t:=t) (h0:=h0) (h1:=h1)) (by repeat' first | exact trivial | assumption | exact rfl | exact nT (by assumption) | exact nF (by assumption) | exact rb_con _ _ | exact rnI_con _ (bl_rw (by assumption)) | exact rl_u8 _ | exact rl_len (by assumption) | apply And.intro | decide)
 | false=>
   exact con_d (rb02_vq (bl:=blB) (v:=v) (t:=t) (h0:=h0)) (by repeat' first | exact trivial | assumption | exact rfl | exact nT (by assumption) | exact nF (by assumption) | exact rb_con _ _ | exact rnI_con _ (bl_rw (by assumption)) | exact rl_u8 _ | exact rl_len (by assumption) | apply And.intro | decide)
theorem rencB_con (v:Int) (t:List Nat):Con Try.prog 12 [.agg [.i .i64 v,.s t]] [] (.tup [.s (ebT v t),.i .i64 (ebE v t)]) []:=by
 have h:=rb0_con v t
 cases e:blB v t with
 | false=>unfold ebT;rw [e] at h⊢;exact h
 | true=>rw [rl_eq (bl_rw e)] at h;exact h
theorem inZ_lq (k g l s d0 d1 d2 d3 x:Int) (i:Nat) (h0:decide (Int.ofNat i<4)=true) (h1:decide (List.getD [d0,d1,d2,d3] i 0=0)=true):LD Try.prog (loopAt
 Try.prog 41 0) 94 1 [(1,.p 0 0),(3,.i .i64 (Int.ofNat i))] [some (cellsO 31 [.i .i64 k,.i .i64 g,.i .i64 l,.i .i64 s,.i .i64 d0,.i .i64 d1,.i .i64 d2,.i .i64 d3,.i
 .i64 x])] (Orc.t (Orc.s (Orc.f (Orc.f (Orc.f (Orc.f (Orc.f (Orc.f (Orc.f (Orc.c Orc.z)))))))) Orc.z)) .nrm [0] [(1,.p 0 0),(3,.i .i64 (Int.ofNat i+1))] [some (cellsO 31
 [.i .i64 k,.i .i64 g,.i .i64 l,.i .i64 s,.i .i64 d0,.i .i64 d1,.i .i64 d2,.i .i64 d3,.i .i64 x])] 1 (fun Lf=>decide (Int.ofNat i<4)=true/\True/\(0<=Int.ofNat
 i/\Int.ofNat i<4)/\i<4/\(!decide (List.getD [d0,d1,d2,d3] i (0:Int)=(0:Int)))=false/\(!decide (List.getD [d0,d1,d2,d3] i (0:Int)=(0:Int)))=false
 /\(!decide (List.getD [d0,d1,d2,d3] i (0:Int)=(0:Int)))=false/\(!decide (List.getD [d0,d1,d2,d3] i (0:Int)=(0:Int)))=false/\(!decide (List.getD [d0,
 d1,d2,d3] i (0:Int)=(0:Int)))=false/\(!decide (List.getD [d0,d1,d2,d3] i (0:Int)=(0:Int)))=false/\(!decide (List.getD [d0,d1,d2,d3] i (0:Int)=(0
 :Int)))=false/\rg (Int.ofNat i+1)/\Lf):=by unfold LD LQ;kernel_rfl
theorem inD_lq (w:Int->Int->Int->Bool) (k g l s d0 d1 d2 d3 x:Int) (i:Nat) (h0:decide (Int.ofNat i<4)=true) (h1:decide (List.getD [d0,d1,d2,d3] i 0=0) =
 false) (h2:w (List.getD [d0,d1,d2,d3] i 0) 32 79=true):LD Try.prog (loopAt Try.prog 41 0) 94 1 [(1,.p 0 0),(3,.i .i64 (Int.ofNat i))] [some (cellsO 31 [.i .i64 k,
 .i .i64 g,.i .i64 l,.i .i64 s,.i .i64 d0,.i .i64 d1,.i .i64 d2,.i .i64 d3,.i .i64 x])] (Orc.t (Orc.s (Orc.t (Orc.t (Orc.t (Orc.s (Orc.t (Orc.t (Orc.cal [] (.b (w
 (List.getD [d0,d1,d2,d3] i 0) 32 79)) [] (Orc.t (Orc.t (Orc.f Orc.z)))))) Orc.z)))) Orc.z)) .nrm [0] [(1,.p 0 0),(3,.i .i64 (Int.ofNat i+1))] [some (cellsO 31 [.i
 .i64 k,.i .i64 g,.i .i64 l,.i .i64 s,.i .i64 d0,.i .i64 d1,.i .i64 d2,.i .i64 d3,.i .i64 x])] 1 (fun Lf=>decide (Int.ofNat i<4)=true/\True/\(0<=Int.ofNat i/\
 Int.ofNat i<4)/\i<4/\(!decide (List.getD [d0,d1,d2,d3] i (0:Int)=(0:Int)))=true/\(!decide (List.getD [d0,d1,d2,d3] i (0:Int)=(0:Int)))=true/\
 True/\(!decide (List.getD [d0,d1,d2,d3] i (0:Int)=(0:Int)))=true/\(0<=Int.ofNat i/\Int.ofNat i<4)/\(!decide (List.getD [d0,d1,d2,d3] i (0:Int)=(0 :
 Int)))=true/\i<4/\(!decide (List.getD [d0,d1,d2,d3] i (0:Int)=(0:Int)))=true/\Con Try.prog 24 [.i .i64 (List.getD [d0,d1,d2,d3] i 0)] [] (.b (w
 (List.getD [d0,d1,d2,d3] i 0) 32 79)) []/\(!decide (List.getD [d0,d1,d2,d3] i (0:Int)=(0:Int)))=true/\True/\(!decide (List.getD [d0,d1,d2,d3] i (0:Int)
 =(0:Int)))=true/\(!w (List.getD [d0,d1,d2,d3] i 0) 32 79)=false/\rg (Int.ofNat i+1)/\Lf):=by unfold LD LQ;kernel_rfl
theorem inX_lq (w:Int->Int->Int->Bool) (k g l s d0 d1 d2 d3 x:Int) (i:Nat) (h0:decide (Int.ofNat i<4)=true) (h1:decide (List.getD [d0,d1,d2,d3] i 0=0) =
 false) (h2:w (List.getD [d0,d1,d2,d3] i 0) 32 79=false):LD Try.prog (loopAt Try.prog 41 0) 94 1 [(1,.p 0 0),(3,.i .i64 (Int.ofNat i))] [some (cellsO 31 [.i .i64
 k,.i .i64 g,.i .i64 l,.i .i64 s,.i .i64 d0,.i .i64 d1,.i .i64 d2,.i .i64 d3,.i .i64 x])] (Orc.t (Orc.s (Orc.t (Orc.t (Orc.t (Orc.s (Orc.t (Orc.t (Orc.cal [] (.b (w
 (List.getD [d0,d1,d2,d3] i 0) 32 79)) [] (Orc.t (Orc.t (Orc.t Orc.z)))))) Orc.z)))) Orc.z)) .ret [0] [(2,.b false)] [some (cellsO 31 [.i .i64 k,.i .i64 g,.i .i64 l,.i
 .i64 s,.i .i64 d0,.i .i64 d1,.i .i64 d2,.i .i64 d3,.i .i64 x])] 1 (fun Lf=>decide (Int.ofNat i<4)=true/\True/\(0<=Int.ofNat i/\Int.ofNat i<4)/\i<4/\
 (!decide (List.getD [d0,d1,d2,d3] i (0:Int)=(0:Int)))=true/\(!decide (List.getD [d0,d1,d2,d3] i (0:Int)=(0:Int)))=true/\True/\(!decide (List.getD
 [d0,d1,d2,d3] i (0:Int)=(0:Int)))=true/\(0<=Int.ofNat i/\Int.ofNat i<4)/\(!decide (List.getD [d0,d1,d2,d3] i (0:Int)=(0:Int)))=true/\i<4/\
 (!decide (List.getD [d0,d1,d2,d3] i (0:Int)=(0:Int)))=true/\Con Try.prog 24 [.i .i64 (List.getD [d0,d1,d2,d3] i 0)] [] (.b (w (List.getD [d0,d1,d2,d3] i 0)
 32 79)) []/\(!decide (List.getD [d0,d1,d2,d3] i (0:Int)=(0:Int)))=true/\True/\(!decide (List.getD [d0,d1,d2,d3] i (0:Int)=(0:Int)))=true/\(!w
 (List.getD [d0,d1,d2,d3] i 0) 32 79)=true/\Lf):=by unfold LD LQ;kernel_rfl
theorem inE_lq (k g l s d0 d1 d2 d3 x:Int) (i:Nat) (h0:decide (Int.ofNat i<4)=false):LD Try.prog (loopAt Try.prog 41 0) 94 1 [(1,.p 0 0),(3,.i .i64 (Int.ofNat
 i))] [some (cellsO 31 [.i .i64 k,.i .i64 g,.i .i64 l,.i .i64 s,.i .i64 d0,.i .i64 d1,.i .i64 d2,.i .i64 d3,.i .i64 x])] (Orc.f Orc.z) (.exit 0) [0] [(1,.p 0 0)]
 [some (cellsO 31 [.i .i64 k,.i .i64 g,.i .i64 l,.i .i64 s,.i .i64 d0,.i .i64 d1,.i .i64 d2,.i .i64 d3,.i .i64 x])] 1 (fun Lf=>decide (Int.ofNat i<4)=false/\Lf)
 :=by unfold LD LQ;kernel_rfl
theorem inR_li (k g l s d0 d1 d2 d3 x:Int) (i:Nat) (h1:decide (Int.ofNat i<4)=true) (h:ipB (List.getD [d0,d1,d2,d3] i 0)=true) (ri:rg (Int.ofNat i+1)) (bi:(0:Int)<=Int.ofNat i/\Int.ofNat i<(4:Int)) (b4:i<4):LI Try.prog (loopAt Try.prog 41 0) 94 1 [(1,.p 0 0),(3,.i .i64 (Int.ofNat i))] [some (cellsO 31 [.i .i64 k,.i .i64 g,.i .i64 l,.i .i64 s,.i .i64 d0,.i .i64 d1,.i .i64 d2,.i .i64 d3,.i .i64 x])] .nrm [(1,.p 0 0),(3,.i .i64 (Int.ofNat i+1))] [some (cellsO 31 [.i .i64 k,.i .i64 g,.i .i64 l,.i .i64 s,.i .i64 d0,.i .i64 d1,.i .i64 d2,.i .i64 d3,.i .i64 x])]:=by
 have c:=c24_con (List.getD [d0,d1,d2,d3] i 0)
 unfold ipB at h
 cases e:decide (List.getD [d0,d1,d2,d3] i 0=0) with
 | true=>exact li_of (inZ_lq (k:=k) (g:=g) (l:=l) (s:=s) (d0:=d0) (d1:=d1) (d2:=d2) (d3:=d3) (x:=x) (i:=i) h1 e) (by repeat' first | exact trivial | assumption | exact rfl | exact nT (by assumption) | exact nF (by assumption) | apply And.intro)
 | false=>
   rw [e,Bool.false_or] at h
   exact li_of (inD_lq (w:=wi) (k:=k) (g:=g) (l:=l) (s:=s) (d0:=d0) (d1:=d1) (d2:=d2) (d3:=d3) (x:=x) (i:=i) h1 e h) (by repeat' first | exact trivial | assumption | exact rfl | exact nT (by assumption) | exact nF (by assumption) | apply And.intro)
theorem inX_li (k g l s d0 d1 d2 d3 x:Int) (i:Nat) (h1:decide (Int.ofNat i<4)=true) (h:ipB (List.getD [d0,d1,d2,d3] i 0)=false) (bi:(0:Int)<=Int.ofNat i/\Int.ofNat i<(4:Int)) (b4:i<4):LI Try.prog (loopAt Try.prog 41 0) 94 1 [(1,.p 0 0),(3,.i .i64 (Int.ofNat i))] [some (cellsO 31 [.i .i64 k,.i .i64 g,.i .i64 l,.i .i64 s,.i .i64 d0,.i .i64 d1,.i .i64 d2,.i .i64 d3,.i .i64 x])] .ret [(2,.b false)] [some (cellsO 31 [.i .i64 k,.i .i64 g,.i .i64 l,.i .i64 s,.i .i64 d0,.i .i64 d1,.i .i64 d2,.i .i64 d3,.i .i64 x])]:=by
 have c:=c24_con (List.getD [d0,d1,d2,d3] i 0)
 unfold ipB at h
 rw [Bool.or_eq_false_iff] at h
 exact li_of (inX_lq (w:=wi) (k:=k) (g:=g) (l:=l) (s:=s) (d0:=d0) (d1:=d1) (d2:=d2) (d3:=d3) (x:=x) (i:=i) h1 h.1 h.2) (by obtain ⟨e,f⟩:=h;exact (by repeat' first | exact trivial | assumption | exact rfl | exact nT (by assumption) | exact nF (by assumption) | apply And.intro))
theorem in_lp (k g l s d0 d1 d2 d3 x:Int) (h:pm4B d0 d1 d2 d3=true):LDoes Try.prog (loopAt Try.prog 41 0) 94 1 (mkT [(1,.p 0 0),(3,.i .i64 0)]) [some (cellsO 31 [.i .i64 k,.i .i64 g,.i .i64 l,.i .i64 s,.i .i64 d0,.i .i64 d1,.i .i64 d2,.i .i64 d3,.i .i64 x])] (.exit 0) (mkT [(1,.p 0 0)]) [some (cellsO 31 [.i .i64 k,.i .i64 g,.i .i64 l,.i .i64 s,.i .i64 d0,.i .i64 d1,.i .i64 d2,.i .i64 d3,.i .i64 x])]:=by
 refine loop_q (fun i:Nat=>([(1,.p 0 0),(3,.i .i64 (Int.ofNat i))],[some (cellsO 31 [.i .i64 k,.i .i64 g,.i .i64 l,.i .i64 s,.i .i64 d0,.i .i64 d1,.i .i64 d2,.i .i64 d3,.i .i64 x])])) (fun i=>4-i) (fun i=>i<=4) (fun _=>Nat.le_refl _) ?_ 0 (Nat.zero_le _)
 intro i hi
 rcases Nat.lt_or_ge i 4 with hlt | q
 · have h1:decide (Int.ofNat i<4)=true:=decide_eq_true (by simp;omega)
   exact ri_nrm (inR_li k g l s d0 d1 d2 d3 x i h1 (alB_t h i hlt) ⟨by simp<;>omega,by simp<;>omega⟩ ⟨by simp,by simp;omega⟩ hlt) (i+1) hlt (by show 4-(i+1)<4-i;omega) rfl (.refl _) (.refl _)
 · obtain rfl:i=4:=Nat.le_antisymm hi q
   have h1:decide (Int.ofNat 4<4)=false:=decide_eq_false (by simp)
   exact rd_out (inE_lq k g l s d0 d1 d2 d3 x 4 h1) (by repeat' first | exact trivial | assumption | exact rfl | exact nT (by assumption) | exact nF (by assumption) | apply And.intro) rfl rfl (.refl _) (.refl _)
theorem inX_lp (k g l s d0 d1 d2 d3 x:Int) (h:pm4B d0 d1 d2 d3=false):LDoes Try.prog (loopAt Try.prog 41 0) 94 1 (mkT [(1,.p 0 0),(3,.i .i64 0)]) [some (cellsO 31 [.i .i64 k,.i .i64 g,.i .i64 l,.i .i64 s,.i .i64 d0,.i .i64 d1,.i .i64 d2,.i .i64 d3,.i .i64 x])] .ret (mkT [(2,.b false)]) [some (cellsO 31 [.i .i64 k,.i .i64 g,.i .i64 l,.i .i64 s,.i .i64 d0,.i .i64 d1,.i .i64 d2,.i .i64 d3,.i .i64 x])]:=by
 obtain ⟨j,hj,hb,hg⟩:=alB_f h
 refine loop_q (fun i:Nat=>([(1,.p 0 0),(3,.i .i64 (Int.ofNat i))],[some (cellsO 31 [.i .i64 k,.i .i64 g,.i .i64 l,.i .i64 s,.i .i64 d0,.i .i64 d1,.i .i64 d2,.i .i64 d3,.i .i64 x])])) (fun i=>4-i) (fun i=>i<=j) (fun _=>Nat.le_refl _) ?_ 0 (Nat.zero_le _)
 intro i hi
 have hlt:i<4:=by omega
 have h1:decide (Int.ofNat i<4)=true:=decide_eq_true (by simp;omega)
 rcases Nat.lt_or_ge i j with q | q
 · exact ri_nrm (inR_li k g l s d0 d1 d2 d3 x i h1 (hg i q) ⟨by simp<;>omega,by simp<;>omega⟩ ⟨by simp,by simp;omega⟩ hlt) (i+1) q (by show 4-(i+1)<4-i;omega) rfl (.refl _) (.refl _)
 · obtain rfl:i=j:=by omega
   exact ri_out (inX_li k g l s d0 d1 d2 d3 x i h1 hb ⟨by simp,by simp;omega⟩ hlt) rfl rfl (.refl _) (.refl _)
theorem riA0_vq (k g l s d0 d1 d2 d3 i:Int) (q1:decide (g<0)=true):VD Try.prog 41 [.agg [.i .i64 k,.i .i64 g,.i .i64 l,.i .i64 s,.i .i64 d0,.i .i64 d1,.i .i64
 d2,.i .i64 d3,.i .i64 i]] [] (Orc.f (Orc.f (Orc.f (Orc.t (Orc.c Orc.z))))) (.b false) [] [] 1 (fun Lf=>True/\(!decide (g<0))=false/\(!decide (g<0))=false/\
 (!decide (g<0))=false/\decide (g<0)=true/\Lf):=by unfold VD VQ;kernel_rfl
theorem riA_con (k g l s d0 d1 d2 d3 i:Int) (q1:decide (g<0)=true):Con Try.prog 41 [.agg [.i .i64 k,.i .i64 g,.i .i64 l,.i .i64 s,.i .i64 d0,.i .i64 d1,.i .i64 d2,.i .i64 d3,.i .i64 i]] [] (.b false) []:=by
 exact con_d (riA0_vq (k:=k) (g:=g) (l:=l) (s:=s) (d0:=d0) (d1:=d1) (d2:=d2) (d3:=d3) (i:=i) (q1:=q1)) (by repeat' first | exact trivial | assumption | exact rfl | exact nT (by assumption) | exact nF (by assumption) | apply And.intro | decide)
theorem riB0_vq (k g l s d0 d1 d2 d3 i:Int) (q1:decide (g<0)=false) (q2:decide (1099511627776<g)=true):VD Try.prog 41 [.agg [.i .i64 k,.i .i64 g,.i .i64 l,.i
 .i64 s,.i .i64 d0,.i .i64 d1,.i .i64 d2,.i .i64 d3,.i .i64 i]] [] (Orc.t (Orc.t (Orc.t (Orc.f (Orc.t Orc.z))))) (.b false) [] [] 1 (fun Lf=>True/\(!decide (g<0)) =
 true/\True/\(!decide (g<0))=true/\(!decide (g<0))=true/\decide (g<0)=false/\decide (1099511627776<g)=true/\Lf):=by unfold VD VQ;kernel_rfl
theorem riB_con (k g l s d0 d1 d2 d3 i:Int) (q1:decide (g<0)=false) (q2:decide (1099511627776<g)=true):Con Try.prog 41 [.agg [.i .i64 k,.i .i64 g,.i .i64 l,.i .i64 s,.i .i64 d0,.i .i64 d1,.i .i64 d2,.i .i64 d3,.i .i64 i]] [] (.b false) []:=by
 exact con_d (riB0_vq (k:=k) (g:=g) (l:=l) (s:=s) (d0:=d0) (d1:=d1) (d2:=d2) (d3:=d3) (i:=i) (q1:=q1) (q2:=q2)) (by repeat' first | exact trivial | assumption | exact rfl | exact nT (by assumption) | exact nF (by assumption) | apply And.intro | decide)
theorem riC0_vq (k g l s d0 d1 d2 d3 i:Int) (q1:decide (g<0)=false) (q2:decide (1099511627776<g)=false) (q3:decide (k=0)=true):VD Try.prog 41 [.agg [.i
 .i64 k,.i .i64 g,.i .i64 l,.i .i64 s,.i .i64 d0,.i .i64 d1,.i .i64 d2,.i .i64 d3,.i .i64 i]] [] (Orc.t (Orc.t (Orc.t (Orc.f (Orc.f (Orc.t Orc.z)))))) (.b (decide (k =
 0) && (decide (g=g) && (decide (l=0) && (decide (s=0) && (decide (d0=0) && (decide (d1=0) && (decide (d2=0) && (decide (d3=0) && true))) && (decide (i=0) &&
 true))))))) [] [] 1 (fun Lf=>True/\(!decide (g<0))=true/\True/\(!decide (g<0))=true/\(!decide (g<0))=true/\decide (g<0)=false/\decide (1099511627776 <
 g)=false/\True/\decide (k=0)=true/\True/\True/\Lf):=by unfold VD VQ;kernel_rfl
theorem riC_con (k g l s d0 d1 d2 d3 i:Int) (q1:decide (g<0)=false) (q2:decide (1099511627776<g)=false) (q3:decide (k=0)=true):Con Try.prog 41 [.agg [.i .i64 k,.i .i64 g,.i .i64 l,.i .i64 s,.i .i64 d0,.i .i64 d1,.i .i64 d2,.i .i64 d3,.i .i64 i]] [] (.b (zrR k g l s d0 d1 d2 d3 i)) []:=by
 exact con_d (riC0_vq (k:=k) (g:=g) (l:=l) (s:=s) (d0:=d0) (d1:=d1) (d2:=d2) (d3:=d3) (i:=i) (q1:=q1) (q2:=q2) (q3:=q3)) (by repeat' first | exact trivial | assumption | exact rfl | exact nT (by assumption) | exact nF (by assumption) | apply And.intro | decide)
theorem riX0_vq (k g l s d0 d1 d2 d3 i:Int) (q1:decide (g<0)=false) (q2:decide (1099511627776<g)=false) (q3:decide (k=0)=false):VD Try.prog 41 [.agg [.i
 .i64 k,.i .i64 g,.i .i64 l,.i .i64 s,.i .i64 d0,.i .i64 d1,.i .i64 d2,.i .i64 d3,.i .i64 i]] [] (Orc.t (Orc.t (Orc.t (Orc.f (Orc.f (Orc.f (Orc.lop [0] [1,3] 1 XO.ret
 [(2,.b false)] [some (cellsO 31 [.i .i64 k,.i .i64 g,.i .i64 l,.i .i64 s,.i .i64 d0,.i .i64 d1,.i .i64 d2,.i .i64 d3,.i .i64 i])] Orc.z))))))) (.b false) [] [] 1
 (fun Lf=>True/\(!decide (g<0))=true/\True/\(!decide (g<0))=true/\(!decide (g<0))=true/\decide (g<0)=false/\decide (1099511627776<g)=false/\True/\
 decide (k=0)=false/\LDoes Try.prog (loopAt Try.prog 41 0) 94 1 (mkT [(1,.p 0 0),(3,.i .i64 0)]) [some (cellsO 31 [.i .i64 k,.i .i64 g,.i .i64 l,.i .i64 s,.i .i64
 d0,.i .i64 d1,.i .i64 d2,.i .i64 d3,.i .i64 i])] XO.ret (mkT [(2,.b false)]) [some (cellsO 31 [.i .i64 k,.i .i64 g,.i .i64 l,.i .i64 s,.i .i64 d0,.i .i64 d1,.i
 .i64 d2,.i .i64 d3,.i .i64 i])]/\Lf):=by unfold VD VQ;kernel_rfl
theorem riX_con (k g l s d0 d1 d2 d3 i:Int) (q1:decide (g<0)=false) (q2:decide (1099511627776<g)=false) (q3:decide (k=0)=false) (hp:pm4B d0 d1 d2 d3=false):Con Try.prog 41 [.agg [.i .i64 k,.i .i64 g,.i .i64 l,.i .i64 s,.i .i64 d0,.i .i64 d1,.i .i64 d2,.i .i64 d3,.i .i64 i]] [] (.b false) []:=by
 exact con_d (riX0_vq (k:=k) (g:=g) (l:=l) (s:=s) (d0:=d0) (d1:=d1) (d2:=d2) (d3:=d3) (i:=i) (q1:=q1) (q2:=q2) (q3:=q3)) (by repeat' first | exact trivial | assumption | exact rfl | exact nT (by assumption) | exact nF (by assumption) | exact inX_lp _ _ _ _ _ _ _ _ _ (by assumption) | apply And.intro | decide)
theorem riM0_vq (k g l s d0 d1 d2 d3 i:Int) (q1:decide (g<0)=false) (q2:decide (1099511627776<g)=false) (q3:decide (k=0)=false) (h0:decide (k=1)=true)
 (h1:decide (1<=l)=true) (h2:decide (l<=9)=true) (h3:decide (0<=s)=true) (h4:decide (s<=384)=true) (h5:decide (i=0)=true):VD Try.prog 41 [.agg [.i
 .i64 k,.i .i64 g,.i .i64 l,.i .i64 s,.i .i64 d0,.i .i64 d1,.i .i64 d2,.i .i64 d3,.i .i64 i]] [] (Orc.t (Orc.t (Orc.t (Orc.f (Orc.f (Orc.f (Orc.lop [0] [1,3] 1
 (XO.exit 0) [(1,.p 0 0)] [some (cellsO 31 [.i .i64 k,.i .i64 g,.i .i64 l,.i .i64 s,.i .i64 d0,.i .i64 d1,.i .i64 d2,.i .i64 d3,.i .i64 i])] (Orc.t (Orc.t (Orc.t
 (Orc.t (Orc.t (Orc.t (Orc.t (Orc.t (Orc.t (Orc.t (Orc.t (Orc.t (Orc.t (Orc.t (Orc.t (Orc.t (Orc.t (Orc.f (Orc.f (Orc.f (Orc.t (Orc.t (Orc.t
 Orc.z)))))))))))))))))))))))))))))) (.b true) [] [] 1 (fun Lf=>True/\(!decide (g<0))=true/\True/\(!decide (g<0))=true/\(!decide (g<0))=true/\decide (g<0)
 =false/\decide (1099511627776<g)=false/\True/\decide (k=0)=false/\LDoes Try.prog (loopAt Try.prog 41 0) 94 1 (mkT [(1,.p 0 0),(3,.i .i64 0)]) [some (cellsO 31
 [.i .i64 k,.i .i64 g,.i .i64 l,.i .i64 s,.i .i64 d0,.i .i64 d1,.i .i64 d2,.i .i64 d3,.i .i64 i])] (XO.exit 0) (mkT [(1,.p 0 0)]) [some (cellsO 31 [.i .i64 k,.i .i64
 g,.i .i64 l,.i .i64 s,.i .i64 d0,.i .i64 d1,.i .i64 d2,.i .i64 d3,.i .i64 i])]/\True/\decide (k=1)=true/\True/\decide (1<=l)=true/\True/\decide (1<=l) =
 true/\decide (1<=l)=true/\decide (1<=l)=true/\decide (l<=9)=true/\True/\decide (l<=9)=true/\decide (l<=9)=true/\decide (l<=9)=true/\decide (0<=s) =
 true/\True/\decide (0<=s)=true/\decide (0<=s)=true/\decide (0<=s)=true/\decide (s<=384)=true/\True/\decide (s<=384)=true/\decide (s<=384)=true/\
 decide (s<=384)=true/\(!decide (i=0))=false/\(!decide (i=0))=false/\(!decide (i=0))=false/\decide (s<=384)=true/\decide (i=0)=true/\decide (s<=
 384)=true/\Lf):=by unfold VD VQ;kernel_rfl
theorem riM1_vq (w:Int->Int->Int->Bool) (k g l s d0 d1 d2 d3 i:Int) (q1:decide (g<0)=false) (q2:decide (1099511627776<g)=false) (q3:decide (k=0)=false)
 (h0:decide (k=1)=true) (h1:decide (1<=l)=true) (h2:decide (l<=9)=true) (h3:decide (0<=s)=true) (h4:decide (s<=384)=true) (h5:decide (i=0) =
 false):VD Try.prog 41 [.agg [.i .i64 k,.i .i64 g,.i .i64 l,.i .i64 s,.i .i64 d0,.i .i64 d1,.i .i64 d2,.i .i64 d3,.i .i64 i]] [] (Orc.t (Orc.t (Orc.t (Orc.f (Orc.f
 (Orc.f (Orc.lop [0] [1,3] 1 (XO.exit 0) [(1,.p 0 0)] [some (cellsO 31 [.i .i64 k,.i .i64 g,.i .i64 l,.i .i64 s,.i .i64 d0,.i .i64 d1,.i .i64 d2,.i .i64 d3,.i .i64
 i])] (Orc.t (Orc.t (Orc.t (Orc.t (Orc.t (Orc.t (Orc.t (Orc.t (Orc.t (Orc.t (Orc.t (Orc.t (Orc.t (Orc.t (Orc.t (Orc.t (Orc.t (Orc.t (Orc.t (Orc.t (Orc.cal [] (.b (w i 32 79))
 [] (Orc.t (Orc.f (Orc.t Orc.z))))))))))))))))))))))))))))))) (.b (w i 32 79)) [] [] 1 (fun Lf=>True/\(!decide (g<0))=true/\True/\(!decide (g<0))=true/\(!decide
 (g<0))=true/\decide (g<0)=false/\decide (1099511627776<g)=false/\True/\decide (k=0)=false/\LDoes Try.prog (loopAt Try.prog 41 0) 94 1 (mkT [(1,.p 0 0),
 (3,.i .i64 0)]) [some (cellsO 31 [.i .i64 k,.i .i64 g,.i .i64 l,.i .i64 s,.i .i64 d0,.i .i64 d1,.i .i64 d2,.i .i64 d3,.i .i64 i])] (XO.exit 0) (mkT [(1,.p 0 0)])
 [some (cellsO 31 [.i .i64 k,.i .i64 g,.i .i64 l,.i .i64 s,.i .i64 d0,.i .i64 d1,.i .i64 d2,.i .i64 d3,.i .i64 i])]/\True/\decide (k=1)=true/\True/\decide (1<=
 l)=true/\True/\decide (1<=l)=true/\decide (1<=l)=true/\decide (1<=l)=true/\decide (l<=9)=true/\True/\decide (l<=9)=true/\decide (l<=9)=true/\
 decide (l<=9)=true/\decide (0<=s)=true/\True/\decide (0<=s)=true/\decide (0<=s)=true/\decide (0<=s)=true/\decide (s<=384)=true/\True/\decide (s<=
 384)=true/\decide (s<=384)=true/\decide (s<=384)=true/\(!decide (i=0))=true/\True/\(!decide (i=0))=true/\(!decide (i=0))=true/\Con Try.prog 24 [.i
 .i64 i] [] (.b (w i 32 79)) []/\decide (s<=384)=true/\decide (i=0)=false/\decide (s<=384)=true/\Lf):=by unfold VD VQ;kernel_rfl
theorem riM2_vq (k g l s d0 d1 d2 d3 i:Int) (q1:decide (g<0)=false) (q2:decide (1099511627776<g)=false) (q3:decide (k=0)=false) (h0:decide (k=1)=true)
 (h1:decide (1<=l)=true) (h2:decide (l<=9)=true) (h3:decide (0<=s)=true) (h4:decide (s<=384)=false):VD Try.prog 41 [.agg [.i .i64 k,.i .i64 g,.i .i64
 l,.i .i64 s,.i .i64 d0,.i .i64 d1,.i .i64 d2,.i .i64 d3,.i .i64 i]] [] (Orc.t (Orc.t (Orc.t (Orc.f (Orc.f (Orc.f (Orc.lop [0] [1,3] 1 (XO.exit 0) [(1,.p 0 0)] [some
 (cellsO 31 [.i .i64 k,.i .i64 g,.i .i64 l,.i .i64 s,.i .i64 d0,.i .i64 d1,.i .i64 d2,.i .i64 d3,.i .i64 i])] (Orc.t (Orc.t (Orc.t (Orc.t (Orc.t (Orc.t (Orc.t (Orc.t
 (Orc.t (Orc.t (Orc.t (Orc.t (Orc.t (Orc.f (Orc.f (Orc.f (Orc.f (Orc.f (Orc.f Orc.z)))))))))))))))))))))))))) (.b false) [] [] 1 (fun Lf=>True/\(!decide (g<0))=true/\
 True/\(!decide (g<0))=true/\(!decide (g<0))=true/\decide (g<0)=false/\decide (1099511627776<g)=false/\True/\decide (k=0)=false/\LDoes Try.prog
 (loopAt Try.prog 41 0) 94 1 (mkT [(1,.p 0 0),(3,.i .i64 0)]) [some (cellsO 31 [.i .i64 k,.i .i64 g,.i .i64 l,.i .i64 s,.i .i64 d0,.i .i64 d1,.i .i64 d2,.i .i64 d3,
 .i .i64 i])] (XO.exit 0) (mkT [(1,.p 0 0)]) [some (cellsO 31 [.i .i64 k,.i .i64 g,.i .i64 l,.i .i64 s,.i .i64 d0,.i .i64 d1,.i .i64 d2,.i .i64 d3,.i .i64 i])]/\True
 /\decide (k=1)=true/\True/\decide (1<=l)=true/\True/\decide (1<=l)=true/\decide (1<=l)=true/\decide (1<=l)=true/\decide (l<=9)=true/\True/\decide
 (l<=9)=true/\decide (l<=9)=true/\decide (l<=9)=true/\decide (0<=s)=true/\True/\decide (0<=s)=true/\decide (0<=s)=true/\decide (0<=s)=true/\decide
 (s<=384)=false/\decide (s<=384)=false/\decide (s<=384)=false/\decide (s<=384)=false/\decide (s<=384)=false/\decide (s<=384)=false/\Lf)
 :=by unfold VD VQ;kernel_rfl
theorem riM3_vq (k g l s d0 d1 d2 d3 i:Int) (q1:decide (g<0)=false) (q2:decide (1099511627776<g)=false) (q3:decide (k=0)=false) (h0:decide (k=1)=true)
 (h1:decide (1<=l)=true) (h2:decide (l<=9)=true) (h3:decide (0<=s)=false):VD Try.prog 41 [.agg [.i .i64 k,.i .i64 g,.i .i64 l,.i .i64 s,.i .i64 d0,.i
 .i64 d1,.i .i64 d2,.i .i64 d3,.i .i64 i]] [] (Orc.t (Orc.t (Orc.t (Orc.f (Orc.f (Orc.f (Orc.lop [0] [1,3] 1 (XO.exit 0) [(1,.p 0 0)] [some (cellsO 31 [.i .i64 k,.i .i64
 g,.i .i64 l,.i .i64 s,.i .i64 d0,.i .i64 d1,.i .i64 d2,.i .i64 d3,.i .i64 i])] (Orc.t (Orc.t (Orc.t (Orc.t (Orc.t (Orc.t (Orc.t (Orc.t (Orc.t (Orc.f (Orc.f (Orc.f
 (Orc.f (oc 6 Orc.z))))))))))))))))))))) (.b false) [] [] 1 (fun Lf=>True/\(!decide (g<0))=true/\True/\(!decide (g<0))=true/\(!decide (g<0))=true/\decide (g
 <0)=false/\decide (1099511627776<g)=false/\True/\decide (k=0)=false/\LDoes Try.prog (loopAt Try.prog 41 0) 94 1 (mkT [(1,.p 0 0),(3,.i .i64 0)]) [some
 (cellsO 31 [.i .i64 k,.i .i64 g,.i .i64 l,.i .i64 s,.i .i64 d0,.i .i64 d1,.i .i64 d2,.i .i64 d3,.i .i64 i])] (XO.exit 0) (mkT [(1,.p 0 0)]) [some (cellsO 31 [.i .i64
 k,.i .i64 g,.i .i64 l,.i .i64 s,.i .i64 d0,.i .i64 d1,.i .i64 d2,.i .i64 d3,.i .i64 i])]/\True/\decide (k=1)=true/\True/\decide (1<=l)=true/\True/\decide
 (1<=l)=true/\decide (1<=l)=true/\decide (1<=l)=true/\decide (l<=9)=true/\True/\decide (l<=9)=true/\decide (l<=9)=true/\decide (l<=9)=true/\decide
 (0<=s)=false/\decide (0<=s)=false/\decide (0<=s)=false/\decide (0<=s)=false/\Lf):=by unfold VD VQ;kernel_rfl
theorem riM4_vq (k g l s d0 d1 d2 d3 i:Int) (q1:decide (g<0)=false) (q2:decide (1099511627776<g)=false) (q3:decide (k=0)=false) (h0:decide (k=1)=true)
 (h1:decide (1<=l)=true) (h2:decide (l<=9)=false):VD Try.prog 41 [.agg [.i .i64 k,.i .i64 g,.i .i64 l,.i .i64 s,.i .i64 d0,.i .i64 d1,.i .i64 d2,.i .i64 d3,
 .i .i64 i]] [] (Orc.t (Orc.t (Orc.t (Orc.f (Orc.f (Orc.f (Orc.lop [0] [1,3] 1 (XO.exit 0) [(1,.p 0 0)] [some (cellsO 31 [.i .i64 k,.i .i64 g,.i .i64 l,.i .i64 s,.i .i64
 d0,.i .i64 d1,.i .i64 d2,.i .i64 d3,.i .i64 i])] (Orc.t (Orc.t (Orc.t (Orc.t (Orc.t (Orc.f (Orc.f (Orc.f (Orc.f (oc 10 Orc.z))))))))))))))))) (.b false) [] [] 1 (fun Lf
 =>True/\(!decide (g<0))=true/\True/\(!decide (g<0))=true/\(!decide (g<0))=true/\decide (g<0)=false/\decide (1099511627776<g)=false/\True/\decide
 (k=0)=false/\LDoes Try.prog (loopAt Try.prog 41 0) 94 1 (mkT [(1,.p 0 0),(3,.i .i64 0)]) [some (cellsO 31 [.i .i64 k,.i .i64 g,.i .i64 l,.i .i64 s,.i .i64 d0,.i
 .i64 d1,.i .i64 d2,.i .i64 d3,.i .i64 i])] (XO.exit 0) (mkT [(1,.p 0 0)]) [some (cellsO 31 [.i .i64 k,.i .i64 g,.i .i64 l,.i .i64 s,.i .i64 d0,.i .i64 d1,.i .i64
 d2,.i .i64 d3,.i .i64 i])]/\True/\decide (k=1)=true/\True/\decide (1<=l)=true/\True/\decide (1<=l)=true/\decide (1<=l)=true/\decide (1<=l)=true/\
 decide (l<=9)=false/\decide (l<=9)=false/\decide (l<=9)=false/\decide (l<=9)=false/\Lf):=by unfold VD VQ;kernel_rfl
theorem riM5_vq (k g l s d0 d1 d2 d3 i:Int) (q1:decide (g<0)=false) (q2:decide (1099511627776<g)=false) (q3:decide (k=0)=false) (h0:decide (k=1)=true)
 (h1:decide (1<=l)=false):VD Try.prog 41 [.agg [.i .i64 k,.i .i64 g,.i .i64 l,.i .i64 s,.i .i64 d0,.i .i64 d1,.i .i64 d2,.i .i64 d3,.i .i64 i]] [] (Orc.t (Orc.t
 (Orc.t (Orc.f (Orc.f (Orc.f (Orc.lop [0] [1,3] 1 (XO.exit 0) [(1,.p 0 0)] [some (cellsO 31 [.i .i64 k,.i .i64 g,.i .i64 l,.i .i64 s,.i .i64 d0,.i .i64 d1,.i .i64 d2,
 .i .i64 d3,.i .i64 i])] (Orc.t (Orc.f (Orc.f (Orc.f (Orc.f (oc 14 Orc.z))))))))))))) (.b false) [] [] 1 (fun Lf=>True/\(!decide (g<0))=true/\True/\(!decide (g<0))
 =true/\(!decide (g<0))=true/\decide (g<0)=false/\decide (1099511627776<g)=false/\True/\decide (k=0)=false/\LDoes Try.prog (loopAt Try.prog 41 0) 94 1
 (mkT [(1,.p 0 0),(3,.i .i64 0)]) [some (cellsO 31 [.i .i64 k,.i .i64 g,.i .i64 l,.i .i64 s,.i .i64 d0,.i .i64 d1,.i .i64 d2,.i .i64 d3,.i .i64 i])] (XO.exit 0)
 (mkT [(1,.p 0 0)]) [some (cellsO 31 [.i .i64 k,.i .i64 g,.i .i64 l,.i .i64 s,.i .i64 d0,.i .i64 d1,.i .i64 d2,.i .i64 d3,.i .i64 i])]/\True/\decide (k=1)=true
 /\True/\decide (1<=l)=false/\decide (1<=l)=false/\decide (1<=l)=false/\decide (1<=l)=false/\Lf):=by unfold VD VQ;kernel_rfl
theorem riM6_vq (k g l s d0 d1 d2 d3 i:Int) (q1:decide (g<0)=false) (q2:decide (1099511627776<g)=false) (q3:decide (k=0)=false) (h0:decide (k=1) =
 false) (h1:decide (k=2)=true) (h2:decide (l=1)=true) (h3:decide (0<=s)=true) (h4:decide (s<=128)=true) (h5:decide (0<=i)=true):VD Try.prog 41
 [.agg [.i .i64 k,.i .i64 g,.i .i64 l,.i .i64 s,.i .i64 d0,.i .i64 d1,.i .i64 d2,.i .i64 d3,.i .i64 i]] [] (Orc.t (Orc.t (Orc.t (Orc.f (Orc.f (Orc.f (Orc.lop [0] [1,
 3] 1 (XO.exit 0) [(1,.p 0 0)] [some (cellsO 31 [.i .i64 k,.i .i64 g,.i .i64 l,.i .i64 s,.i .i64 d0,.i .i64 d1,.i .i64 d2,.i .i64 d3,.i .i64 i])] (Orc.f (Orc.t (Orc.t
 (Orc.t (Orc.t (Orc.t (Orc.t (Orc.t (Orc.t (Orc.t (Orc.t (Orc.t (Orc.t (Orc.t (Orc.t (Orc.t (Orc.t (Orc.t Orc.z))))))))))))))))))))))))) (.b (decide (i<16))) [] [] 1 (fun Lf
 =>True/\(!decide (g<0))=true/\True/\(!decide (g<0))=true/\(!decide (g<0))=true/\decide (g<0)=false/\decide (1099511627776<g)=false/\True/\decide
 (k=0)=false/\LDoes Try.prog (loopAt Try.prog 41 0) 94 1 (mkT [(1,.p 0 0),(3,.i .i64 0)]) [some (cellsO 31 [.i .i64 k,.i .i64 g,.i .i64 l,.i .i64 s,.i .i64 d0,.i
 .i64 d1,.i .i64 d2,.i .i64 d3,.i .i64 i])] (XO.exit 0) (mkT [(1,.p 0 0)]) [some (cellsO 31 [.i .i64 k,.i .i64 g,.i .i64 l,.i .i64 s,.i .i64 d0,.i .i64 d1,.i .i64
 d2,.i .i64 d3,.i .i64 i])]/\True/\decide (k=1)=false/\decide (k=2)=true/\True/\decide (l=1)=true/\True/\decide (l=1)=true/\decide (l=1)=true/\
 decide (l=1)=true/\decide (0<=s)=true/\True/\decide (0<=s)=true/\decide (0<=s)=true/\decide (0<=s)=true/\decide (s<=128)=true/\True/\decide (s<=
 128)=true/\decide (s<=128)=true/\decide (s<=128)=true/\decide (0<=i)=true/\True/\decide (0<=i)=true/\decide (0<=i)=true/\decide (0<=i)=true/\Lf)
 :=by unfold VD VQ;kernel_rfl
theorem riM7_vq (k g l s d0 d1 d2 d3 i:Int) (q1:decide (g<0)=false) (q2:decide (1099511627776<g)=false) (q3:decide (k=0)=false) (h0:decide (k=1) =
 false) (h1:decide (k=2)=true) (h2:decide (l=1)=true) (h3:decide (0<=s)=true) (h4:decide (s<=128)=true) (h5:decide (0<=i)=false):VD Try.prog 41
 [.agg [.i .i64 k,.i .i64 g,.i .i64 l,.i .i64 s,.i .i64 d0,.i .i64 d1,.i .i64 d2,.i .i64 d3,.i .i64 i]] [] (Orc.t (Orc.t (Orc.t (Orc.f (Orc.f (Orc.f (Orc.lop [0] [1,
 3] 1 (XO.exit 0) [(1,.p 0 0)] [some (cellsO 31 [.i .i64 k,.i .i64 g,.i .i64 l,.i .i64 s,.i .i64 d0,.i .i64 d1,.i .i64 d2,.i .i64 d3,.i .i64 i])] (Orc.f (Orc.t (Orc.t
 (Orc.t (Orc.t (Orc.t (Orc.t (Orc.t (Orc.t (Orc.t (Orc.t (Orc.t (Orc.t (Orc.t (Orc.f (Orc.f (Orc.f (Orc.f Orc.z))))))))))))))))))))))))) (.b false) [] [] 1 (fun Lf=>True/\
 (!decide (g<0))=true/\True/\(!decide (g<0))=true/\(!decide (g<0))=true/\decide (g<0)=false/\decide (1099511627776<g)=false/\True/\decide (k=0) =
 false/\LDoes Try.prog (loopAt Try.prog 41 0) 94 1 (mkT [(1,.p 0 0),(3,.i .i64 0)]) [some (cellsO 31 [.i .i64 k,.i .i64 g,.i .i64 l,.i .i64 s,.i .i64 d0,.i .i64 d1,
 .i .i64 d2,.i .i64 d3,.i .i64 i])] (XO.exit 0) (mkT [(1,.p 0 0)]) [some (cellsO 31 [.i .i64 k,.i .i64 g,.i .i64 l,.i .i64 s,.i .i64 d0,.i .i64 d1,.i .i64 d2,.i .i64
 d3,.i .i64 i])]/\True/\decide (k=1)=false/\decide (k=2)=true/\True/\decide (l=1)=true/\True/\decide (l=1)=true/\decide (l=1)=true/\decide (l =
 1)=true/\decide (0<=s)=true/\True/\decide (0<=s)=true/\decide (0<=s)=true/\decide (0<=s)=true/\decide (s<=128)=true/\True/\decide (s<=128)=true/\
 decide (s<=128)=true/\decide (s<=128)=true/\decide (0<=i)=false/\decide (0<=i)=false/\decide (0<=i)=false/\decide (0<=i)=false/\Lf)
 :=by unfold VD VQ;kernel_rfl
theorem riM8_vq (k g l s d0 d1 d2 d3 i:Int) (q1:decide (g<0)=false) (q2:decide (1099511627776<g)=false) (q3:decide (k=0)=false) (h0:decide (k=1) =
 false) (h1:decide (k=2)=true) (h2:decide (l=1)=true) (h3:decide (0<=s)=true) (h4:decide (s<=128)=false):VD Try.prog 41 [.agg [.i .i64 k,.i .i64 g,.i
 .i64 l,.i .i64 s,.i .i64 d0,.i .i64 d1,.i .i64 d2,.i .i64 d3,.i .i64 i]] [] (Orc.t (Orc.t (Orc.t (Orc.f (Orc.f (Orc.f (Orc.lop [0] [1,3] 1 (XO.exit 0) [(1,.p 0 0)]
 [some (cellsO 31 [.i .i64 k,.i .i64 g,.i .i64 l,.i .i64 s,.i .i64 d0,.i .i64 d1,.i .i64 d2,.i .i64 d3,.i .i64 i])] (Orc.f (Orc.t (Orc.t (Orc.t (Orc.t (Orc.t (Orc.t
 (Orc.t (Orc.t (Orc.t (Orc.f (Orc.f (Orc.f (Orc.f (oc 4 Orc.z)))))))))))))))))))))) (.b false) [] [] 1 (fun Lf=>True/\(!decide (g<0))=true/\True/\(!decide (g<0)) =
 true/\(!decide (g<0))=true/\decide (g<0)=false/\decide (1099511627776<g)=false/\True/\decide (k=0)=false/\LDoes Try.prog (loopAt Try.prog 41 0) 94 1
 (mkT [(1,.p 0 0),(3,.i .i64 0)]) [some (cellsO 31 [.i .i64 k,.i .i64 g,.i .i64 l,.i .i64 s,.i .i64 d0,.i .i64 d1,.i .i64 d2,.i .i64 d3,.i .i64 i])] (XO.exit 0)
 (mkT [(1,.p 0 0)]) [some (cellsO 31 [.i .i64 k,.i .i64 g,.i .i64 l,.i .i64 s,.i .i64 d0,.i .i64 d1,.i .i64 d2,.i .i64 d3,.i .i64 i])]/\True/\decide (k=1)=false
 /\decide (k=2)=true/\True/\decide (l=1)=true/\True/\decide (l=1)=true/\decide (l=1)=true/\decide (l=1)=true/\decide (0<=s)=true/\True/\decide
 (0<=s)=true/\decide (0<=s)=true/\decide (0<=s)=true/\decide (s<=128)=false/\decide (s<=128)=false/\decide (s<=128)=false/\decide (s<=128)=false/\
 Lf):=by unfold VD VQ;kernel_rfl
theorem riM9_vq (k g l s d0 d1 d2 d3 i:Int) (q1:decide (g<0)=false) (q2:decide (1099511627776<g)=false) (q3:decide (k=0)=false) (h0:decide (k=1) =
 false) (h1:decide (k=2)=true) (h2:decide (l=1)=true) (h3:decide (0<=s)=false):VD Try.prog 41 [.agg [.i .i64 k,.i .i64 g,.i .i64 l,.i .i64 s,.i .i64 d0,
 .i .i64 d1,.i .i64 d2,.i .i64 d3,.i .i64 i]] [] (Orc.t (Orc.t (Orc.t (Orc.f (Orc.f (Orc.f (Orc.lop [0] [1,3] 1 (XO.exit 0) [(1,.p 0 0)] [some (cellsO 31 [.i .i64 k,.i
 .i64 g,.i .i64 l,.i .i64 s,.i .i64 d0,.i .i64 d1,.i .i64 d2,.i .i64 d3,.i .i64 i])] (Orc.f (Orc.t (Orc.t (Orc.t (Orc.t (Orc.t (Orc.f (Orc.f (Orc.f (Orc.f (oc 8
 Orc.z)))))))))))))))))) (.b false) [] [] 1 (fun Lf=>True/\(!decide (g<0))=true/\True/\(!decide (g<0))=true/\(!decide (g<0))=true/\decide (g<0)=false/\
 decide (1099511627776<g)=false/\True/\decide (k=0)=false/\LDoes Try.prog (loopAt Try.prog 41 0) 94 1 (mkT [(1,.p 0 0),(3,.i .i64 0)]) [some (cellsO 31 [.i .i64
 k,.i .i64 g,.i .i64 l,.i .i64 s,.i .i64 d0,.i .i64 d1,.i .i64 d2,.i .i64 d3,.i .i64 i])] (XO.exit 0) (mkT [(1,.p 0 0)]) [some (cellsO 31 [.i .i64 k,.i .i64 g,.i
 .i64 l,.i .i64 s,.i .i64 d0,.i .i64 d1,.i .i64 d2,.i .i64 d3,.i .i64 i])]/\True/\decide (k=1)=false/\decide (k=2)=true/\True/\decide (l=1)=true/\True
 /\decide (l=1)=true/\decide (l=1)=true/\decide (l=1)=true/\decide (0<=s)=false/\decide (0<=s)=false/\decide (0<=s)=false/\decide (0<=s)=false/\
 Lf):=by unfold VD VQ;kernel_rfl
theorem riM10_vq (k g l s d0 d1 d2 d3 i:Int) (q1:decide (g<0)=false) (q2:decide (1099511627776<g)=false) (q3:decide (k=0)=false) (h0:decide (k=1) =
 false) (h1:decide (k=2)=true) (h2:decide (l=1)=false):VD Try.prog 41 [.agg [.i .i64 k,.i .i64 g,.i .i64 l,.i .i64 s,.i .i64 d0,.i .i64 d1,.i .i64 d2,.i
 .i64 d3,.i .i64 i]] [] (Orc.t (Orc.t (Orc.t (Orc.f (Orc.f (Orc.f (Orc.lop [0] [1,3] 1 (XO.exit 0) [(1,.p 0 0)] [some (cellsO 31 [.i .i64 k,.i .i64 g,.i .i64 l,.i .i64
 s,.i .i64 d0,.i .i64 d1,.i .i64 d2,.i .i64 d3,.i .i64 i])] (Orc.f (Orc.t (Orc.f (Orc.f (Orc.f (Orc.f (oc 12 Orc.z)))))))))))))) (.b false) [] [] 1 (fun Lf=>True/\
 (!decide (g<0))=true/\True/\(!decide (g<0))=true/\(!decide (g<0))=true/\decide (g<0)=false/\decide (1099511627776<g)=false/\True/\decide (k=0) =
 false/\LDoes Try.prog (loopAt Try.prog 41 0) 94 1 (mkT [(1,.p 0 0),(3,.i .i64 0)]) [some (cellsO 31 [.i .i64 k,.i .i64 g,.i .i64 l,.i .i64 s,.i .i64 d0,.i .i64 d1,
 .i .i64 d2,.i .i64 d3,.i .i64 i])] (XO.exit 0) (mkT [(1,.p 0 0)]) [some (cellsO 31 [.i .i64 k,.i .i64 g,.i .i64 l,.i .i64 s,.i .i64 d0,.i .i64 d1,.i .i64 d2,.i .i64
 d3,.i .i64 i])]/\True/\decide (k=1)=false/\decide (k=2)=true/\True/\decide (l=1)=false/\decide (l=1)=false/\decide (l=1)=false/\decide (l=1) =
 false/\Lf):=by unfold VD VQ;kernel_rfl
theorem riM11_vq (k g l s d0 d1 d2 d3 i:Int) (q1:decide (g<0)=false) (q2:decide (1099511627776<g)=false) (q3:decide (k=0)=false) (h0:decide (k=1) =
 false) (h1:decide (k=2)=false):VD Try.prog 41 [.agg [.i .i64 k,.i .i64 g,.i .i64 l,.i .i64 s,.i .i64 d0,.i .i64 d1,.i .i64 d2,.i .i64 d3,.i .i64 i]] [] (Orc.t
 (Orc.t (Orc.t (Orc.f (Orc.f (Orc.f (Orc.lop [0] [1,3] 1 (XO.exit 0) [(1,.p 0 0)] [some (cellsO 31 [.i .i64 k,.i .i64 g,.i .i64 l,.i .i64 s,.i .i64 d0,.i .i64 d1,.i
 .i64 d2,.i .i64 d3,.i .i64 i])] (Orc.f (Orc.f Orc.z))))))))) (.b false) [] [] 1 (fun Lf=>True/\(!decide (g<0))=true/\True/\(!decide (g<0))=true/\(!decide (g <
 0))=true/\decide (g<0)=false/\decide (1099511627776<g)=false/\True/\decide (k=0)=false/\LDoes Try.prog (loopAt Try.prog 41 0) 94 1 (mkT [(1,.p 0 0),(3,
 .i .i64 0)]) [some (cellsO 31 [.i .i64 k,.i .i64 g,.i .i64 l,.i .i64 s,.i .i64 d0,.i .i64 d1,.i .i64 d2,.i .i64 d3,.i .i64 i])] (XO.exit 0) (mkT [(1,.p 0 0)]) [some
 (cellsO 31 [.i .i64 k,.i .i64 g,.i .i64 l,.i .i64 s,.i .i64 d0,.i .i64 d1,.i .i64 d2,.i .i64 d3,.i .i64 i])]/\True/\decide (k=1)=false/\decide (k=2)=false
 /\Lf):=by unfold VD VQ;kernel_rfl
theorem riM_con (k g l s d0 d1 d2 d3 i:Int) (q1:decide (g<0)=false) (q2:decide (1099511627776<g)=false) (q3:decide (k=0)=false) (hp:pm4B d0 d1 d2 d3=true):Con Try.prog 41 [.agg [.i .i64 k,.i .i64 g,.i .i64 l,.i .i64 s,.i .i64 d0,.i .i64 d1,.i .i64 d2,.i .i64 d3,.i .i64 i]] [] (.b (rinT k l s i)) []:=by
 unfold rinT
 cases h0:decide (k=1) with
 | true=>
   cases h1:decide (1<=l) with
   | true=>
     cases h2:decide (l<=9) with
     | true=>
       cases h3:decide (0<=s) with
       | true=>
         cases h4:decide (s<=384) with
         | true=>
           cases h5:decide (i=0) with
           | true=>
             exact con_d (riM0_vq (k:=k) (g:=g) (l:=l) (s:=s) (d0:=d0) (d1:=d1) (d2:=d2) (d3:=d3) (i:=i) (q1:=q1) (q2:=q2) (q3:=q3) (h0:=h0) (h1:=h1) (h2:=h2) (h3:=h3) (h4:=h4) (h5:=h5)) (by repeat' first | exact trivial | assumption | exact rfl | exact nT (by assumption) | exact nF (by assumption) | exact in_lp _ _ _ _ _ _ _ _ _ (by assumption) | exact c24_con _ | apply And.intro | decide)
           | false=>
             exact con_d (riM1_vq (w:=wi) (k:=k) (g:=g) (l:=l) (s:=s) (d0:=d0) (d1:=d1) (d2:=d2) (d3:=d3) (i:=i) (q1:=q1) (q2:=q2) (q3:=q3) (h0:=h0) (h1:=h1) (h2:=h2) (h3:=h3) (h4:=h4) (h5:=h5)) (by repeat' first | exact trivial | assumption | exact rfl | exact nT (by assumption) | exact nF (by assumption) | exact in_lp _ _ _ _ _ _ _ _ _ (by assumption) | exact c24_con _ | apply And.intro | decide)
         | false=>
           exact con_d (riM2_vq (k:=k) (g:=g) (l:=l) (s:=s) (d0:=d0) (d1:=d1) (d2:=d2) (d3:=d3) (i:=i) (q1:=q1) (q2:=q2) (q3:=q3) (h0:=h0) (h1:=h1) (h2:=h2) (h3:=h3) (h4:=h4)) (by repeat' first | exact trivial | assumption | exact rfl | exact nT (by assumption) | exact nF (by assumption) | exact in_lp _ _ _ _ _ _ _ _ _ (by assumption) | exact c24_con _ | apply And.intro | decide)
       | false=>
         exact con_d (riM3_vq (k:=k) (g:=g) (l:=l) (s:=s) (d0:=d0) (d1:=d1) (d2:=d2) (d3:=d3) (i:=i) (q1:=q1) (q2:=q2) (q3:=q3) (h0:=h0) (h1:=h1) (h2:=h2) (h3:=h3)) (by repeat' first | exact trivial | assumption | exact rfl | exact nT (by assumption) | exact nF (by assumption) | exact in_lp _ _ _ _ _ _ _ _ _ (by assumption) | exact c24_con _ | apply And.intro | decide)
     | false=>
       exact con_d (riM4_vq (k:=k) (g:=g) (l:=l) (s:=s) (d0:=d0) (d1:=d1) (d2:=d2) (d3:=d3) (i:=i) (q1:=q1) (q2:=q2) (q3:=q3) (h0:=h0) (h1:=h1) (h2:=h2)) (by repeat' first | exact trivial | assumption | exact rfl | exact nT (by assumption) | exact nF (by assumption) | exact in_lp _ _ _ _ _ _ _ _ _ (by assumption) | exact c24_con _ | apply And.intro | decide)
   | false=>
     exact con_d (riM5_vq (k:=k) (g:=g) (l:=l) (s:=s) (d0:=d0) (d1:=d1) (d2:=d2) (d3:=d3) (i:=i) (q1:=q1) (q2:=q2) (q3:=q3) (h0:=h0) (h1:=h1)) (by repeat' first | exact trivial | assumption | exact rfl | exact nT (by assumption) | exact nF (by assumption) | exact in_lp _ _ _ _ _ _ _ _ _ (by assumption) | exact c24_con _ | apply And.intro | decide)
 | false=>
   cases h1:decide (k=2) with
   | true=>
     cases h2:decide (l=1) with
     | true=>
       cases h3:decide (0<=s) with
       | true=>
         cases h4:decide (s<=128) with
         | true=>
           cases h5:decide (0<=i) with
           | true=>
             exact con_d (riM6_vq (k:=k) (g:=g) (l:=l) (s:=s) (d0:=d0) (d1:=d1) (d2:=d2) (d3:=d3) (i:=i) (q1:=q1) (q2:=q2) (q3:=q3) (h0:=h0) (h1:=h1) (h2:=h2) (h3:=h3) (h4:=h4) (h5:=h5)) (by repeat' first | exact trivial | assumption | exact rfl | exact nT (by assumption) | exact nF (by assumption) | exact in_lp _ _ _ _ _ _ _ _ _ (by assumption) | exact c24_con _ | apply And.intro | decide)
           | false=>
             exact con_d (riM7_vq (k:=k) (g:=g) (l:=l) (s:=s) (d0:=d0) (d1:=d1) (d2:=d2) (d3:=d3) (i:=i) (q1:=q1) (q2:=q2) (q3:=q3) (h0:=h0) (h1:=h1) (h2:=h2) (h3:=h3) (h4:=h4) (h5:=h5)) (by repeat' first | exact trivial | assumption | exact rfl | exact nT (by assumption) | exact nF (by assumption) | exact in_lp _ _ _ _ _ _ _ _ _ (by assumption) | exact c24_con _ | apply And.intro | decide)
         | false=>
           exact con_d (riM8_vq (k:=k) (g:=g) (l:=l) (s:=s) (d0:=d0) (d1:=d1) (d2:=d2) (d3:=d3) (i:=i) (q1:=q1) (q2:=q2) (q3:=q3) (h0:=h0) (h1:=h1) (h2:=h2) (h3:=h3) (h4:=h4)) (by repeat' first | exact trivial | assumption | exact rfl | exact nT (by assumption) | exact nF (by assumption) | exact in_lp _ _ _ _ _ _ _ _ _ (by assumption) | exact c24_con _ | apply And.intro | decide)
       | false=>
         exact con_d (riM9_vq (k:=k) (g:=g) (l:=l) (s:=s) (d0:=d0) (d1:=d1) (d2:=d2) (d3:=d3) (i:=i) (q1:=q1) (q2:=q2) (q3:=q3) (h0:=h0) (h1:=h1) (h2:=h2) (h3:=h3)) (by repeat' first | exact trivial | assumption | exact rfl | exact nT (by assumption) | exact nF (by assumption) | exact in_lp _ _ _ _ _ _ _ _ _ (by assumption) | exact c24_con _ | apply And.intro | decide)
     | false=>
       exact con_d (riM10_vq (k:=k) (g:=g) (l:=l) (s:=s) (d0:=d0) (d1:=d1) (d2:=d2) (d3:=d3) (i:=i) (q1:=q1) (q2:=q2) (q3:=q3) (h0:=h0) (h1:=h1) (h2:=h2)) (by repeat' first | exact trivial | assumption | exact rfl | exact nT (by assumption) | exact nF (by assumption) | exact in_lp _ _ _ _ _ _ _ _ _ (by assumption) | exact c24_con _ | apply And.intro | decide)
   | false=>
     exact con_d (riM11_vq (k:=k) (g:=g) (l:=l) (s:=s) (d0:=d0) (d1:=d1) (d2:=d2) (d3:=d3) (i:=i) (q1:=q1) (q2:=q2) (q3:=q3) (h0:=h0) (h1:=h1)) (by repeat' first | exact trivial | assumption | exact rfl | exact nT (by assumption) | exact nF (by assumption) | exact in_lp _ _ _ _ _ _ _ _ _ (by assumption) | exact c24_con _ | apply And.intro | decide)
theorem rin_con (k g l s d0 d1 d2 d3 i:Int):Con Try.prog 41 [.agg [.i .i64 k,.i .i64 g,.i .i64 l,.i .i64 s,.i .i64 d0,.i .i64 d1,.i .i64 d2,.i .i64 d3,.i .i64 i]] [] (.b (inB k g l s d0 d1 d2 d3 i)) []:=by
 cases h1:decide (g<0) with
 | true=>
   have e:inB k g l s d0 d1 d2 d3 i=false:=by
    unfold inB wi
    have:=of_decide_eq_true h1
    rw [show decide (0<=g)=false from decide_eq_false (by omega)];rfl
   rw [e];exact riA_con _ _ _ _ _ _ _ _ _ h1
 | false=>cases h2:decide (1099511627776<g) with
   | true=>
     have e:inB k g l s d0 d1 d2 d3 i=false:=by
      unfold inB wi
      have:=of_decide_eq_true h2
      rw [show decide (g<=1099511627776)=false from decide_eq_false (by omega)]
      cases decide (0<=g)<;>rfl
     rw [e];exact riB_con _ _ _ _ _ _ _ _ _ h1 h2
   | false=>
     have hw:wi g 0 1099511627776=true:=by
      unfold wi
      have a:=of_decide_eq_false h1
      have b:=of_decide_eq_false h2
      rw [decide_eq_true (show (0:Int)<=g by omega),decide_eq_true (show g<=1099511627776 by omega)];rfl
     unfold inB
     rw [hw,Bool.true_and]
     cases h3:decide (k=0) with
     | true=>exact riC_con _ _ _ _ _ _ _ _ _ h1 h2 h3
     | false=>
       cases hp:pm4B d0 d1 d2 d3 with
       | false=>
         have q:=riX_con k g l s d0 d1 d2 d3 i h1 h2 h3 hp
         have e:(bif false then zrB k g l s d0 d1 d2 d3 i else bif decide (k=1) then wi l 1 9 && (wi s 0 384 && (false && ipB i)) else bif decide (k=2) then decide (l=1) && (wi s 0 128 && (false && iiB i)) else false)=false:=by
          rw [Bool.false_and,Bool.false_and,Bool.and_false,Bool.and_false,Bool.and_false,Bool.and_false]
          cases decide (k=1)<;>cases decide (k=2)<;>rfl
         rw [e];exact q
       | true=>
         have q:=riM_con k g l s d0 d1 d2 d3 i h1 h2 h3 hp
         have e:(bif false then zrB k g l s d0 d1 d2 d3 i else bif decide (k=1) then wi l 1 9 && (wi s 0 384 && (true && ipB i)) else bif decide (k=2) then decide (l=1) && (wi s 0 128 && (true && iiB i)) else false)=rinT k l s i:=by
          have e16:decide (i<16)=decide (i<=15):=decide_eq_decide.2 (by omega)
          unfold rinT ipB iiB
          rw [e16]
          cases decide (k=1) with
          | true=>unfold wi;simp only [cond_false,cond_true,Bool.true_and,Bool.and_assoc]
          | false=>cases decide (k=2) with
            | true=>unfold wi;simp only [cond_false,cond_true,Bool.true_and,Bool.and_assoc]
            | false=>rfl
         rw [e];exact q
end Go.Proofs.Ly
