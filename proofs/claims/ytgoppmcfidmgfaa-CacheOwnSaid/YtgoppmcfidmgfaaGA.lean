/- Runs over unknown values, told by the kernel: part GA. -/
import Derived.Test.YtgoppmcfidmgfaaSymI
import Derived.Test.YtgoppmcfidmgfaaRows
set_option linter.unusedSimpArgs false
set_option linter.unusedVariables false
namespace Go.Proofs.Cd
open Go Go.Sim Go.Proofs.Ytgoppmcfidmgfaa
noncomputable def byF (b:Nat->Nat):Nat->Nat->CV:=fun k _=>.i .u8 (Int.ofNat (b k))
noncomputable def stepN (r:Nat):Nat:=Nat.xor (Nat.shiftRight r 1) (Nat.mul 2197175160 (Nat.land r 1))
noncomputable def stepsN (n r:Nat):Nat:=Nat.rec (motive:=fun _=>Nat->Nat) (fun r=>r) (fun _ ih r=>ih (stepN r)) n r
noncomputable def regN (b:Nat->Nat) (n o r:Nat):Nat:=Nat.rec (motive:=fun _=>Nat->Nat->Nat) (fun _ r=>r) (fun _ ih o r=>ih (o+1) (stepsN 8 (Nat.xor r (b o)))) n o r
noncomputable def sumN (b:Nat->Nat) (n:Nat):Nat:=4294967295-regN b n 0 4294967295
end Go.Proofs.Cd
set_option maxRecDepth 20000
namespace Go.Proofs.Cd
open Go Go.Sim Go.Proofs Go.Proofs.Ytgoppmcfidmgfaa
theorem ofInt_nat (w n:Nat):(BitVec.ofInt w (Int.ofNat n)).toNat=n % 2 ^ w:=by
 show (BitVec.ofInt w (n:Int)).toNat= _
 rw [BitVec.ofInt_natCast,BitVec.toNat_ofNat]
theorem xorE {a b:Nat} (ha:a<4294967296) (hb:b<4294967296):wrapA .u32 ↑(BitVec.toNat (BitVec.ofInt 32 (Int.ofNat a) ^^^ BitVec.ofInt 32 (Int.ofNat b)))=Int.ofNat (Nat.xor a b):=by
 rw [BitVec.toNat_xor,ofInt_nat,ofInt_nat,Nat.mod_eq_of_lt (by simpa using ha),Nat.mod_eq_of_lt (by simpa using hb)]
 show Int.ofNat ((a ^^^ b) % 4294967296)= _
 rw [Nat.mod_eq_of_lt (Nat.xor_lt_two_pow (n:=32) ha hb)]
 rfl
theorem andE {a b:Nat} (ha:a<4294967296) (hb:b<4294967296):wrapA .u32 ↑(BitVec.toNat (BitVec.ofInt 32 (Int.ofNat a) &&& BitVec.ofInt 32 (Int.ofNat b)))=Int.ofNat (Nat.land a b):=by
 rw [BitVec.toNat_and,ofInt_nat,ofInt_nat,Nat.mod_eq_of_lt (by simpa using ha),Nat.mod_eq_of_lt (by simpa using hb)]
 show Int.ofNat ((a &&& b) % 4294967296)= _
 rw [Nat.mod_eq_of_lt (Nat.lt_of_le_of_lt Nat.and_le_left ha)]
 rfl
theorem wrap32 {m:Nat} (h:m<4294967296):wrapA .u32 (Int.ofNat m)=Int.ofNat m:=by
 show Int.ofNat (m % 4294967296)= _
 rw [Nat.mod_eq_of_lt h]
theorem mulE {m:Nat} (h:m<=1):wrapA .u32 ((2197175160:Int)*Int.ofNat m)=Int.ofNat (Nat.mul 2197175160 m):=by
 show Int.ofNat ((2197175160*m) % 4294967296)=Int.ofNat (2197175160*m)
 rw [Nat.mod_eq_of_lt (by omega)]
theorem shrE (m:Nat):Int.fdiv (Int.ofNat m) 2=Int.ofNat (Nat.shiftRight m 1):=by
 rw [Int.fdiv_eq_ediv_of_nonneg _ (by decide)]
 show Int.ofNat (m / 2)=Int.ofNat (m >>>1)
 rw [Nat.shiftRight_eq_div_pow]
theorem land1 (r:Nat):Nat.land r 1<=1:=Nat.and_le_right (n:=r) (m:=1)
theorem stepN_lt {r:Nat} (h:r<4294967296):stepN r<4294967296:=by
 have h1:Nat.shiftRight r 1<4294967296:=by
  show r >>>1<_
  rw [Nat.shiftRight_eq_div_pow];omega
 have h2:Nat.mul 2197175160 (Nat.land r 1)<4294967296:=by
  have:=land1 r
  show 2197175160*Nat.land r 1<_
  omega
 exact Nat.xor_lt_two_pow (n:=32) h1 h2
theorem stepE {r:Nat} (h:r<4294967296):wrapA IntKind.u32 ↑(BitVec.toNat (BitVec.ofInt 32 (Int.fdiv (Int.ofNat r) 2) ^^^ BitVec.ofInt 32 (wrapA IntKind.u32 ((2197175160:Int)*wrapA IntKind.u32 ↑(BitVec.toNat (BitVec.ofInt 32 (Int.ofNat r) &&& BitVec.ofInt 32 (1:Int)))))))=Int.ofNat (stepN r):=by
 have e1:wrapA IntKind.u32 ↑(BitVec.toNat (BitVec.ofInt 32 (Int.ofNat r) &&& BitVec.ofInt 32 (1:Int)))=Int.ofNat (Nat.land r 1):=andE (b:=1) h (by omega)
 rw [e1,mulE (land1 r),shrE]
 refine xorE ?_ ?_
 · show r >>>1<_
   rw [Nat.shiftRight_eq_div_pow];omega
 · have:=land1 r
   show 2197175160*Nat.land r 1<_
   omega
theorem stepsN_lt:∀(n:Nat) {r:Nat},r<4294967296->stepsN n r<4294967296
 | 0,r,h=>h
 | n+1,r,h=>stepsN_lt n (stepN_lt h)
theorem stepsN_add (r:Nat):∀n,stepsN (n+1) r=stepsN n (stepN r):=fun _=>rfl
theorem regN_lt {b:Nat->Nat} (hb:∀k,b k<256):∀(n o:Nat) {r:Nat},r<4294967296->regN b n o r<4294967296
 | 0,o,r,h=>h
 | n+1,o,r,h=>regN_lt hb n (o+1) (stepsN_lt 8 (Nat.xor_lt_two_pow (n:=32) h (Nat.lt_trans (hb o) (by decide))))
theorem sumI_vc (L k i r:Nat) (b:Nat->Nat) (K:Res->Orc->Prop):runK Try.prog 1000000 (.code (loopAt Try.prog 63 1) 30 (mkT [(3,.i .u32 (Int.ofNat r)),(7,.sv 1 L (byF b)),(8,.i .i64 (Int.ofNat L)),(9,.i .i64 (Int.ofNat k)),(17,.i .i64 (Int.ofNat i))]) (mkH [])) (Orc.s Orc.z Orc.z) K=((decide (Int.ofNat i<8)=true->True/\(0:Int)<=(1:Int)/\True/\True/\((-9223372036854775808)<=Int.ofNat i+1/\Int.ofNat i+(1:Int)<=(9223372036854775807:Int))/\K (Res.st XO.nrm (T.n none (T.n none (T.n (some (AV.i .u32 (wrapA .u32 ↑(BitVec.toNat (BitVec.ofInt 32 (Int.fdiv (Int.ofNat r) 2) ^^^ BitVec.ofInt 32 (wrapA .u32 (2197175160*wrapA .u32 ↑(BitVec.toNat (BitVec.ofInt 32 (Int.ofNat r) &&& BitVec.ofInt 32 1))))))))) (T.n (some (AV.sv 1 L (byF b))) T.e (T.n (some (AV.i .u32 (wrapA .u32 ↑(BitVec.toNat (BitVec.ofInt 32 (Int.ofNat r) &&& BitVec.ofInt 32 1))))) T.e
 T.e)) (T.n none (T.n (some (AV.i .u32 (Int.ofNat r))) T.e T.e) T.e)) (T.n none (T.n (some (AV.i .i64 (Int.ofNat k))) (T.n (some (AV.i .i64 (Int.ofNat i+1))) T.e T.e) (T.n (some (AV.i .u32 (wrapA .u32 ↑(BitVec.toNat (BitVec.ofInt 32 (Int.fdiv (Int.ofNat r) 2) ^^^ BitVec.ofInt 32 (wrapA .u32 (2197175160*wrapA .u32 ↑(BitVec.toNat (BitVec.ofInt 32 (Int.ofNat r) &&& BitVec.ofInt 32 1))))))))) T.e T.e)) (T.n none (T.n (some (AV.i .u32 (Int.ofNat r))) T.e T.e) T.e))) (T.n none (T.n none (T.n (some (AV.i .i64 (Int.ofNat L))) T.e (T.n (some (AV.i .u32 (wrapA .u32 (2197175160*wrapA .u32 ↑(BitVec.toNat (BitVec.ofInt 32 (Int.ofNat r) &&& BitVec.ofInt 32 1)))))) T.e T.e)) (T.n none (T.n (some (AV.i .u32 (wrapA .u32 ↑(BitVec.toNat (BitVec.ofInt 32 (Int.ofNat r) &&& BitVec.ofInt 32 1))))) T.e T.e) T.e)) (T.n (some (AV.i .u32 (wrapA .u32 ↑(BitVec.toNat (BitVec.ofInt 32 (Int.ofNat r) &&&
 BitVec.ofInt 32 1))))) (T.n none (T.n (some (AV.b (decide (Int.ofNat i<8)))) T.e T.e) (T.n (some (AV.i .i64 (Int.ofNat i+1))) T.e T.e)) (T.n none (T.n (some (AV.i .u32 (Int.fdiv (Int.ofNat r) 2))) T.e T.e) T.e)))) ⟨T.e,0,[]⟩) Orc.z)/\(decide (Int.ofNat i<8)=false->K (Res.st (XO.exit 2) (T.n none (T.n none (T.n (some (AV.i .u32 (Int.ofNat r))) (T.n (some (AV.sv 1 L (byF b))) T.e T.e) T.e) (T.n none (T.n (some (AV.i .i64 (Int.ofNat k))) (T.n (some (AV.i .i64 (Int.ofNat i))) T.e T.e) T.e) T.e)) (T.n none (T.n none (T.n (some (AV.i .i64 (Int.ofNat L))) T.e T.e) T.e) (T.n none (T.n none (T.n (some (AV.b (decide (Int.ofNat i<8)))) T.e T.e) T.e) T.e))) ⟨T.e,0,[]⟩) Orc.z)):=by kernel_rfl
theorem sumI_lp0 (L k:Nat) (b:Nat->Nat) (r0:Nat) (h0:r0<4294967296):LDoes Try.prog (loopAt Try.prog 63 1) 30 0 (mkT [(3,.i .u32 (Int.ofNat r0)),(7,.sv 1 L (byF b)),(8,.i .i64 (Int.ofNat L)),(9,.i .i64 (Int.ofNat k)),(17,.i .i64 0)]) [] (.exit 2) (mkT [(3,.i .u32 (Int.ofNat (stepsN 8 r0))),(7,.sv 1 L (byF b)),(8,.i .i64 (Int.ofNat L)),(9,.i .i64 (Int.ofNat k))]) []:=by
 refine loop_ind (D:=Nat×Nat) (l':=[(3,.i .u32 (Int.ofNat (stepsN 8 r0))),(7,.sv 1 L (byF b)),(8,.i .i64 (Int.ofNat L)),(9,.i .i64 (Int.ofNat k))])
  (fun d=>([(3,.i .u32 (Int.ofNat d.2)),(7,.sv 1 L (byF b)),(8,.i .i64 (Int.ofNat L)),(9,.i .i64 (Int.ofNat k)),(17,.i .i64 (Int.ofNat d.1))],[])) (fun d=>8-d.1)
  (fun d=>d.1<=8/\d.2<4294967296/\stepsN (8-d.1) d.2=stepsN 8 r0) ?_ (0,r0) ⟨by simp,h0,rfl⟩
 rintro ⟨i,r⟩ ⟨hi,hr,he⟩
 simp only at hi hr he
 refine ⟨Nat.le_refl _,_,_,(sumI_vc L k i r b _).mpr ⟨fun hlt=>?_,fun hge=>?_⟩⟩
 · have hlt:i<8:=by have:=of_decide_eq_true hlt;simp at this;omega
   rw [stepE hr]
   refine ⟨trivial,by omega,trivial,trivial,⟨by simp;omega,by simp;omega⟩,.inl ⟨(i+1,stepN r),[],[],_,_,⟨hlt,stepN_lt hr,?_⟩,by simp only;omega,rfl,st_k [] (by kernel_rfl)⟩⟩
   simp only
   rw [<-stepsN_add,<-he];congr 1;omega
 · have:i=8:=by simp at hge;omega
   subst this
   have he':r=stepsN 8 r0:=he
   subst he'
   exact .inr ⟨[],[],_,_,rfl,by simp,st_k [] (by kernel_rfl)⟩
theorem sumI_lp (L k:Nat) (x:Int) (b:Nat->Nat) (r0:Nat) (hx:x=Int.ofNat r0) (h0:r0<4294967296):LDoes Try.prog (loopAt Try.prog 63 1) 30 0 (mkT [(3,.i .u32 x),(7,.sv 1 L (byF b)),(8,.i .i64 (Int.ofNat L)),(9,.i .i64 (Int.ofNat k)),(17,.i .i64 0)]) [] (.exit 2) (mkT [(3,.i .u32 (Int.ofNat (stepsN 8 x.toNat))),(7,.sv 1 L (byF b)),(8,.i .i64 (Int.ofNat L)),(9,.i .i64 (Int.ofNat k))]) []:=by
 subst hx
 exact sumI_lp0 L k b r0 h0
theorem sumL_vc (L k r:Nat) (b:Nat->Nat) (K:Res->Orc->Prop):runK Try.prog 1000000 (.code (loopAt Try.prog 63 0) 30 (mkT [(3,.i .u32 (Int.ofNat r)),(7,.sv 1 L (byF b)),(8,.i .i64 (Int.ofNat L)),(9,.i .i64 (Int.ofNat k))]) (mkH [])) (Orc.s (Orc.lop [] [3,7,8,9,17] 0 (XO.exit 2) [(3,AV.i .u32 (Int.ofNat (stepsN 8 (Int.toNat (wrapA .u32 ↑(BitVec.toNat (BitVec.ofInt 32 (Int.ofNat r) ^^^ BitVec.ofInt 32 (wrapA .u32 (Int.ofNat (b k)))))))))),(7,AV.sv 1 L (byF b)),(8,AV.i .i64 (Int.ofNat L)),(9,AV.i .i64 (Int.ofNat k))] [] Orc.z) Orc.z) K=((decide (Int.ofNat k<Int.ofNat L)=true->(0<=Int.ofNat k/\Int.ofNat k<↑L)/\True/\True/\True/\LDoes Try.prog (loopAt Try.prog 63 1) 30 0 (mkT [(3,AV.i .u32 (wrapA .u32 ↑(BitVec.toNat (BitVec.ofInt 32 (Int.ofNat r) ^^^ BitVec.ofInt 32 (wrapA .u32 (Int.ofNat (b k))))))),(7,AV.sv 1 L (byF b)),(8,AV.i .i64
 (Int.ofNat L)),(9,AV.i .i64 (Int.ofNat k)),(17,AV.i .i64 0)]) [] (XO.exit 2) (mkT [(3,AV.i .u32 (Int.ofNat (stepsN 8 (Int.toNat (wrapA .u32 ↑(BitVec.toNat (BitVec.ofInt 32 (Int.ofNat r) ^^^ BitVec.ofInt 32 (wrapA .u32 (Int.ofNat (b k)))))))))),(7,AV.sv 1 L (byF b)),(8,AV.i .i64 (Int.ofNat L)),(9,AV.i .i64 (Int.ofNat k))]) []/\((-9223372036854775808)<=Int.ofNat k+1/\Int.ofNat k+(1:Int)<=(9223372036854775807:Int))/\K (Res.st XO.nrm (T.n none (T.n none (T.n (some (AV.i .u32 (Int.ofNat (stepsN 8 (Int.toNat (wrapA .u32 ↑(BitVec.toNat (BitVec.ofInt 32 (Int.ofNat r) ^^^ BitVec.ofInt 32 (wrapA .u32 (Int.ofNat (b k))))))))))) (T.n (some (AV.sv 1 L (byF b))) T.e T.e) (T.n none T.e (T.n (some (AV.i .i64 (Int.ofNat k+1))) T.e T.e))) (T.n none (T.n (some (AV.i .i64 (Int.ofNat k+1))) T.e T.e) T.e)) (T.n none (T.n none (T.n (some (AV.i .i64 (Int.ofNat L))) T.e T.e) T.e)
 T.e)) ⟨T.e,0,[]⟩) Orc.z)/\(decide (Int.ofNat k<Int.ofNat L)=false->K (Res.st (XO.exit 0) (T.n none (T.n none (T.n (some (AV.i .u32 (Int.ofNat r))) (T.n (some (AV.sv 1 L (byF b))) T.e T.e) T.e) (T.n none (T.n (some (AV.i .i64 (Int.ofNat k))) T.e T.e) T.e)) (T.n none (T.n none (T.n (some (AV.i .i64 (Int.ofNat L))) T.e T.e) T.e) (T.n none (T.n (some (AV.b (decide (Int.ofNat k<Int.ofNat L)))) T.e T.e) T.e))) ⟨T.e,0,[]⟩) Orc.z)):=by kernel_rfl
theorem xorB {r k:Nat} {b:Nat->Nat} (hr:r<4294967296) (hb:b k<256):wrapA IntKind.u32 ↑(BitVec.toNat (BitVec.ofInt 32 (Int.ofNat r) ^^^ BitVec.ofInt 32 (wrapA IntKind.u32 (Int.ofNat (b k)))))=Int.ofNat (Nat.xor r (b k)):=by
 rw [wrap32 (by omega)]
 exact xorE hr (by omega)
theorem sumL_lp (L:Nat) (b:Nat->Nat) (hL:L<4611686018427387904) (hb:∀k,b k<256):LDoes Try.prog (loopAt Try.prog 63 0) 30 0 (mkT [(3,.i .u32 4294967295),(7,.sv 1 L (byF b)),(8,.i .i64 (Int.ofNat L)),(9,.i .i64 0)]) [] (.exit 0) (mkT [(3,.i .u32 (Int.ofNat (regN b L 0 4294967295)))]) []:=by
 refine loop_ind (D:=Nat×Nat) (l':=[(3,.i .u32 (Int.ofNat (regN b L 0 4294967295)))])
  (fun d=>([(3,.i .u32 (Int.ofNat d.2)),(7,.sv 1 L (byF b)),(8,.i .i64 (Int.ofNat L)),(9,.i .i64 (Int.ofNat d.1))],[])) (fun d=>L-d.1)
  (fun d=>d.1<=L/\d.2<4294967296/\regN b (L-d.1) d.1 d.2=regN b L 0 4294967295) ?_ (0,4294967295) ⟨by simp,by simp,rfl⟩
 rintro ⟨k,r⟩ ⟨hk,hr,he⟩
 simp only at hk hr he
 have hx:=Nat.xor_lt_two_pow (n:=32) hr (Nat.lt_trans (hb k) (by decide))
 refine ⟨Nat.le_refl _,_,_,(sumL_vc L k r b _).mpr ⟨fun hlt=>?_,fun hge=>?_⟩⟩
 · have hlt:k<L:=by simpa using hlt
   rw [xorB hr (hb k)]
   refine ⟨⟨by simp,by simp;omega⟩,trivial,trivial,trivial,sumI_lp _ _ _ _ _ rfl hx,⟨by simp;omega,by simp;omega⟩,.inl ⟨(k+1,stepsN 8 (Nat.xor r (b k))),[],[],_,_,⟨hlt,stepsN_lt 8 hx,?_⟩,by simp only;omega,rfl,st_k [] (by kernel_rfl)⟩⟩
   simp only
   rw [<-he,show L-k=(L-(k+1))+1 by omega]
   rfl
 · have:k=L:=by simp at hge;omega
   subst this
   have he':r=regN b k 0 4294967295:=by rw [Nat.sub_self] at he;exact he
   subst he'
   exact .inr ⟨[],[],_,_,rfl,by simp,st_k [] (by kernel_rfl)⟩
theorem sum_vc (L:Nat) (b:Nat->Nat) (K:Res->Orc->Prop):runK Try.prog 1000000 (.call 63 [.sv 1 L (byF b)] (mkH [])) (Orc.lop [] [3,7,8,9] 0 (XO.exit 0) [(3,AV.i .u32 (Int.ofNat (regN b L 0 4294967295)))] [] Orc.z) K=(LDoes Try.prog (loopAt Try.prog 63 0) 30 0 (mkT [(3,AV.i .u32 4294967295),(7,AV.sv 1 L (byF b)),(8,AV.i .i64 (Int.ofNat L)),(9,AV.i .i64 0)]) [] (XO.exit 0) (mkT [(3,AV.i .u32 (Int.ofNat (regN b L 0 4294967295)))]) []/\True/\K (Res.rv (AV.i .u32 (wrapA .u32 ↑(BitVec.toNat (BitVec.ofInt 32 4294967295 ^^^ BitVec.ofInt 32 (Int.ofNat (regN b L 0 4294967295)))))) ⟨T.e,0,[]⟩) Orc.z):=by kernel_rfl
theorem notE {r:Nat} (h:r<4294967296):Nat.xor 4294967295 r=4294967295-r:=by
 have:(~~~ (BitVec.ofNat 32 r)).toNat=2 ^ 32-1-r:=by
  rw [BitVec.toNat_not,BitVec.toNat_ofNat,Nat.mod_eq_of_lt (by simpa using h)]
 rw [<-BitVec.allOnes_xor,BitVec.toNat_xor,BitVec.toNat_ofNat,Nat.mod_eq_of_lt (by simpa using h)] at this
 exact this
theorem sum_con (L:Nat) (b:Nat->Nat) (hL:L<4611686018427387904) (hb:∀k,b k<256):Con Try.prog 63 [.sv 1 L (byF b)] [] (.i .u32 (Int.ofNat (sumN b L))) []:=by
 refine con_plain rfl ((sum_vc L b _).mpr ⟨sumL_lp L b hL hb,trivial,_,_,rfl,?_⟩)
 have hr:=regN_lt hb L 0 (r:=4294967295) (by decide)
 have e:wrapA IntKind.u32 ↑(BitVec.toNat (BitVec.ofInt 32 (4294967295:Int) ^^^ BitVec.ofInt 32 (Int.ofNat (regN b L 0 4294967295))))=Int.ofNat (Nat.xor 4294967295 (regN b L 0 4294967295)):=xorE (a:=4294967295) (by decide) hr
 rw [e,notE hr];rfl
noncomputable def cvN (c:CV):Nat:=match c with
 | .i _ n=>n.toNat
 | _=>0
noncomputable def bOf (f:Nat->Nat->CV):Nat->Nat:=fun k=>cvN (f k 0)
noncomputable def fourB (n:Nat):Nat->Nat:=fun k=>Nat.mod (Nat.div n (Nat.pow 256 k)) 256
noncomputable def four1 (b:Nat->Nat):Nat:=b 0+b 1*256+b 2*65536+b 3*16777216
theorem fourB_lt (n k:Nat):fourB n k<256:=Nat.mod_lt _ (by decide)
theorem four_vc (n:Nat) (K:Res->Orc->Prop):runK Try.prog 1000000 (.call 62 [.i .u32 (Int.ofNat n)] (mkH [])) (Orc.z) K=(True/\(0:Int)<=(8:Int)/\True/\(0:Int)<=(16:Int)/\True/\(0:Int)<=(24:Int)/\True/\K (Res.rv (AV.l 0 0 4 4 1 true) ⟨T.n (some (AObj.cells 5 4 [] (T.n (some (AV.i .u8 (wrapA .u8 (Int.ofNat n)))) (T.n (some (AV.i .u8 (wrapA .u8 (Int.fdiv (Int.ofNat n) 256)))) (T.n (some (AV.i .u8 (wrapA .u8 (Int.fdiv (Int.ofNat n) 16777216)))) T.e T.e) T.e) (T.n (some (AV.i .u8 (wrapA .u8 (Int.fdiv (Int.ofNat n) 65536)))) T.e T.e)))) T.e T.e,1,[0]⟩) Orc.z):=by kernel_rfl
theorem fourE (n k m:Nat) (h:m=256 ^ k):wrapA IntKind.u8 (Int.fdiv (Int.ofNat n) (Int.ofNat m))=Int.ofNat (fourB n k):=by
 rw [Int.fdiv_eq_ediv_of_nonneg _ (by simp)]
 show Int.ofNat (n / m % 256)=Int.ofNat (n / 256 ^ k % 256)
 rw [h]
noncomputable def trR (b:Nat->Nat) (n:Nat):Nat:=Nat.rec (motive:=fun _=>Nat) 0 (fun n ih=>bif Nat.beq (b n) 0 then ih else n+1) n
noncomputable def trLN (b:Nat->Nat) (n:Nat):Nat:=Nat.rec (motive:=fun _=>(Nat->Nat)->Nat) (fun _=>0) (fun n ih b=>bif Nat.beq (b 0) 0 then ih (fun k=>b (1+k)) else n+1) n b
noncomputable def trN (b:Nat->Nat) (n:Nat):Nat:=trLN b (trR b n)
theorem four0_con (n:Nat):Con Try.prog 62 [.i .u32 (Int.ofNat n)] [] (.sv 1 4 (byF (fourB n))) []:=by
 have h:Con Try.prog 62 [.i .u32 (Int.ofNat n)] [] (.sv 1 4 (listF 1 [.i .u8 (Int.ofNat (fourB n 0)),.i .u8 (Int.ofNat (fourB n 1)),.i .u8 (Int.ofNat (fourB n 2)),.i .u8 (Int.ofNat (fourB n 3))] 4)) []:=by
  refine con_of_run [0] [] ((four_vc n _).mpr ?_)
  have e0:wrapA IntKind.u8 (Int.ofNat n)=Int.ofNat (fourB n 0):=by
   show Int.ofNat (n % 256)=Int.ofNat (n / 256 ^ 0 % 256)
   simp
  have e1:wrapA IntKind.u8 (Int.fdiv (Int.ofNat n) 256)=Int.ofNat (fourB n 1):=fourE n 1 256 rfl
  have e2:wrapA IntKind.u8 (Int.fdiv (Int.ofNat n) 65536)=Int.ofNat (fourB n 2):=fourE n 2 65536 rfl
  have e3:wrapA IntKind.u8 (Int.fdiv (Int.ofNat n) 16777216)=Int.ofNat (fourB n 3):=fourE n 3 16777216 rfl
  rw [e0,e1,e2,e3]
  exact ⟨trivial,by decide,trivial,by decide,trivial,by decide,trivial,_,_,rfl,ret_fz [0] ((0+4*1<=4)/\True) (by kernel_rfl) (by kernel_rfl) ⟨by decide,trivial⟩ (by kernel_rfl) rfl (by kernel_rfl) (by kernel_rfl) rfl trivial⟩
 refine h.post (.sv fun i j hi hj=>?_) (OVL.refl _)
 obtain rfl:j=0:=by omega
 have:i=0\/i=1\/i=2\/i=3:=by omega
 rcases this with rfl | rfl | rfl | rfl<;>exact Eq.refl _
noncomputable def openB (gg:Nat->Nat->CV):Bool:=decide (Int.ofNat (four1 (bOf (shiftF 60 gg)))=Int.ofNat (sumN (bOf gg) 60))
end Go.Proofs.Cd
namespace Go.Proofs.St
open Go Go.Sim Go.Proofs Go.Proofs.Ytgoppmcfidmgfaa
abbrev PW:=List (Nat×(Nat->Int))
noncomputable def lB:PW->Nat->Bool
 | [],_=>false
 | w :: P,k=>bif Nat.beq k w.1 then true else lB P k
noncomputable def lbs:PW->Nat->Nat->Int
 | [],_=>fun _=>0
 | w :: P,k=>bif Nat.beq k w.1 then w.2 else lbs P k
structure SS where
 n:Nat
 dur:Nat->Nat->Int
 torn:Nat->Bool
 P:PW
 wr:Nat
 off:Bool
 armed:Bool
 left:Nat
noncomputable def SS.rdE (s:SS) (i:Int):Int:=match s.off with
 | true=>13
 | false=>match decide (0<=i/\i<Int.ofNat s.n) with
   | false=>2
   | true=>match lB s.P i.toNat with
     | true=>0
     | false=>match s.torn i.toNat with
       | true=>14
       | false=>0
noncomputable def SS.rdB (s:SS) (i:Int):Nat->Int:=match lB s.P i.toNat with
 | true=>lbs s.P i.toNat
 | false=>s.dur i.toNat
end Go.Proofs.St
namespace Go.Proofs.Cl
open Go Go.Sim Go.Proofs Go.Proofs.Cd Go.Proofs.St Go.Proofs.Ytgoppmcfidmgfaa
noncomputable def numN (b:Nat->Nat):Nat:=four1 (bOf (byF b))+four1 (bOf (shiftF 4 (byF b)))*4294967296
noncomputable def txtD (b:Nat->Nat):List Nat:=bytesF (b 8) (shiftF 9 (byF b))
noncomputable def restN (b:Nat->Nat):Nat:=trN (bOf (shiftF (9+b 8) (byF b))) (60-(9+b 8))
noncomputable def okB (b:Nat->Nat):Bool:=openB (byF b) && (Nat.ble (b 8) 51 && (Nat.ble 1 (numN b) && (Nat.ble (numN b) 1099511627776 && Nat.beq (restN b) 0)))
noncomputable def lkQ (b:Nat->Nat):Nat:=bif okB b then numN b else 0
noncomputable def lkD (b:Nat->Nat):List Nat:=bif okB b then txtD b else []
structure Byt (s:SS):Prop where
 dur:∀i j,∃n:Nat,n<256/\s.dur i j=Int.ofNat n
 P:∀w∈s.P,∀j,∃n:Nat,n<256/\w.2 j=Int.ofNat n
noncomputable def rdC (s:SS) (i:Int):Nat->Nat:=fun k=>(s.rdB i k).toNat
noncomputable def seeQ (s:SS) (a:Int):Nat:=match decide (s.rdE a=0) with
 | true=>lkQ (rdC s a)
 | false=>0
noncomputable def seeD (s:SS) (a:Int):List Nat:=match decide (s.rdE a=0) with
 | true=>lkD (rdC s a)
 | false=>[]
structure OkM (s:SS) (m:Nat):Prop where
 n:s.n<=512
 P:s.P.length<=m
 wr:s.wr<=m
 left:s.left<9223372036854775808
 at_:∀w∈s.P,w.1<s.n
structure CS where
 n:Nat
 q:Nat->Nat
 d:Nat->List Nat
 sp:Nat->Nat
 dead:Bool
noncomputable def nwQ (q1 q2:Nat):Nat:=match Nat.blt q1 q2 with
 | true=>q2
 | false=>q1
noncomputable def nwD (q1 q2:Nat) (d1 d2:List Nat):List Nat:=match Nat.blt q1 q2 with
 | true=>d2
 | false=>d1
noncomputable def nwS (q1 q2:Nat):Nat:=match Nat.blt q1 q2 with
 | true=>0
 | false=>match Nat.beq q1 0 with
   | true=>0
   | false=>1
noncomputable def opQ (s:SS) (i:Nat):Nat:=nwQ (seeQ s (Int.ofNat i*2+0)) (seeQ s (Int.ofNat i*2+1))
noncomputable def opD (s:SS) (i:Nat):List Nat:=nwD (seeQ s (Int.ofNat i*2+0)) (seeQ s (Int.ofNat i*2+1)) (seeD s (Int.ofNat i*2+0)) (seeD s (Int.ofNat i*2+1))
noncomputable def opS (s:SS) (i:Nat):Nat:=nwS (seeQ s (Int.ofNat i*2+0)) (seeQ s (Int.ofNat i*2+1))
structure Inv (c:CS) (s:SS) (m:Nat):Prop where
 hc:c.n<=256
 hs:2*c.n<=s.n
 sp:∀k,c.sp k<=1
 ok:OkM s m
 byt:Byt s
end Go.Proofs.Cl
namespace Go.Proofs.Cl
open Go Go.Sim Go.Proofs Go.Proofs.St
noncomputable def z0 {α:Type} (a b:T α):T α:=T.n none a b
noncomputable def z1 {α:Type} (v:α) (a b:T α):T α:=T.n (some v) a b
noncomputable def zl {α:Type} (v:α):T α:=T.n (some v) T.e T.e
end Go.Proofs.Cl
namespace Go.Proofs.Cl
open Go Go.Sim Go.Proofs Go.Proofs.Cd Go.Proofs.St Go.Proofs.Ytgoppmcfidmgfaa
noncomputable def nV (b:Nat->Nat):Nat->Nat
 | 0=>0
 | i+1=>nV b i+b i % 128*2 ^ (7*i)
noncomputable def nm (b:Nat->Nat) (L:Nat):Nat->Nat->Option (Nat×Nat×Nat)
 | 0,_=>none
 | k+1,i=>match Nat.beq i L with
   | true=>some (0,0,10)
   | false=>match Nat.ble 128 (b i) with
     | true=>nm b L k (i+1)
     | false=>match Nat.beq (b i) 0 && Nat.blt 0 i with
       | true=>some (0,0,11)
       | false=>some (nV b (i+1),i+1,0)
noncomputable def nmv (b:Nat->Nat) (L:Nat):Nat:=((nm b L 9 0).getD (0,0,11)).1
noncomputable def nmz (b:Nat->Nat) (L:Nat):Nat:=((nm b L 9 0).getD (0,0,11)).2.1
noncomputable def nme (b:Nat->Nat) (L:Nat):Nat:=((nm b L 9 0).getD (0,0,11)).2.2
end Go.Proofs.Cl
namespace Go.Proofs.Cl
open Go Go.Sim Go.Proofs Go.Proofs.Cd Go.Proofs.St
noncomputable def shB (z:Nat) (b:Nat->Nat):Nat->Nat:=fun k=>b (z+k)
noncomputable def tB (t:List Nat):Nat->Nat:=fun i=>t.getD i 0
end Go.Proofs.Cl
namespace Go.Proofs.Cl
open Go Go.Sim Go.Proofs Go.Proofs.Cd Go.Proofs.St Go.Proofs.Ytgoppmcfidmgfaa
theorem cloneS_vc (m:Nat) (b:Nat->Nat) (K:Res->Orc->Prop):runK Try.prog 1000000 (.call 64 [.sv 1 (m+1) (byF b)] (mkH [])) (Orc.c (Orc.s Orc.z Orc.z)) K=(True/\((1=1/\0+(m+1)<=m+1)/\True/\True/\0+(m+1)<=140737488355328/\(3*(0+(m+1))+1536)*1<=562949953421312)/\K (Res.rv (AV.sv 1 (m+1) fun k x=>CV.i .u8 (Int.ofNat (b k))) ⟨z0 (z0 T.e T.e) T.e,2,[1,1,0,0]⟩) Orc.z):=by kernel_rfl
theorem clone0_vc (K:Res->Orc->Prop):runK Try.prog 1000000 (.call 64 [.l0] (mkH [])) (Orc.c Orc.z) K=(True/\K (Res.rv AV.l0 ⟨T.e,0,[]⟩) Orc.z):=by kernel_rfl
theorem clonez_vc (K:Res->Orc->Prop):runK Try.prog 1000000 (.call 64 [.lz] (mkH [])) (Orc.c Orc.z) K=(True/\K (Res.rv (AV.l 0 0 0 0 1 true) ⟨zl (AObj.cells 5 0 [] T.e),1,[0,0]⟩) Orc.z):=by kernel_rfl
theorem cloneB_con (L:Nat) (b:Nat->Nat) (hL:L<=1073741824):Con Try.prog 64 [.sv 1 L (byF b)] [] (.sv 1 L (byF b)) []:=by
 cases L with
 | succ m=>exact con_of_run [] [] ((cloneS_vc m b _).mpr ⟨trivial,⟨⟨rfl,by omega⟩,trivial,trivial,by omega,by omega⟩,_,_,rfl,ret_k (by kernel_rfl)⟩)
 | zero=>
   have h0:Con Try.prog 64 [.l0] [] (.sv 1 0 (byF b)) []:=by
    have h:=con_of_run (v:=.l0) (us:=[]) [] [] ((clone0_vc _).mpr ⟨trivial,_,_,rfl,ret_k (by kernel_rfl)⟩)
    exact h.post (VW.nil _ _) trivial
   have hz:Con Try.prog 64 [.lz] [] (.sv 1 0 (byF b)) []:=by
    have h:=con_of_run (v:=.sv 1 0 (listF 1 [] 0)) (us:=[]) [0] [] ((clonez_vc _).mpr ⟨trivial,_,_,rfl,ret_fz [0] ((0+0*1<=0)/\True) (by kernel_rfl) (by kernel_rfl) ⟨by omega,trivial⟩ (by kernel_rfl) rfl (by kernel_rfl) (by kernel_rfl) rfl trivial⟩)
    exact h.post (VW.sv fun i j hi=>absurd hi (Nat.not_lt_zero i)) trivial
   intro ρ w args' hv hh hoff
   cases hv with | cons _ _ v' _ h1 h2=>
   cases h1 with | sv _ _ _ _ hc=>
   cases hc with
   | sv0=>exact h0 ρ w _ (.cons _ _ _ _ .l0 h2) hh hoff
   | svz _ _ a c=>exact hz ρ w _ (.cons _ _ _ _ (.lz a c) h2) hh hoff
   | sv _ _ _ B o cap g q1 q2 q3=>exact hz ρ w _ (.cons _ _ _ _ (.lz _ cap) h2) hh hoff
theorem tB_lt {t:List Nat} (h:∀x∈t,x<256) (k:Nat):tB t k<256:=by
 unfold tB
 rw [List.getD_eq_getElem?_getD]
 cases hk:t[k]? with
 | none=>decide
 | some x=>exact h x (List.mem_of_getElem? hk)
end Go.Proofs.Cl
namespace Go.Proofs.Cl
open Go Go.Sim Go.Proofs Go.Proofs.Cd Go.Proofs.St
noncomputable def w0O:AObj:=.cells 82 2 [.p0,.i .i64 0] .e
noncomputable def wO (k:Nat):AObj:=.cells 82 2 [.p0,.i .i64 0] (setAll .e 0 [.p 1 0,.i .i64 (Int.ofNat k)])
noncomputable def shO (A k:Nat):AObj:=.cells 100 1 [] (setAll .e 0 [.lr A 1 0 k false])
noncomputable def lyB (g:Nat->Int) (k:Nat) (x:Int):Nat->Int:=fun i=>bif Nat.blt i k then g i else x
noncomputable def iF (b:Nat->Int):Nat->Nat->CV:=fun k _=>.i .u8 (b k)
end Go.Proofs.Cl
namespace Go.Proofs.Cl
open Go Go.Sim Go.Proofs Go.Proofs.Cd Go.Proofs.St Go.Proofs.Ytgoppmcfidmgfaa
theorem lay0_vc (x:Int) (K:Res->Orc->Prop):runK Try.prog 1000000 (.call 59 [.p 0 0,.i .u8 x] (mkH [some w0O])) (oc 15 (Orc.inl (oc 7 Orc.z))) K=(True/\True/\True/\True/\True/\True/\True/\True/\True/\True/\True/\((-9223372036854775808:Int)<=(1:Int)/\(1:Int)<=(9223372036854775807:Int))/\True/\K (Res.rv (AV.tup []) ⟨z1 (AObj.cells 82 2 [AV.p0,AV.i .i64 0] (z1 (AV.p 1 0) (zl (AV.i .i64 1)) T.e)) (z1 (AObj.cells 100 1 [] (zl (AV.l 3 0 1 1 1 false))) (zl (AObj.cells 5 1 [] (zl (AV.i .u8 x)))) T.e) (zl (AObj.cells 5 1 [] (zl (AV.i .u8 x)))),4,[0,1,3,2,0,1]⟩) Orc.z):=by kernel_rfl
theorem layR_vc (x:Int) (k:Nat) (g:Nat->Int) (h:decide (Int.ofNat k<Int.ofNat k)=false) (K:Res->Orc->Prop):runK Try.prog 1000000 (.call 59 [.p 0 0,.i .u8 x] (mkH [some (wO k),some (shO 2 k),some (.rows 5 1 k (Cl.iF g))])) (oc 14 (Orc.f Orc.z)) K=(True/\True/\True/\True/\True/\decide (Int.ofNat k<Int.ofNat k)=false/\True/\True/\True/\(0+k<=k/\True/\k+1<=140737488355328/\(3*(k+1)+1536)*1<=562949953421312)/\True/\True/\((-9223372036854775808)<=Int.ofNat k+1/\Int.ofNat k+(1:Int)<=(9223372036854775807:Int))/\True/\K (Res.rv (AV.tup []) ⟨z1 (AObj.cells 82 2 [AV.p0,AV.i .i64 0] (z1 (AV.p 1 0) (zl (AV.i .i64 (Int.ofNat k+1))) T.e)) (z1 (AObj.cells 100 1 [] (zl (AV.lr 4 1 0 (addN k 1) false))) (zl (AObj.cells 5 1 [] (zl (AV.i .u8 x)))) T.e) (z0 (zl (AObj.rows 5 1 (addN k 1) (appZ k (fun k x=>CV.i .u8 (g k)) fun x_1 j=>
 List.getD [CV.i .u8 x] j CV.p0))) T.e),5,[0,1,4,2,3]⟩) Orc.z):=by kernel_rfl
theorem w0_vc (n:Nat) (K:Res->Orc->Prop):runK Try.prog 1000000 (.code (loopAt Try.prog 50 0) 21 (mkT [(0,.p 0 0),(1,.i .i64 (Int.ofNat n))]) (mkH [some w0O])) (Orc.s (Orc.cal [0] (AV.tup []) [Upd.set (wO 1),Upd.set (shO 2 1),Upd.set (AObj.rows 5 1 1 (iF fun x=>wrapA .u8 ↑(BitVec.toNat (BitVec.ofInt 8 (wrapA .u8 (Int.ofNat n)) ||| BitVec.ofInt 8 128))))] Orc.z) Orc.z) K=((decide (128<=Int.ofNat n)=true->True/\True/\Con Try.prog 59 [AV.p 0 0,AV.i .u8 (wrapA .u8 ↑(BitVec.toNat (BitVec.ofInt 8 (wrapA .u8 (Int.ofNat n)) ||| BitVec.ofInt 8 128)))] [some w0O] (AV.tup []) [Upd.set (wO 1),Upd.set (shO 2 1),Upd.set (AObj.rows 5 1 1 (iF fun x=>wrapA .u8 ↑(BitVec.toNat (BitVec.ofInt 8 (wrapA .u8 (Int.ofNat n)) ||| BitVec.ofInt 8 128))))]/\(0:Int)<=(7:Int)/\K (Res.st XO.nrm (z1 (AV.p 0 0) (z1 (AV.i .i64 (Int.fdiv (Int.ofNat n) 128)) (z0 (z0 (zl (AV.i .u8 (wrapA
 .u8 ↑(BitVec.toNat (BitVec.ofInt 8 (wrapA .u8 (Int.ofNat n)) ||| BitVec.ofInt 8 128))))) T.e) (zl (AV.i .i64 (Int.fdiv (Int.ofNat n) 128)))) (z0 (zl (AV.b (decide (128<=Int.ofNat n)))) (zl (AV.i .i64 (Int.ofNat n))))) (z0 (z0 (z1 (AV.i .i64 (Int.ofNat n)) (zl (AV.tup [])) T.e) (zl (AV.p 0 0))) (z0 (zl (AV.i .i64 (Int.ofNat n))) (zl (AV.i .u8 (wrapA .u8 (Int.ofNat n))))))) ⟨z1 (AObj.cells 82 2 [AV.p0,AV.i .i64 0] (z1 (AV.p 1 0) (zl (AV.i .i64 1)) T.e)) (zl (AObj.cells 100 1 [] (zl (AV.lr 2 1 0 1 false)))) (zl (AObj.rows 5 1 1 (iF fun x=>wrapA .u8 ↑(BitVec.toNat (BitVec.ofInt 8 (wrapA .u8 (Int.ofNat n)) ||| BitVec.ofInt 8 128))))),2+1,[2,1,0]⟩) Orc.z)/\(decide (128<=Int.ofNat n)=false->K (Res.st (XO.exit 0) (z1 (AV.p 0 0) (z1 (AV.i .i64 (Int.ofNat n)) T.e (z0 (zl (AV.b (decide (128<=Int.ofNat n)))) T.e)) (z0 (z0 (zl (AV.i .i64 (Int.ofNat n))) T.e) T.e)) ⟨zl (AObj.cells
 82 2 [AV.p0,AV.i .i64 0] T.e),1,[]⟩) Orc.z)):=by kernel_rfl
theorem wR_vc (n k:Nat) (g:Nat->Int) (K:Res->Orc->Prop):runK Try.prog 1000000 (.code (loopAt Try.prog 50 0) 21 (mkT [(0,.p 0 0),(1,.i .i64 (Int.ofNat n))]) (mkH [some (wO k),some (shO 2 k),some (.rows 5 1 k (Cl.iF g))])) (Orc.s (Orc.cal [0,1,2] (AV.tup []) [Upd.set (wO (k+1)),Upd.set (shO 3 (k+1)),Upd.gone,Upd.set (AObj.rows 5 1 (k+1) (iF (lyB g k (wrapA .u8 ↑(BitVec.toNat (BitVec.ofInt 8 (wrapA .u8 (Int.ofNat n)) ||| BitVec.ofInt 8 128))))))] Orc.z) Orc.z) K=((decide (128<=Int.ofNat n)=true->True/\True/\Con Try.prog 59 [AV.p 0 0,AV.i .u8 (wrapA .u8 ↑(BitVec.toNat (BitVec.ofInt 8 (wrapA .u8 (Int.ofNat n)) ||| BitVec.ofInt 8 128)))] [some (wO k),some (shO 2 k),some (AObj.rows 5 1 k (iF g))] (AV.tup []) [Upd.set (wO (k+1)),Upd.set (shO 3 (k+1)),Upd.gone,Upd.set (AObj.rows 5 1 (k+1) (iF (lyB g k (wrapA .u8 ↑(BitVec.toNat (BitVec.ofInt 8
 (wrapA .u8 (Int.ofNat n)) ||| BitVec.ofInt 8 128))))))]/\(0:Int)<=(7:Int)/\K (Res.st XO.nrm (z1 (AV.p 0 0) (z1 (AV.i .i64 (Int.fdiv (Int.ofNat n) 128)) (z0 (z0 (zl (AV.i .u8 (wrapA .u8 ↑(BitVec.toNat (BitVec.ofInt 8 (wrapA .u8 (Int.ofNat n)) ||| BitVec.ofInt 8 128))))) T.e) (zl (AV.i .i64 (Int.fdiv (Int.ofNat n) 128)))) (z0 (zl (AV.b (decide (128<=Int.ofNat n)))) (zl (AV.i .i64 (Int.ofNat n))))) (z0 (z0 (z1 (AV.i .i64 (Int.ofNat n)) (zl (AV.tup [])) T.e) (zl (AV.p 0 0))) (z0 (zl (AV.i .i64 (Int.ofNat n))) (zl (AV.i .u8 (wrapA .u8 (Int.ofNat n))))))) ⟨z1 (AObj.cells 82 2 [AV.p0,AV.i .i64 0] (z1 (AV.p 1 0) (zl (AV.i .i64 (Int.ofNat (k+1)))) T.e)) (z1 (AObj.cells 100 1 [] (zl (AV.lr 3 1 0 (k+1) false))) (zl (AObj.rows 5 1 (k+1) (iF (lyB g k (wrapA .u8 ↑(BitVec.toNat (BitVec.ofInt 8 (wrapA .u8 (Int.ofNat n)) ||| BitVec.ofInt 8 128))))))) T.e) (z0 T.e T.e),3+1,[3,2,1,
 0]⟩) Orc.z)/\(decide (128<=Int.ofNat n)=false->K (Res.st (XO.exit 0) (z1 (AV.p 0 0) (z1 (AV.i .i64 (Int.ofNat n)) T.e (z0 (zl (AV.b (decide (128<=Int.ofNat n)))) T.e)) (z0 (z0 (zl (AV.i .i64 (Int.ofNat n))) T.e) T.e)) ⟨z1 (AObj.cells 82 2 [AV.p0,AV.i .i64 0] (z1 (AV.p 1 0) (zl (AV.i .i64 (Int.ofNat k))) T.e)) (zl (AObj.cells 100 1 [] (zl (AV.lr 2 1 0 k false)))) (zl (AObj.rows 5 1 k (iF g))),3,[]⟩) Orc.z)):=by kernel_rfl
theorem lay0_con (x:Int):Con Try.prog 59 [.p 0 0,.i .u8 x] [some w0O] (.tup []) [.set (wO 1),.set (shO 2 1),.set (.rows 5 1 1 (Cl.iF fun _=>x))]:=by
 have k:Con Try.prog 59 [.p 0 0,.i .u8 x] [some w0O] (.tup []) [.set (wO 1),.set (.cells 100 1 [] (setAll .e 0 [.l 2 0 1 1 1 false])),.set (cellsO 5 [.i .u8 x])]:=
  con_of_run [] [1,3] ((lay0_vc x _).mpr (by
   repeat' first | exact trivial | apply And.intro | decide | exact ⟨_,_,rfl,ret_is (by kernel_rfl) rfl (by kernel_rfl) (by kernel_rfl) rfl (by refine ⟨?_,?_,?_,?_,?_,?_,trivial⟩<;>kernel_rfl)⟩))
 refine k.post (.refl _) ⟨.refl _,.cellsD (dflt:=[]) (l:=[.l 2 0 1 1 1 false]) (l':=[.lr 2 1 0 1 false]) ⟨⟨fun _=>rfl,fun ρ x h=>h.l_lr⟩,trivial⟩,.x (OX.cellsRows (f:=fun i=>Cl.iF (fun _=>x) i 0) rfl fun i hi=>?_),trivial⟩
 have:i=0:=by omega
 subst this
 exact ⟨_,rfl,fun ρ y h=>by cases h;exact .i _ _⟩
theorem lay_app (g:Nat->Int) (k:Nat) (x:Int) (i j:Nat) (hi:i<k+1) (hj:j<1):CW (appZ k (Cl.iF g) (fun _ j=>List.getD [CV.i .u8 x] j .p0) i j) (Cl.iF (lyB g k x) i j):=by
 have:j=0:=by omega
 subst this
 have h:=appZ_i (n:=k) (f:=Cl.iF g) (g:=fun _ j=>List.getD [CV.i .u8 x] j .p0) (i:=i) (j:=0) (k:=.u8) (a:=g i) (b:=x) rfl rfl
 refine .of ?_
 rw [h]
 unfold Cl.iF lyB
 by_cases q:i<k
 · rw [if_pos q,show Nat.blt i k=true by rw [Nat.blt_eq];exact q];rfl
 · rw [if_neg q,show Nat.blt i k=false by rw [Bool.eq_false_iff,ne_eq,Nat.blt_eq];exact q];rfl
theorem layR_con (x:Int) (k:Nat) (g:Nat->Int) (hk:k<=1073741824):Con Try.prog 59 [.p 0 0,.i .u8 x] [some (wO k),some (shO 2 k),some (.rows 5 1 k (Cl.iF g))] (.tup []) [.set (wO (k+1)),.set (shO 3 (k+1)),.gone,.set (.rows 5 1 (k+1) (Cl.iF (lyB g k x)))]:=by
 have d:decide (Int.ofNat k<Int.ofNat k)=false:=decide_eq_false (by simp)
 have sz:0+k<=k/\True/\k+1<=140737488355328/\(3*(k+1)+1536)*1<=562949953421312:=⟨by omega,trivial,by omega,by omega⟩
 have b:(-9223372036854775808:Int)<=Int.ofNat k+1/\Int.ofNat k+1<=(9223372036854775807:Int):=⟨by simp;omega,by simp;omega⟩
 have q:Con Try.prog 59 [.p 0 0,.i .u8 x] [some (wO k),some (shO 2 k),some (.rows 5 1 k (Cl.iF g))] (.tup []) [.set (wO (k+1)),.set (shO 3 (addN k 1)),.gone,.set (.rows 5 1 (addN k 1) (appZ k (Cl.iF g) fun _ j=>List.getD [CV.i .u8 x] j .p0))]:=
  con_of_run [] [4] ((layR_vc x k g d _).mpr (by
   repeat' first | exact trivial | assumption | apply And.intro | exact ⟨_,_,rfl,ret_is (by kernel_rfl) rfl (by kernel_rfl) (by kernel_rfl) rfl (by refine ⟨?_,?_,?_,?_,?_,?_,trivial⟩<;>kernel_rfl)⟩))
 rw [addN_eq] at q
 exact q.post (.refl _) ⟨.refl _,.refl _,.refl _,.rowsW fun i j hi hj=>lay_app g k x i j hi hj,trivial⟩
noncomputable def chN (n:Nat):Int:=wrapA IntKind.u8 ↑(BitVec.toNat (BitVec.ofInt 8 (wrapA IntKind.u8 (Int.ofNat n)) ||| BitVec.ofInt 8 (128:Int)))
theorem chN_eq (n:Nat):chN n=Int.ofNat (n % 128+128):=by
 have key:∀x:Fin 256,(BitVec.ofInt 8 (Int.ofNat x.1) ||| BitVec.ofInt 8 (128:Int)).toNat=x.1 % 128+128:=by decide
 have e:wrapA IntKind.u8 (Int.ofNat n)=Int.ofNat (n % 256):=rfl
 unfold chN
 rw [e,key ⟨n % 256,Nat.mod_lt _ (by decide)⟩]
 show Int.ofNat ((n % 256 % 128+128) % 256)= _
 congr 1
 omega
theorem fdiv128 (n:Nat):Int.fdiv (Int.ofNat n) (128:Int)=Int.ofNat (n / 128):=by
 cases n<;>rfl
noncomputable def fW (n:Nat):Nat->Int:=fun i=>chN (n / 128 ^ i)
noncomputable def gW (g:Nat->Int) (k n:Nat):Nat->Int:=fun i=>bif Nat.blt i k then g i else chN (n / 128 ^ (i-k))
noncomputable def mRf:Nat->Nat->Nat
 | 0,_=>0
 | f+1,n=>match Nat.blt n 128 with
   | true=>0
   | false=>mRf f (n / 128)+1
noncomputable def mR (n:Nat):Nat:=mRf 10 n
noncomputable def lst (n:Nat):Nat:=n / 128 ^ mR n
theorem mRf_ok:∀(f n:Nat),n<128 ^ (f+1)->mRf f n<=f/\(∀j,j<mRf f n->128<=n / 128 ^ j)/\n / 128 ^ mRf f n<128
 | 0,n,h=>⟨Nat.le_refl _,fun j hj=>absurd hj (Nat.not_lt_zero j),by show n / 1<128;rw [Nat.div_one];simpa using h⟩
 | f+1,n,h=>by
   cases hb:Nat.blt n 128 with
   | true=>
     have e:mRf (f+1) n=0:=by show (match Nat.blt n 128 with | true=>0 | false=>_)=0;rw [hb]
     have:n<128:=by rwa [Nat.blt_eq] at hb
     rw [e]
     exact ⟨Nat.zero_le _,fun j hj=>absurd hj (Nat.not_lt_zero j),by show n / 1<128;rw [Nat.div_one];exact this⟩
   | false=>
     have e:mRf (f+1) n=mRf f (n / 128)+1:=by show (match Nat.blt n 128 with | true=>0 | false=>mRf f (n / 128)+1)= _;rw [hb]
     have hn:¬n<128:=by rw [Bool.eq_false_iff,ne_eq,Nat.blt_eq] at hb;exact hb
     have hd:n / 128<128 ^ (f+1):=by
      rw [Nat.div_lt_iff_lt_mul (by decide),<-Nat.pow_succ];exact h
     obtain ⟨i1,i2,i3⟩:=mRf_ok f (n / 128) hd
     have ed:∀j,n / 128 / 128 ^ j=n / 128 ^ (j+1):=fun j=>by rw [Nat.div_div_eq_div_mul,Nat.pow_succ,Nat.mul_comm]
     rw [e]
     refine ⟨by omega,fun j hj=>?_,?_⟩
     · cases j with
       | zero=>show 128<=n / 1;rw [Nat.div_one];omega
       | succ j=>rw [<-ed];exact i2 j (by omega)
     · rw [<-ed];exact i3
theorem mR_ok {n:Nat} (h:n<9223372036854775808):mR n<=10/\(∀j,j<mR n->128<=n / 128 ^ j)/\n / 128 ^ mR n<128:=mRf_ok 10 n (Nat.lt_of_lt_of_le h (by decide))
theorem le_dec {x:Nat} (h:decide ((128:Int)<=Int.ofNat x)=true):128<=x:=by
 have:=of_decide_eq_true h
 simp at this;omega
theorem lt_dec {x:Nat} (h:decide ((128:Int)<=Int.ofNat x)=false):x<128:=by
 have:=of_decide_eq_false h
 simp at this;omega
theorem div_s (n j:Nat):n / 128 ^ j / 128=n / 128 ^ (j+1):=by rw [Nat.div_div_eq_div_mul,Nat.pow_succ]
noncomputable def wI (n k:Nat) (g:Nat->Int) (j:Nat):List (Nat×AV)×List (Option AObj):=([(0,.p 0 0),(1,.i .i64 (Int.ofNat (n / 128 ^ j)))],[some (wO (k+j)),some (shO 2 (k+j)),some (.rows 5 1 (k+j) (Cl.iF (gW g k n)))])
theorem lpC (n k:Nat) (g:Nat->Int) (hn:n<9223372036854775808) (hk:k<=1073741000) (s:Nat) (hs:s<=mR n) :
 LDoes Try.prog (loopAt Try.prog 50 0) 21 2 (mkT (wI n k g s).1) (wI n k g s).2 (.exit 0) (mkT [(0,.p 0 0),(1,.i .i64 (Int.ofNat (lst n)))]) [some (wO (k+mR n)),some (shO 2 (k+mR n)),some (.rows 5 1 (k+mR n) (Cl.iF (gW g k n)))]:=by
 obtain ⟨m10,mge,mlt⟩:=mR_ok hn
 refine loop_indV (D:=Nat) (l':=[(0,.p 0 0),(1,.i .i64 (Int.ofNat (lst n)))]) (wI n k g) (fun j=>mR n-j) (fun j=>j<=mR n) ?_ s hs
 intro j hj
 refine ⟨by simp [wI],1000000,?_⟩
 refine ⟨_,(wR_vc (n / 128 ^ j) (k+j) (gW g k n) _).mpr ⟨fun h0=>?_,fun h0=>?_⟩⟩
 · have hlt:j<mR n:=by
    rcases Nat.lt_or_ge j (mR n) with q | q
    · exact q
    · have:j=mR n:=by omega
      subst this
      have:=le_dec h0
      omega
   have c:=layR_con (chN (n / 128 ^ j)) (k+j) (gW g k n) (by omega)
   refine ⟨trivial,trivial,c,by decide,.inl ⟨j+1,[0,1,3],[],_,_,[(0,.p 0 0),(1,.i .i64 (Int.fdiv (Int.ofNat (n / 128 ^ j)) 128))],[some (wO (k+j+1)),some (shO 2 (k+j+1)),some (.rows 5 1 (k+j+1) (Cl.iF (lyB (gW g k n) (k+j) (chN (n / 128 ^ j)))))],hlt,by show mR n-(j+1)<mR n-j;omega,rfl,
    st_is [0,1,3] (by kernel_rfl) rfl rfl rfl (by refine ⟨?_,?_,?_,?_,?_,?_,trivial⟩<;>kernel_rfl) rfl,?_,.refl _,.refl _,.rowsW fun i z hi hz=>.of ?_,trivial⟩⟩
   · rw [fdiv128,div_s];exact .refl _
   · show CV.i .u8 (bif Nat.blt i (k+j) then gW g k n i else chN (n / 128 ^ j))=CV.i .u8 (gW g k n i)
     by_cases q:i<k+j
     · rw [show Nat.blt i (k+j)=true by rw [Nat.blt_eq];exact q];rfl
     · have:i=k+j:=by have hi:i<k+j+1:=hi;omega
       subst this
       rw [show Nat.blt (k+j) (k+j)=false by rw [Bool.eq_false_iff,ne_eq,Nat.blt_eq];omega]
       unfold gW
       rw [show Nat.blt (k+j) k=false by rw [Bool.eq_false_iff,ne_eq,Nat.blt_eq];omega,Nat.add_sub_cancel_left]
       rfl
 · have:j=mR n:=by
    have h0:=lt_dec h0
    rcases Nat.lt_or_ge j (mR n) with q | q
    · have:=mge j q
      omega
    · omega
   subst this
   exact .inr ⟨[0,1,2],[],_,_,[(0,.p 0 0),(1,.i .i64 (Int.ofNat (n / 128 ^ mR n)))],[some (wO (k+mR n)),some (shO 2 (k+mR n)),some (.rows 5 1 (k+mR n) (Cl.iF (gW g k n)))],rfl,by simp,
    st_is [0,1,2] (by kernel_rfl) rfl rfl rfl (by refine ⟨?_,?_,?_,?_,?_,?_,trivial⟩<;>kernel_rfl) rfl,.refl _,.refl _⟩
theorem wnA_vc (n:Nat) (K:Res->Orc->Prop):runK Try.prog 1000000 (.call 50 [.p 0 0,.i .i64 (Int.ofNat n)] (mkH [some w0O])) (Orc.c (Orc.lop [0] [0,1] 1 (XO.exit 0) [(0,AV.p 0 0),(1,AV.i .i64 (Int.ofNat (lst n)))] [some (wO (mR n)),some (shO 2 (mR n)),some (AObj.rows 5 1 (mR n) (iF (fW n)))] (Orc.cal [0,1,2] (AV.tup []) [Upd.set (wO (mR n+1)),Upd.set (shO 3 (mR n+1)),Upd.gone,Upd.set (AObj.rows 5 1 (mR n+1) (iF (lyB (fW n) (mR n) (wrapA .u8 (Int.ofNat (lst n))))))] Orc.z))) K=(True/\LDoes Try.prog (loopAt Try.prog 50 0) 21 1 (mkT [(0,AV.p 0 0),(1,AV.i .i64 (if 0>Int.ofNat n then 0 else Int.ofNat n))]) [some w0O] (XO.exit 0) (mkT [(0,AV.p 0 0),(1,AV.i .i64 (Int.ofNat (lst n)))]) [some (wO (mR n)),some (shO 2 (mR n)),some (AObj.rows 5 1 (mR n) (iF (fW n)))]/\True/\Con Try.prog 59 [AV.p 0 0,AV.i .u8 (wrapA .u8 (Int.ofNat (lst n)))] [some (wO (mR
 n)),some (shO 2 (mR n)),some (AObj.rows 5 1 (mR n) (iF (fW n)))] (AV.tup []) [Upd.set (wO (mR n+1)),Upd.set (shO 3 (mR n+1)),Upd.gone,Upd.set (AObj.rows 5 1 (mR n+1) (iF (lyB (fW n) (mR n) (wrapA .u8 (Int.ofNat (lst n))))))]/\K (Res.rv (AV.tup []) ⟨z1 (AObj.cells 82 2 [AV.p0,AV.i .i64 0] (z1 (AV.p 1 0) (zl (AV.i .i64 (Int.ofNat (mR n+1)))) T.e)) (z1 (AObj.cells 100 1 [] (zl (AV.lr 3 1 0 (mR n+1) false))) (zl (AObj.rows 5 1 (mR n+1) (iF (lyB (fW n) (mR n) (wrapA .u8 (Int.ofNat (lst n))))))) T.e) (z0 T.e T.e),4,[3,2,1,0,2,1,0]⟩) Orc.z):=by kernel_rfl
theorem wnB_vc (n:Nat) (K:Res->Orc->Prop):runK Try.prog 1000000 (.call 50 [.p 0 0,.i .i64 (Int.ofNat n)] (mkH [some w0O])) (Orc.c (Orc.lop [0] [0,1] 1 (XO.exit 0) [(0,AV.p 0 0),(1,AV.i .i64 (if 0>Int.ofNat n then 0 else Int.ofNat n))] [some w0O] (Orc.cal [0] (AV.tup []) [Upd.set (wO 1),Upd.set (shO 2 1),Upd.set (AObj.rows 5 1 1 (iF fun x=>wrapA .u8 (if 0>Int.ofNat n then 0 else Int.ofNat n)))] Orc.z))) K=(True/\LDoes Try.prog (loopAt Try.prog 50 0) 21 1 (mkT [(0,AV.p 0 0),(1,AV.i .i64 (if 0>Int.ofNat n then 0 else Int.ofNat n))]) [some w0O] (XO.exit 0) (mkT [(0,AV.p 0 0),(1,AV.i .i64 (if 0>Int.ofNat n then 0 else Int.ofNat n))]) [some w0O]/\True/\Con Try.prog 59 [AV.p 0 0,AV.i .u8 (wrapA .u8 (if 0>Int.ofNat n then 0 else Int.ofNat n))] [some w0O] (AV.tup []) [Upd.set (wO 1),Upd.set (shO 2 1),Upd.set (AObj.rows 5 1 1 (iF fun x=>wrapA .u8 (if
 0>Int.ofNat n then 0 else Int.ofNat n)))]/\K (Res.rv (AV.tup []) ⟨z1 (AObj.cells 82 2 [AV.p0,AV.i .i64 0] (z1 (AV.p 1 0) (zl (AV.i .i64 1)) T.e)) (zl (AObj.cells 100 1 [] (zl (AV.lr 2 1 0 1 false)))) (zl (AObj.rows 5 1 1 (iF fun x=>wrapA .u8 (if 0>Int.ofNat n then 0 else Int.ofNat n)))),3,[2,1,0,0]⟩) Orc.z):=by kernel_rfl
theorem wnC_vc (n k:Nat) (g:Nat->Int) (K:Res->Orc->Prop):runK Try.prog 1000000 (.call 50 [.p 0 0,.i .i64 (Int.ofNat n)] (mkH [some (wO k),some (shO 2 k),some (.rows 5 1 k (Cl.iF g))])) (Orc.c (Orc.lop [0,1,2] [0,1] 2 (XO.exit 0) [(0,AV.p 0 0),(1,AV.i .i64 (Int.ofNat (lst n)))] [some (wO (k+mR n)),some (shO 2 (k+mR n)),some (AObj.rows 5 1 (k+mR n) (iF (gW g k n)))] (Orc.cal [0,1,3] (AV.tup []) [Upd.set (wO (k+mR n+1)),Upd.set (shO 3 (k+mR n+1)),Upd.gone,Upd.set (AObj.rows 5 1 (k+mR n+1) (iF (lyB (gW g k n) (k+mR n) (wrapA .u8 (Int.ofNat (lst n))))))] Orc.z))) K=(True/\LDoes Try.prog (loopAt Try.prog 50 0) 21 2 (mkT [(0,AV.p 0 0),(1,AV.i .i64 (if 0>Int.ofNat n then 0 else Int.ofNat n))]) [some (wO k),some (shO 2 k),some (AObj.rows 5 1 k (iF g))] (XO.exit 0) (mkT [(0,AV.p 0 0),(1,AV.i .i64 (Int.ofNat (lst n)))]) [some (wO (k +
 mR n)),some (shO 2 (k+mR n)),some (AObj.rows 5 1 (k+mR n) (iF (gW g k n)))]/\True/\Con Try.prog 59 [AV.p 0 0,AV.i .u8 (wrapA .u8 (Int.ofNat (lst n)))] [some (wO (k+mR n)),some (shO 2 (k+mR n)),some (AObj.rows 5 1 (k+mR n) (iF (gW g k n)))] (AV.tup []) [Upd.set (wO (k+mR n+1)),Upd.set (shO 3 (k+mR n+1)),Upd.gone,Upd.set (AObj.rows 5 1 (k+mR n+1) (iF (lyB (gW g k n) (k+mR n) (wrapA .u8 (Int.ofNat (lst n))))))]/\K (Res.rv (AV.tup []) ⟨z1 (AObj.cells 82 2 [AV.p0,AV.i .i64 0] (z1 (AV.p 1 0) (zl (AV.i .i64 (Int.ofNat (k+mR n+1)))) T.e)) (z1 (AObj.cells 100 1 [] (zl (AV.lr 4 1 0 (k+mR n+1) false))) (z0 T.e T.e) T.e) (z0 (zl (AObj.rows 5 1 (k+mR n+1) (iF (lyB (gW g k n) (k+mR n) (wrapA .u8 (Int.ofNat (lst n))))))) T.e),5,[4,3,1,0,3,2,1,0]⟩) Orc.z):=by kernel_rfl
noncomputable def aI (n:Nat):Nat->List (Nat×AV)×List (Option AObj)
 | 0=>([(0,.p 0 0),(1,.i .i64 (Int.ofNat n))],[some w0O])
 | j+1=>([(0,.p 0 0),(1,.i .i64 (Int.ofNat (n / 128 ^ (j+1))))],[some (wO (j+1)),some (shO 2 (j+1)),some (.rows 5 1 (j+1) (Cl.iF (fW n)))])
theorem lpA (n:Nat) (hn:n<9223372036854775808) (h128:128<=n) :
 LDoes Try.prog (loopAt Try.prog 50 0) 21 1 (mkT [(0,.p 0 0),(1,.i .i64 (Int.ofNat n))]) [some w0O] (.exit 0) (mkT [(0,.p 0 0),(1,.i .i64 (Int.ofNat (lst n)))]) [some (wO (mR n)),some (shO 2 (mR n)),some (.rows 5 1 (mR n) (Cl.iF (fW n)))]:=by
 obtain ⟨m10,mge,mlt⟩:=mR_ok hn
 have m1:1<=mR n:=by
  rcases Nat.eq_zero_or_pos (mR n) with q | q
  · rw [q] at mlt
    have:n / 128 ^ 0=n:=Nat.div_one n
    omega
  · exact q
 refine loop_indV (D:=Nat) (l':=[(0,.p 0 0),(1,.i .i64 (Int.ofNat (lst n)))]) (aI n) (fun j=>mR n-j) (fun j=>j<=mR n) ?_ 0 (Nat.zero_le _)
 intro j hj
 cases j with
 | zero=>
   refine ⟨by simp [aI],1000000,_,(w0_vc n _).mpr ⟨fun _=>⟨trivial,trivial,lay0_con (chN n),by decide,?_⟩,fun h0=>absurd (lt_dec h0) (by omega)⟩⟩
   refine .inl ⟨1,[0,1,2],[],_,_,[(0,.p 0 0),(1,.i .i64 (Int.fdiv (Int.ofNat n) 128))],[some (wO 1),some (shO 2 1),some (.rows 5 1 1 (Cl.iF fun _=>chN n))],m1,by show mR n-1<mR n-0;omega,rfl,
    st_is [0,1,2] (by kernel_rfl) rfl rfl rfl (by refine ⟨?_,?_,?_,?_,?_,?_,trivial⟩<;>kernel_rfl) rfl,?_,.refl _,.refl _,.rowsW fun i z hi hz=>.of ?_,trivial⟩
   · rw [fdiv128]
     show TVL _ [(0,.p 0 0),(1,.i .i64 (Int.ofNat (n / 128 ^ 1)))]
     rw [Nat.pow_one];exact .refl _
   · have:i=0:=by omega
     subst this
     show CV.i .u8 (chN n)=CV.i .u8 (chN (n / 128 ^ 0))
     rw [show n / 128 ^ 0=n from Nat.div_one n]
 | succ j=>
   refine ⟨by simp [aI],1000000,_,(wR_vc (n / 128 ^ (j+1)) (j+1) (fW n) _).mpr ⟨fun h0=>?_,fun h0=>?_⟩⟩
   · have hlt:j+1<mR n:=by
      rcases Nat.lt_or_ge (j+1) (mR n) with q | q
      · exact q
      · have:j+1=mR n:=by omega
        rw [this] at h0
        have:=le_dec h0
        omega
     have c:=layR_con (chN (n / 128 ^ (j+1))) (j+1) (fW n) (by omega)
     refine ⟨trivial,trivial,c,by decide,.inl ⟨j+1+1,[0,1,3],[],_,_,[(0,.p 0 0),(1,.i .i64 (Int.fdiv (Int.ofNat (n / 128 ^ (j+1))) 128))],[some (wO (j+1+1)),some (shO 2 (j+1+1)),some (.rows 5 1 (j+1+1) (Cl.iF (lyB (fW n) (j+1) (chN (n / 128 ^ (j+1))))))],hlt,by show mR n-(j+1+1)<mR n-(j+1);omega,rfl,
      st_is [0,1,3] (by kernel_rfl) rfl rfl rfl (by refine ⟨?_,?_,?_,?_,?_,?_,trivial⟩<;>kernel_rfl) rfl,?_,.refl _,.refl _,.rowsW fun i z hi hz=>.of ?_,trivial⟩⟩
     · rw [fdiv128,div_s];exact .refl _
     · show CV.i .u8 (bif Nat.blt i (j+1) then fW n i else chN (n / 128 ^ (j+1)))=CV.i .u8 (fW n i)
       by_cases q:i<j+1
       · rw [show Nat.blt i (j+1)=true by rw [Nat.blt_eq];exact q];rfl
       · have:i=j+1:=by have hi:i<j+1+1:=hi;omega
         subst this
         rw [show Nat.blt (j+1) (j+1)=false by rw [Bool.eq_false_iff,ne_eq,Nat.blt_eq];omega];rfl
   · have e:j+1=mR n:=by
      have h0:=lt_dec h0
      rcases Nat.lt_or_ge (j+1) (mR n) with q | q
      · have:=mge (j+1) q
        omega
      · omega
     refine .inr ⟨[0,1,2],[],_,_,[(0,.p 0 0),(1,.i .i64 (Int.ofNat (n / 128 ^ (j+1))))],[some (wO (j+1)),some (shO 2 (j+1)),some (.rows 5 1 (j+1) (Cl.iF (fW n)))],rfl,by simp,
      st_is [0,1,2] (by kernel_rfl) rfl rfl rfl (by refine ⟨?_,?_,?_,?_,?_,?_,trivial⟩<;>kernel_rfl) rfl,?_,?_⟩
     · unfold lst;rw [e];exact .refl _
     · rw [e];exact .refl _
theorem lpB (n:Nat) (h:n<128) (x:Int) (hx:x=Int.ofNat n):LDoes Try.prog (loopAt Try.prog 50 0) 21 1 (mkT [(0,.p 0 0),(1,.i .i64 x)]) [some w0O] (.exit 0) (mkT [(0,.p 0 0),(1,.i .i64 x)]) [some w0O]:=by
 subst hx
 refine loop_indV (D:=Unit) (l':=[(0,.p 0 0),(1,.i .i64 (Int.ofNat n))]) (fun _=>([(0,.p 0 0),(1,.i .i64 (Int.ofNat n))],[some w0O])) (fun _=>0) (fun _=>True) ?_ () trivial
 intro _ _
 exact ⟨by simp,1000000,_,(w0_vc n _).mpr ⟨fun h0=>absurd (le_dec h0) (by omega),fun _=>.inr ⟨[0],[],_,_,[(0,.p 0 0),(1,.i .i64 (Int.ofNat n))],[some w0O],rfl,by simp,st_k [0] (by kernel_rfl),.refl _,.refl _⟩⟩⟩
noncomputable def wl (n:Nat):Nat:=mR n+1
noncomputable def wB (n:Nat):Nat->Int:=fun i=>bif Nat.blt i (mR n) then chN (n / 128 ^ i) else Int.ofNat (lst n)
noncomputable def wG (g:Nat->Int) (k n:Nat):Nat->Int:=fun i=>bif Nat.blt i k then g i else wB n (i-k)
theorem max0 (n:Nat):(if (0:Int)>Int.ofNat n then (0:Int) else Int.ofNat n)=Int.ofNat n:=if_neg (by simp)
theorem u8_lo {n:Nat} (h:n<256):wrapA IntKind.u8 (Int.ofNat n)=Int.ofNat n:=by
 show Int.ofNat (n % 256)= _
 rw [Nat.mod_eq_of_lt h]
theorem wnum0_con (n:Nat) (hn:n<9223372036854775808):Con Try.prog 50 [.p 0 0,.i .i64 (Int.ofNat n)] [some w0O] (.tup []) [.set (wO (wl n)),.set (shO 2 (wl n)),.set (.rows 5 1 (wl n) (Cl.iF (wB n)))]:=by
 obtain ⟨m10,mge,mlt⟩:=mR_ok hn
 by_cases h128:n<128
 · have e0:mR n=0:=by
    rcases Nat.eq_zero_or_pos (mR n) with q | q
    · exact q
    · have:=mge 0 q
      have e:n / 128 ^ 0=n:=Nat.div_one n
      omega
   have k:Con Try.prog 50 [.p 0 0,.i .i64 (Int.ofNat n)] [some w0O] (.tup []) [.set (wO 1),.set (shO 2 1),.set (.rows 5 1 1 (Cl.iF fun _=>wrapA IntKind.u8 (if (0:Int)>Int.ofNat n then (0:Int) else Int.ofNat n)))]:=
    con_of_run [] [1,2] ((wnB_vc n _).mpr ⟨trivial,lpB n h128 _ (max0 n),trivial,lay0_con _,_,_,rfl,ret_is (by kernel_rfl) rfl (by kernel_rfl) (by kernel_rfl) rfl (by refine ⟨?_,?_,?_,?_,?_,?_,trivial⟩<;>kernel_rfl)⟩)
   unfold wl
   rw [e0]
   refine k.post (.refl _) ⟨.refl _,.refl _,.rowsW fun i j hi hj=>.of ?_,trivial⟩
   have:i=0:=by omega
   subst this
   show CV.i .u8 (wrapA IntKind.u8 (if (0:Int)>Int.ofNat n then (0:Int) else Int.ofNat n))=CV.i .u8 (bif Nat.blt 0 (mR n) then chN (n / 128 ^ 0) else Int.ofNat (n / 128 ^ mR n))
   rw [e0,max0,u8_lo (by omega),show n / 128 ^ 0=n from Nat.div_one n];rfl
 · have lp:=lpA n hn (by omega)
   rw [<-max0 n] at lp
   have k:Con Try.prog 50 [.p 0 0,.i .i64 (Int.ofNat n)] [some w0O] (.tup []) [.set (wO (mR n+1)),.set (shO 2 (mR n+1)),.set (.rows 5 1 (mR n+1) (Cl.iF (lyB (fW n) (mR n) (wrapA IntKind.u8 (Int.ofNat (lst n))))))]:=
    con_of_run [] [1,3] ((wnA_vc n _).mpr ⟨trivial,lp,trivial,layR_con _ _ _ (by omega),_,_,rfl,ret_is (by kernel_rfl) rfl (by kernel_rfl) (by kernel_rfl) rfl (by refine ⟨?_,?_,?_,?_,?_,?_,trivial⟩<;>kernel_rfl)⟩)
   refine k.post (.refl _) ⟨.refl _,.refl _,.rowsW fun i j hi hj=>.of ?_,trivial⟩
   show CV.i .u8 (bif Nat.blt i (mR n) then fW n i else wrapA IntKind.u8 (Int.ofNat (lst n)))=CV.i .u8 (bif Nat.blt i (mR n) then chN (n / 128 ^ i) else Int.ofNat (lst n))
   rw [u8_lo (show lst n<256 by unfold lst;omega)];rfl
theorem wnumR_con (n k:Nat) (g:Nat->Int) (hn:n<9223372036854775808) (hk:k<=1073741000):Con Try.prog 50 [.p 0 0,.i .i64 (Int.ofNat n)] [some (wO k),some (shO 2 k),some (.rows 5 1 k (Cl.iF g))] (.tup [])
 [.set (wO (k+wl n)),.set (shO 3 (k+wl n)),.gone,.set (.rows 5 1 (k+wl n) (Cl.iF (wG g k n)))]:=by
 obtain ⟨m10,mge,mlt⟩:=mR_ok hn
 have lp0:LDoes Try.prog (loopAt Try.prog 50 0) 21 2 (mkT [(0,.p 0 0),(1,.i .i64 (Int.ofNat n))]) [some (wO k),some (shO 2 k),some (.rows 5 1 k (Cl.iF g))] (.exit 0) (mkT [(0,.p 0 0),(1,.i .i64 (Int.ofNat (lst n)))]) [some (wO (k+mR n)),some (shO 2 (k+mR n)),some (.rows 5 1 (k+mR n) (Cl.iF (gW g k n)))]:=by
  have h:=lpC n k g hn hk 0 (Nat.zero_le _)
  unfold wI at h
  rw [show n / 128 ^ 0=n from Nat.div_one n] at h
  refine h.ovl ⟨.refl _,.refl _,.rowsW fun i j hi hj=>.of ?_,trivial⟩
  show CV.i .u8 (g i)=CV.i .u8 (bif Nat.blt i k then g i else chN (n / 128 ^ (i-k)))
  rw [show Nat.blt i k=true by rw [Nat.blt_eq];exact hi];rfl
 have lp:=lp0
 rw [<-max0 n] at lp
 have q:Con Try.prog 50 [.p 0 0,.i .i64 (Int.ofNat n)] [some (wO k),some (shO 2 k),some (.rows 5 1 k (Cl.iF g))] (.tup [])
  [.set (wO (k+mR n+1)),.set (shO 3 (k+mR n+1)),.gone,.set (.rows 5 1 (k+mR n+1) (Cl.iF (lyB (gW g k n) (k+mR n) (wrapA IntKind.u8 (Int.ofNat (lst n))))))]:=
  con_of_run [] [4] ((wnC_vc n k g _).mpr ⟨trivial,lp,trivial,layR_con _ _ _ (by omega),_,_,rfl,ret_is (by kernel_rfl) rfl (by kernel_rfl) (by kernel_rfl) rfl (by refine ⟨?_,?_,?_,?_,?_,?_,trivial⟩<;>kernel_rfl)⟩)
 refine q.post (.refl _) ⟨.refl _,.refl _,.refl _,.rowsW fun i j hi hj=>.of ?_,trivial⟩
 show CV.i .u8 (bif Nat.blt i (k+mR n) then (bif Nat.blt i k then g i else chN (n / 128 ^ (i-k))) else wrapA IntKind.u8 (Int.ofNat (lst n)))=CV.i .u8 (bif Nat.blt i k then g i else (bif Nat.blt (i-k) (mR n) then chN (n / 128 ^ (i-k)) else Int.ofNat (lst n)))
 rw [u8_lo (show lst n<256 by unfold lst;omega)]
 by_cases h1:i<k
 · rw [show Nat.blt i k=true by rw [Nat.blt_eq];exact h1,show Nat.blt i (k+mR n)=true by rw [Nat.blt_eq];omega];rfl
 · rw [show Nat.blt i k=false by rw [Bool.eq_false_iff,ne_eq,Nat.blt_eq];exact h1]
   by_cases h2:i<k+mR n
   · rw [show Nat.blt i (k+mR n)=true by rw [Nat.blt_eq];exact h2,show Nat.blt (i-k) (mR n)=true by rw [Nat.blt_eq];omega];rfl
   · rw [show Nat.blt i (k+mR n)=false by rw [Bool.eq_false_iff,ne_eq,Nat.blt_eq];exact h2,show Nat.blt (i-k) (mR n)=false by rw [Bool.eq_false_iff,ne_eq,Nat.blt_eq];omega];rfl
theorem cloneSI_vc (m:Nat) (g:Nat->Int) (K:Res->Orc->Prop):runK Try.prog 1000000 (.call 64 [.sv 1 (m+1) (Cl.iF g)] (mkH [])) (Orc.c (Orc.s Orc.z Orc.z)) K=(True/\((1=1/\0+(m+1)<=m+1)/\True/\True/\0+(m+1)<=140737488355328/\(3*(0+(m+1))+1536)*1<=562949953421312)/\K (Res.rv (AV.sv 1 (m+1) fun k x=>CV.i .u8 (g k)) ⟨z0 (z0 T.e T.e) T.e,2,[1,1,0,0]⟩) Orc.z):=by kernel_rfl
theorem wby_vc (k:Nat) (g:Nat->Int) (K:Res->Orc->Prop):runK Try.prog 1000000 (.call 53 [.p 0 0] (mkH [some (wO k),some (shO 2 k),some (.rows 5 1 k (Cl.iF g))])) (oc 7 (Orc.cal [2] (AV.sv 1 k (iF g)) [Upd.gone] Orc.z)) K=(True/\True/\True/\True/\True/\True/\(True/\0<=Int.ofNat k/\0<=k/\k<=k/\(0=0\/0<k))/\Con Try.prog 64 [AV.lr 0 1 0 k false] [some (AObj.rows 5 1 k (iF g))] (AV.sv 1 k (iF g)) [Upd.gone]/\K (Res.rv (AV.sv 1 k (iF g)) ⟨z1 (AObj.cells 82 2 [AV.p0,AV.i .i64 0] (z1 (AV.p 1 0) (zl (AV.i .i64 (Int.ofNat k))) T.e)) (zl (AObj.cells 100 1 [] (zl (AV.lr 2 1 0 k false)))) (z0 T.e T.e),3,[2]⟩) Orc.z):=by kernel_rfl
theorem cloneI_con (L:Nat) (g:Nat->Int) (hL:L<=1073741824):Con Try.prog 64 [.sv 1 L (Cl.iF g)] [] (.sv 1 L (Cl.iF g)) []:=by
 cases L with
 | succ m=>exact con_of_run [] [] ((cloneSI_vc m g _).mpr ⟨trivial,⟨⟨rfl,by omega⟩,trivial,trivial,by omega,by omega⟩,_,_,rfl,ret_k (by kernel_rfl)⟩)
 | zero=>
   have k:=cloneB_con 0 (fun _=>0) (by decide)
   exact (k.pre (pargs':=[.sv 1 0 (Cl.iF g)]) ⟨.sv fun i j hi=>absurd hi (Nat.not_lt_zero i),trivial⟩).post (.sv fun i j hi=>absurd hi (Nat.not_lt_zero i)) trivial
theorem cloneLI_con (L:Nat) (g:Nat->Int) (hL:L<=1073741824):Con Try.prog 64 [.lr 0 1 0 L false] [some (.rows 5 1 L (Cl.iF g))] (.sv 1 L (Cl.iF g)) [.gone]:=
 ((cloneI_con L g hL).slot rfl (by kernel_rfl) (by kernel_rfl)).thaw (us0:=[.gone]) 0 (e:=5) (sz:=1) (n:=L) (f:=Cl.iF g) rfl ⟨rfl,trivial⟩ ⟨.inr ⟨by kernel_rfl,⟨rfl,by omega⟩,rfl⟩,trivial⟩ rfl
theorem wby_con (k:Nat) (g:Nat->Int) (hk:k<=1073741824):Con Try.prog 53 [.p 0 0] [some (wO k),some (shO 2 k),some (.rows 5 1 k (Cl.iF g))] (.sv 1 k (Cl.iF g)) [.keep,.keep,.gone]:=by
 refine con_of_run [] [] ((wby_vc k g _).mpr ?_)
 have c:=cloneLI_con k g hk
 repeat' first | exact trivial | assumption | exact Nat.zero_le _ | exact Nat.le_refl _ | exact .inl rfl | (simp;done) | apply And.intro | exact ⟨_,_,rfl,ret_is (by kernel_rfl) rfl (by kernel_rfl) (by kernel_rfl) rfl (by refine ⟨?_,?_,?_,?_,trivial⟩<;>kernel_rfl)⟩
theorem wl_le {n:Nat} (hn:n<9223372036854775808):wl n<=11:=by
 have:=(mR_ok hn).1
 unfold wl;omega
theorem iF_u8 {L:Nat} {g:Nat->Int} (h:∀i,∃m:Nat,g i=Int.ofNat m):U8s L (Cl.iF g):=fun i hi=>by
 obtain ⟨m,e⟩:=h i
 exact ⟨m,by show CV.i .u8 (g i)= _;rw [e]⟩
structure RdS where
 L:Nat
 b:Nat->Nat
 e:Int
noncomputable def RdS.next (r:RdS):RdS:=match decide (r.e=0) with
 | true=>⟨r.L-nmz r.b r.L,shB (nmz r.b r.L) r.b,Int.ofNat (nme r.b r.L)⟩
 | false=>r
noncomputable def RdS.val (r:RdS):Nat:=match decide (r.e=0) with
 | true=>nmv r.b r.L
 | false=>0
noncomputable def rS (t:List Nat):Nat->RdS
 | 0=>⟨t.length,tB t,0⟩
 | j+1=>(rS t j).next
noncomputable def rv (t:List Nat) (j:Nat):Nat:=(rS t j).val
theorem wG_left {g:Nat->Int} {k n i:Nat} (h:i<k):wG g k n i=g i:=by
 unfold wG
 rw [show Nat.blt i k=true by rw [Nat.blt_eq];exact h];rfl
theorem wG_right {g:Nat->Int} {k n:Nat} (i:Nat):wG g k n (k+i)=wB n i:=by
 unfold wG
 rw [show Nat.blt (k+i) k=false by rw [Bool.eq_false_iff,ne_eq,Nat.blt_eq];omega,cond_false,Nat.add_sub_cancel_left]
structure Txt (c:CS):Prop where
 n:c.n<=256
 b:∀i,i<c.n->∀x∈c.d i,x<256
 l:∀i,i<c.n->(c.d i).length<=51
end Go.Proofs.Cl
namespace Go.Proofs.Cl
open Go Go.Sim Go.Proofs Go.Proofs.Cd Go.Proofs.St
theorem bs:(!true)=false/\(!false)=true/\((true=false)=False)/\((false=true)=False)/\(∀p:Prop,(False->p)=True)/\(∀p:Prop,(True->p)=p)/\(∀p:Prop,(True/\p)=p)/\(∀p:Prop,(p/\True)=p)/\(∀p:Prop,(p/\p)=p):=
 ⟨rfl,rfl,by simp,by simp,fun _=>by simp,fun _=>by simp,fun _=>by simp,fun _=>by simp,fun _=>by simp⟩
end Go.Proofs.Cl
namespace Go.Proofs.Cl
open Go Go.Sim Go.Proofs Go.Proofs.Cd Go.Proofs.St Go.Proofs.Ytgoppmcfidmgfaa
theorem nT {b:Bool} (h:b=true):(!b)=false:=by rw [h];rfl
theorem nF {b:Bool} (h:b=false):(!b)=true:=by rw [h];rfl
def wq (n a b:Int):Bool:=decide (a<=n) && decide (n<=b)
structure RvI (k:Nat) (c:CS) (s:SS):Prop where
 hk:k<=1001
 inv:Inv c s k
 n:c.n=129
 dead:c.dead=false
 off:s.off=false
 P:s.P=[]
 sn:s.n=258
 f:∀j,j<129->c.q j=opQ s j/\c.d j=opD s j/\c.sp j=opS s j
 q:∀j,j<129->c.q j<=k
theorem nat_of {x:Int} (h:0<=x):Int.ofNat x.toNat=x:=by simp;omega
set_option maxHeartbeats 4000000
theorem nnT {b:Bool} (h:b=true):(!!b)=true:=by rw [h];rfl
theorem nnF {b:Bool} (h:b=false):(!!b)=false:=by rw [h];rfl
structure LI (k:Nat) (c:CS) (s:SS):Prop where
 R:RvI k c s
 T:Txt c
 A:s.armed=false
end Go.Proofs.Cl
namespace Go.Proofs.Cl
open Go Go.Sim Go.Proofs Go.Proofs.Cd Go.Proofs.Ytgoppmcfidmgfaa
theorem txR_lq (k:Nat) (g:Nat->Int) (t:List Nat) (i:Nat) (h:decide (Int.ofNat i<Int.ofNat t.length)=true):LD Try.prog (loopAt Try.prog 60 0) 16 2 [(0,.s t),
 (1,.fn (.func 59) [.p 0 0] []),(6,.i .i64 (Int.ofNat t.length)),(7,.i .i64 (Int.ofNat i))] [some (wO k),some (shO 2 k),some (.rows 5 1 k (Cl.iF g))] (Orc.t (Orc.cal
 [0,1,2] (.tup []) [.set (wO (k+1)),.set (shO 3 (k+1)),.gone,.set (AObj.rows 5 1 (k+1) (iF (lyB g k (Int.ofNat (List.getD t i 0)))))] Orc.z)) .nrm [0,1,3] [(0,.s
 t),(1,.fn (.func 59) [.p 0 0] []),(6,.i .i64 (Int.ofNat t.length)),(7,.i .i64 (Int.ofNat i+1))] [some (wO (k+1)),some (shO 2 (k+1)),some (.rows 5 1 (k+1)
 (Cl.iF (lyB g k (Int.ofNat (List.getD t i 0)))))] 4 (fun Lf=>decide (Int.ofNat i<Int.ofNat (List.length t))=true/\(0<=Int.ofNat i/\Int.ofNat i<↑(List.length t))/\
 Con Try.prog 59 [.p 0 0,.i .u8 (Int.ofNat (List.getD t i 0))] [some (wO k),some (shO 2 k),some (AObj.rows 5 1 k (iF g))] (.tup []) [.set (wO (k+1)),.set (shO 3 (k +
 1)),.gone,.set (AObj.rows 5 1 (k+1) (iF (lyB g k (Int.ofNat (List.getD t i 0)))))]/\rg (Int.ofNat i+1)/\Lf):=by unfold LD LQ;kernel_rfl
theorem txE_lq (k:Nat) (g:Nat->Int) (t:List Nat) (i:Nat) (h:decide (Int.ofNat i<Int.ofNat t.length)=false):LD Try.prog (loopAt Try.prog 60 0) 16 2 [(0,.s
 t),(1,.fn (.func 59) [.p 0 0] []),(6,.i .i64 (Int.ofNat t.length)),(7,.i .i64 (Int.ofNat i))] [some (wO k),some (shO 2 k),some (.rows 5 1 k (Cl.iF g))] (Orc.f Orc.z)
 (.exit 0) [0,1,2] [] [some (wO k),some (shO 2 k),some (.rows 5 1 k (Cl.iF g))] 3 (fun Lf=>decide (Int.ofNat i<Int.ofNat (List.length t))=false/\Lf)
 :=by unfold LD LQ;kernel_rfl
theorem tx_vq (k:Nat) (g:Nat->Int) (t:List Nat) (KK:Nat) (G:Nat->Int) (H:Nat->Int):VD Try.prog 51 [.p 0 0,.s t] [some (wO k),some (shO 2 k),some (.rows 5 1
 k (Cl.iF g))] (Orc.c (Orc.cal [0,1,2] (.tup []) [.set (wO KK),.set (shO 3 KK),.gone,.set (AObj.rows 5 1 KK (iF G))] (Orc.inl (Orc.lop [0,1,3] [0,1,6,7] 2 (XO.exit
 0) [] [some (wO (KK+List.length t)),some (shO 2 (KK+List.length t)),some (AObj.rows 5 1 (KK+List.length t) (iF H))] Orc.z)))) (.tup []) [.set (wO (KK+t.length)),
 .set (shO 3 (KK+t.length)),.gone,.set (.rows 5 1 (KK+t.length) (Cl.iF H))] [4] 5 (fun Lf=>True/\Con Try.prog 50 [.p 0 0,.i .i64 (Int.ofNat (List.length t))] [some
 (wO k),some (shO 2 k),some (AObj.rows 5 1 k (iF g))] (.tup []) [.set (wO KK),.set (shO 3 KK),.gone,.set (AObj.rows 5 1 KK (iF G))]/\LDoes Try.prog (loopAt Try.prog 60
 0) 16 2 (mkT [(0,.s t),(1,AV.fn (Fn.func 59) [.p 0 0] []),(6,.i .i64 (Int.ofNat (List.length t))),(7,.i .i64 0)]) [some (wO KK),some (shO 2 KK),some (AObj.rows 5 1
 KK (iF G))] (XO.exit 0) (mkT []) [some (wO (KK+List.length t)),some (shO 2 (KK+List.length t)),some (AObj.rows 5 1 (KK+List.length t) (iF H))]/\Lf)
 :=by unfold VD VQ;kernel_rfl
noncomputable def txG (g:Nat->Int) (K:Nat) (t:List Nat):Nat->Int:=fun j=>bif Nat.blt j K then g j else Int.ofNat (t.getD (j-K) 0)
theorem txG_lo {g:Nat->Int} {K:Nat} {t:List Nat} {j:Nat} (h:j<K):txG g K t j=g j:=by
 unfold txG;rw [show Nat.blt j K=true by rw [Nat.blt_eq];exact h];rfl
theorem txG_hi {g:Nat->Int} {K:Nat} {t:List Nat} (j:Nat):txG g K t (K+j)=Int.ofNat (t.getD j 0):=by
 unfold txG;rw [show Nat.blt (K+j) K=false by rw [Bool.eq_false_iff,ne_eq,Nat.blt_eq];omega,cond_false,Nat.add_sub_cancel_left]
theorem tx_lp (K:Nat) (g:Nat->Int) (t:List Nat) (hk:K+t.length<=1073741000):LDoes Try.prog (loopAt Try.prog 60 0) 16 2 (mkT [(0,.s t),(1,.fn (.func 59) [.p 0 0] []),(6,.i .i64 (Int.ofNat t.length)),(7,.i .i64 0)]) [some (wO K),some (shO 2 K),some (.rows 5 1 K (Cl.iF g))] (.exit 0) (mkT []) [some (wO (K+t.length)),some (shO 2 (K+t.length)),some (.rows 5 1 (K+t.length) (Cl.iF (txG g K t)))]:=by
 refine LDoes.ovl (objs:=[some (wO K),some (shO 2 K),some (.rows 5 1 K (Cl.iF (txG g K t)))]) ?_ ⟨.refl _,.refl _,.rowsW fun i j hi hj=>.of (by show CV.i .u8 _=CV.i .u8 _;rw [txG_lo hi]),trivial⟩
 refine loop_q (fun i:Nat=>([(0,.s t),(1,.fn (.func 59) [.p 0 0] []),(6,.i .i64 (Int.ofNat t.length)),(7,.i .i64 (Int.ofNat i))],[some (wO (K+i)),some (shO 2 (K+i)),some (.rows 5 1 (K+i) (Cl.iF (txG g K t)))])) (fun i=>t.length-i) (fun i=>i<=t.length) (fun _=>by show 2<=3;decide) ?_ 0 (Nat.zero_le _)
 intro i hi
 rcases Nat.lt_or_ge i t.length with hlt | q
 · have h1:decide (Int.ofNat i<Int.ofNat t.length)=true:=decide_eq_true (by simp;omega)
   have bi:(0:Int)<=Int.ofNat i/\Int.ofNat i<(↑t.length:Int):=⟨by simp,by simp;omega⟩
   have ri:rg (Int.ofNat i+1):=⟨by simp<;>omega,by simp<;>omega⟩
   have ly:=layR_con (Int.ofNat (List.getD t i 0)) (K+i) (txG g K t) (by omega)
   refine rd_nrm (txR_lq (K+i) (txG g K t) t i h1) ⟨h1,bi,ly,ri,rfl⟩ (i+1) hlt (by show t.length-(i+1)<t.length-i;omega) rfl (.refl _) ⟨.refl _,.refl _,.rowsW fun j z hj hz=>.of ?_,trivial⟩
   show CV.i .u8 (lyB (txG g K t) (K+i) (Int.ofNat (List.getD t i 0)) j)=CV.i .u8 (txG g K t j)
   unfold lyB
   cases e:Nat.blt j (K+i) with
   | true=>rfl
   | false=>
     have:¬j<K+i:=by rw [<-Nat.blt_eq,e];decide
     obtain rfl:j=K+i:=by omega
     rw [cond_false,txG_hi]
 · obtain rfl:i=t.length:=Nat.le_antisymm hi q
   exact rd_out (txE_lq (K+t.length) (txG g K t) t t.length (decide_eq_false (by simp))) ⟨decide_eq_false (by simp),rfl⟩ rfl rfl (.refl _) (.refl _)
noncomputable def wtG (g:Nat->Int) (k:Nat) (t:List Nat):Nat->Int:=txG (wG g k t.length) (k+wl t.length) t
theorem wtext_con (k:Nat) (g:Nat->Int) (t:List Nat) (ht:t.length<=1000000) (hk:k<=1000000):Con Try.prog 51 [.p 0 0,.s t] [some (wO k),some (shO 2 k),some (.rows 5 1 k (Cl.iF g))] (.tup [])
 [.set (wO (k+wl t.length+t.length)),.set (shO 3 (k+wl t.length+t.length)),.gone,.set (.rows 5 1 (k+wl t.length+t.length) (Cl.iF (wtG g k t)))]:=by
 have w:=wl_le (n:=t.length) (by omega)
 exact con_d (tx_vq k g t (k+wl t.length) (wG g k t.length) (wtG g k t)) ⟨trivial,wnumR_con t.length k g (by omega) (by omega),tx_lp _ _ _ (by omega),rfl⟩
theorem bytesF_eq {t:List Nat} {f:Nat->Nat->CV} {n:Nat} (hn:n=t.length) (ht:∀x∈t,x<256) (h:∀i,i<n->f i 0=.i .u8 (Int.ofNat (t.getD i 0))):bytesF n f=t:=by
 subst hn
 refine List.ext_getElem? fun i=>?_
 unfold bytesF
 rw [List.getElem?_map]
 by_cases h2:i<t.length
 · rw [List.getElem?_range h2,List.getElem?_eq_getElem h2]
   have e:t.getD i 0=t[i]:=by rw [List.getD_eq_getElem?_getD,List.getElem?_eq_getElem h2];rfl
   show some (Go.Sim.byteOf (f i 0))= _
   rw [h i h2]
   show some ((t.getD i 0) % 256)=some t[i]
   rw [e,Nat.mod_eq_of_lt (ht _ (List.getElem_mem h2))]
 · rw [List.getElem?_eq_none (by simpa using h2),List.getElem?_eq_none (by omega)];rfl
end Go.Proofs.Cl
namespace Go.Proofs.Ly
open Go Go.Sim Go.Proofs Go.Proofs.Cd Go.Proofs.Cl Go.Proofs.Ytgoppmcfidmgfaa
theorem nT {b:Bool} (h:b=true):(!b)=false:=by rw [h];rfl
theorem nF {b:Bool} (h:b=false):(!b)=true:=by rw [h];rfl
def alB (p:Nat->Bool):Nat->Bool
 | 0=>true
 | n+1=>alB p n && p n
theorem alB_t {p:Nat->Bool}:∀{n:Nat},alB p n=true->∀i,i<n->p i=true
 | 0,_,i,hi=>absurd hi (Nat.not_lt_zero i)
 | n+1,h,i,hi=>by
   have h:(alB p n && p n)=true:=h
   rw [Bool.and_eq_true] at h
   rcases Nat.lt_or_ge i n with q | q
   · exact alB_t h.1 i q
   · obtain rfl:i=n:=by omega
     exact h.2
theorem alB_f {p:Nat->Bool}:∀{n:Nat},alB p n=false->∃j,j<n/\p j=false/\∀i,i<j->p i=true
 | 0,h=>by cases h
 | n+1,h=>by
   have h:(alB p n && p n)=false:=h
   cases e:alB p n with
   | false=>
     obtain ⟨j,a,b,c⟩:=alB_f e
     exact ⟨j,by omega,b,c⟩
   | true=>
     rw [e,Bool.true_and] at h
     exact ⟨n,by omega,h,alB_t e⟩
theorem wb_con (k:Nat) (g:Nat->Nat) (hk:k<=1073741824):Con Try.prog 53 [.p 0 0] [some (wO k),some (shO 2 k),some (.rows 5 1 k (byF g))] (.sv 1 k (byF g)) [.keep,.keep,.gone]:=wby_con k (fun i=>Int.ofNat (g i)) hk
def fNf:Nat->Nat->List Nat
 | 0,n=>[n]
 | f+1,n=>match Nat.blt n 128 with
   | true=>[n]
   | false=>(n % 128+128) :: fNf f (n / 128)
def fN (n:Nat):List Nat:=fNf 10 n
theorem fNf_len:∀f n,(fNf f n).length=mRf f n+1
 | 0,n=>rfl
 | f+1,n=>by
   show List.length (match Nat.blt n 128 with | true=>[n] | false=>(n % 128+128) :: fNf f (n / 128))=(match Nat.blt n 128 with | true=>0 | false=>mRf f (n / 128)+1)+1
   cases Nat.blt n 128 with
   | true=>rfl
   | false=>show (fNf f (n / 128)).length+1= _;rw [fNf_len f (n / 128)]
theorem fNf_get:∀f n i,i<=mRf f n->(fNf f n).getD i 0=bif Nat.blt i (mRf f n) then n / 128 ^ i % 128+128 else n / 128 ^ mRf f n
 | 0,n,i,h=>by
   obtain rfl:i=0:=Nat.le_zero.1 h
   show n=n / 1;omega
 | f+1,n,i,h=>by
   cases e:Nat.blt n 128 with
   | true=>
     have e1:fNf (f+1) n=[n]:=by show (match Nat.blt n 128 with | true=>[n] | false=>_)= _;rw [e]
     have e2:mRf (f+1) n=0:=by show (match Nat.blt n 128 with | true=>0 | false=>_)= _;rw [e]
     rw [e2] at h⊢;rw [e1]
     obtain rfl:i=0:=Nat.le_zero.1 h
     show n=n / 1;omega
   | false=>
     have e1:fNf (f+1) n=(n % 128+128) :: fNf f (n / 128):=by show (match Nat.blt n 128 with | true=>[n] | false=>(n % 128+128) :: fNf f (n / 128))= _;rw [e]
     have e2:mRf (f+1) n=mRf f (n / 128)+1:=by show (match Nat.blt n 128 with | true=>0 | false=>mRf f (n / 128)+1)= _;rw [e]
     rw [e2] at h⊢;rw [e1]
     cases i with
     | zero=>
       rw [show Nat.blt 0 (mRf f (n / 128)+1)=true by rw [Nat.blt_eq];omega]
       show n % 128+128=n / 1 % 128+128;omega
     | succ i=>
       have:=fNf_get f (n / 128) i (by omega)
       show (fNf f (n / 128)).getD i 0= _
       rw [this,show Nat.blt (i+1) (mRf f (n / 128)+1)=Nat.blt i (mRf f (n / 128)) by rw [Bool.eq_iff_iff,Nat.blt_eq,Nat.blt_eq];omega]
       rw [Nat.div_div_eq_div_mul,Nat.div_div_eq_div_mul,show 128*128 ^ i=128 ^ (i+1) by rw [Nat.pow_succ,Nat.mul_comm],show 128*128 ^ mRf f (n / 128)=128 ^ (mRf f (n / 128)+1) by rw [Nat.pow_succ,Nat.mul_comm]]
theorem fN_len (n:Nat):(fN n).length=wl n:=fNf_len 10 n
theorem fN_get {n i:Nat} (h:i<wl n):Int.ofNat ((fN n).getD i 0)=wB n i:=by
 unfold wl mR at h
 show Int.ofNat ((fNf 10 n).getD i 0)= _
 rw [fNf_get 10 n i (by omega)]
 unfold wB
 show _=bif Nat.blt i (mRf 10 n) then chN (n / 128 ^ i) else Int.ofNat (n / 128 ^ mRf 10 n)
 cases Nat.blt i (mRf 10 n) with
 | true=>exact (chN_eq _).symm
 | false=>rfl
def Byt (l:List Nat):Prop:=∀x∈l,x<256
theorem fNf_byt:∀f n,n<128 ^ (f+1)->Byt (fNf f n)
 | 0,n,h,x,hx=>by
   have:x=n:=by simpa [fNf] using hx
   have h:n<128:=by simpa using h
   omega
 | f+1,n,h,x,hx=>by
   have hx:x∈(match Nat.blt n 128 with | true=>[n] | false=>(n % 128+128) :: fNf f (n / 128)):=hx
   cases e:Nat.blt n 128 with
   | true=>
     rw [e] at hx
     rw [Nat.blt_eq] at e
     have:x=n:=by simpa using hx
     omega
   | false=>
     rw [e] at hx
     rcases List.mem_cons.1 hx with rfl | q
     · omega
     · refine fNf_byt f (n / 128) ?_ x q
       rw [Nat.div_lt_iff_lt_mul (by decide)]
       rwa [<-Nat.pow_succ]
theorem fN_byt {n:Nat} (h:n<9223372036854775808):Byt (fN n):=fNf_byt 10 n (Nat.lt_of_lt_of_le h (by decide))
theorem Byt.app {a b:List Nat} (h:Byt a) (k:Byt b):Byt (a ++ b):=fun x hx=>(List.mem_append.1 hx).elim (h x) (k x)
theorem Byt.nil:Byt []:=fun x hx=>by simp at hx
theorem fN_le {n:Nat} (h:n<9223372036854775808):(fN n).length<=11:=by rw [fN_len];exact wl_le h
theorem bts_eq {t:List Nat} (h:Byt t):bytesF t.length (byF (tB t))=t:=bytesF_eq rfl h fun i hi=>rfl
theorem u8_of (t:List Nat):U8s t.length (byF (tB t)):=iF_u8 (g:=fun i=>Int.ofNat (tB t i)) fun i=>⟨_,rfl⟩
theorem tB_lo {a b:List Nat} {i:Nat} (h:i<a.length):tB (a ++ b) i=tB a i:=by
 unfold tB;rw [List.getD_eq_getElem?_getD,List.getElem?_append_left h,<-List.getD_eq_getElem?_getD]
theorem tB_hi {a b:List Nat} {i:Nat} (h:a.length<=i):tB (a ++ b) i=tB b (i-a.length):=by
 unfold tB;rw [List.getD_eq_getElem?_getD,List.getElem?_append_right h,<-List.getD_eq_getElem?_getD]
theorem wnF_con (n:Nat) (hn:n<9223372036854775808):Con Try.prog 50 [.p 0 0,.i .i64 (Int.ofNat n)] [some w0O] (.tup []) [.set (wO (fN n).length),.set (shO 2 (fN n).length),.set (.rows 5 1 (fN n).length (byF (tB (fN n))))]:=by
 rw [fN_len]
 exact (wnum0_con n hn).post (.refl _) ⟨.refl _,.refl _,.rowsW fun i j hi hj=>.of (by
  show CV.i .u8 (wB n i)=CV.i .u8 (Int.ofNat ((fN n).getD i 0));rw [fN_get hi]),trivial⟩
theorem wnG_con (bs:List Nat) (n:Nat) (hn:n<9223372036854775808) (hk:bs.length<=1073741000):Con Try.prog 50 [.p 0 0,.i .i64 (Int.ofNat n)] [some (wO bs.length),some (shO 2 bs.length),some (.rows 5 1 bs.length (byF (tB bs)))] (.tup []) [.set (wO (bs ++ fN n).length),.set (shO 3 (bs ++ fN n).length),.gone,.set (.rows 5 1 (bs ++ fN n).length (byF (tB (bs ++ fN n))))]:=by
 rw [List.length_append,fN_len]
 exact (wnumR_con n bs.length (fun i=>Int.ofNat (tB bs i)) hn hk).post (.refl _) ⟨.refl _,.refl _,.refl _,.rowsW fun i j hi hj=>.of (by
  show CV.i .u8 (wG (fun i=>Int.ofNat (tB bs i)) bs.length n i)=CV.i .u8 (Int.ofNat (tB (bs ++ fN n) i))
  rcases Nat.lt_or_ge i bs.length with q | q
  · rw [wG_left q,tB_lo q]
  · obtain ⟨m,rfl⟩:∃m,i=bs.length+m:=⟨i-bs.length,by omega⟩
    rw [wG_right,tB_hi q,Nat.add_sub_cancel_left]
    unfold tB;rw [fN_get (by omega)]),trivial⟩
def rwI (v:Int):Prop:=0<=v/\v<9223372036854775808
theorem nat_of {v:Int} (h:rwI v):Int.ofNat v.toNat=v:=by unfold rwI at h;simp<;>omega
theorem nnT {b:Bool} (h:b=true):(!!b)=true:=by rw [h];rfl
theorem nnF {b:Bool} (h:b=false):(!!b)=false:=by rw [h];rfl
def tN (t:List Nat):List Nat:=fN t.length ++ t
theorem wtG_con (bs t:List Nat) (ht:t.length<=1000000) (hk:bs.length<=1000000):Con Try.prog 51 [.p 0 0,.s t] [some (wO bs.length),some (shO 2 bs.length),some (.rows 5 1 bs.length (byF (tB bs)))] (.tup []) [.set (wO (bs ++ tN t).length),.set (shO 3 (bs ++ tN t).length),.gone,.set (.rows 5 1 (bs ++ tN t).length (byF (tB (bs ++ tN t))))]:=by
 have h:=wtext_con bs.length (fun i=>Int.ofNat (tB bs i)) t ht hk
 have e:(bs ++ tN t).length=bs.length+wl t.length+t.length:=by unfold tN;rw [List.length_append,List.length_append,fN_len];omega
 rw [e]
 refine h.post (.refl _) ⟨.refl _,.refl _,.refl _,.rowsW fun i j hi hj=>.of ?_,trivial⟩
 show CV.i .u8 (txG (wG (fun i=>Int.ofNat (tB bs i)) bs.length t.length) (bs.length+wl t.length) t i)=CV.i .u8 (Int.ofNat (tB (bs ++ tN t) i))
 have hi:i<bs.length+wl t.length+t.length:=hi
 rcases Nat.lt_or_ge i (bs.length+wl t.length) with q | q
 · rw [txG_lo q]
   rcases Nat.lt_or_ge i bs.length with r | r
   · rw [wG_left r,tB_lo r]
   · obtain ⟨m,rfl⟩:∃m,i=bs.length+m:=⟨i-bs.length,by omega⟩
     rw [wG_right,tB_hi r,Nat.add_sub_cancel_left]
     unfold tN
     rw [tB_lo (by rw [fN_len];omega)]
     unfold tB
     rw [fN_get (by omega)]
 · obtain ⟨m,rfl⟩:∃m,i=bs.length+wl t.length+m:=⟨i-(bs.length+wl t.length),by omega⟩
   rw [txG_hi,tB_hi (by omega)]
   unfold tN
   rw [tB_hi (by rw [fN_len];omega),fN_len,show bs.length+wl t.length+m-bs.length-wl t.length=m by omega];rfl
theorem wnI_con (bs:List Nat) (v:Int) (hv:rwI v) (hk:bs.length<=1073741000):Con Try.prog 50 [.p 0 0,.i .i64 v] [some (wO bs.length),some (shO 2 bs.length),some (.rows 5 1 bs.length (byF (tB bs)))] (.tup []) [.set (wO (bs ++ fN v.toNat).length),.set (shO 3 (bs ++ fN v.toNat).length),.gone,.set (.rows 5 1 (bs ++ fN v.toNat).length (byF (tB (bs ++ fN v.toNat))))]:=by
 have:=wnG_con bs v.toNat (by unfold rwI at hv;omega) hk
 rwa [nat_of hv] at this
end Go.Proofs.Ly
namespace Go.Proofs.Ly
open Go Go.Sim Go.Proofs Go.Proofs.Cd Go.Proofs.St Go.Proofs.Cl Go.Proofs.Ytgoppmcfidmgfaa
theorem li_of {P:Program} {c:Code} {n b:Nat} {l0 l1:List (Nat×AV)} {objs0 objs1:List (Option AObj)} {x:XO} {o:Orc} {σ:List Nat} {nx:Nat} {C:Prop->Prop} (h:LD P c n b l0 objs0 o x σ l1 objs1 nx C) (hc:C (stP x b σ l1 objs1 nx=stP x b σ l1 objs1 nx)):LI P c n b l0 objs0 x l1 objs1:=⟨o,σ,nx,_,hc,h⟩
noncomputable def uF (B V:Nat->Int) (D:Nat->List Nat) (i j:Nat):CV:=Nat.rec (.i .i64 (B i)) (fun k _=>Nat.rec (.i .i64 (V i)) (fun _ _=>.s (D i)) k) j
def lstB (B:Nat->Int):Nat->Int
 | 0=>0
 | i+1=>B i
noncomputable def pU (B V:Nat->Int) (D:Nat->List Nat) (i:Nat):Bool:=wq (B i) (lstB B i+1) 79 && (wq (V i) 1 1099511627776 && !decide ((38:Int)<Int.ofNat (D i).length))
noncomputable def mbB (n:Nat) (B V:Nat->Int) (D:Nat->List Nat):Bool:=alB (pU B V D) n && decide ((0:Int)<Int.ofNat n)
set_option maxHeartbeats 4000000
def upL (n:Nat) (B V:Nat->Int) (D:Nat->List Nat):Nat->List Nat
 | 0=>fN n
 | i+1=>((upL n B V D i ++ fN (B i).toNat) ++ fN (V i).toNat) ++ tN (D i)
def UOk (n:Nat) (B V:Nat->Int) (D:Nat->List Nat):Prop:=n<=79/\∀i,i<n->(1<=B i/\B i<=79)/\(1<=V i/\V i<=1099511627776)/\(D i).length<=38/\Byt (D i)
theorem tN_le' {t:List Nat} (h:t.length<=38):(tN t).length<=49:=by
 unfold tN
 rw [List.length_append]
 have:=fN_le (n:=t.length) (by omega)
 omega
theorem upL_le {n:Nat} {B V:Nat->Int} {D:Nat->List Nat} (h:UOk n B V D):∀i,i<=n->(upL n B V D i).length<=80*i+20
 | 0,_=>by
   have:=h.1
   have:=fN_le (n:=n) (by omega)
   show (fN n).length<=_;omega
 | i+1,hi=>by
   have:=upL_le h i (by omega)
   obtain ⟨a,b,c,d⟩:=h.2 i (by omega)
   have:=tN_le' c
   have:=fN_le (n:=(B i).toNat) (by omega)
   have:=fN_le (n:=(V i).toNat) (by omega)
   show (((upL n B V D i ++ fN (B i).toNat) ++ fN (V i).toNat) ++ tN (D i)).length<=_
   rw [List.length_append,List.length_append,List.length_append]
   omega
theorem upL_byt {n:Nat} {B V:Nat->Int} {D:Nat->List Nat} (h:UOk n B V D):∀i,i<=n->Byt (upL n B V D i)
 | 0,_=>fN_byt (by have:=h.1;omega)
 | i+1,hi=>by
   obtain ⟨a,b,c,d⟩:=h.2 i (by omega)
   have e:Byt (tN (D i)):=Byt.app (fN_byt (by omega)) d
   exact (((upL_byt h i (by omega)).app (fN_byt (by omega))).app (fN_byt (by omega))).app e
theorem wwi0_vq (n a b:Int) (h0:decide (a<=n)=true):VD Try.prog 58 [.i .i64 n,.i .i64 a,.i .i64 b] [] (Orc.t (Orc.t (Orc.t (Orc.t Orc.z)))) (.b (decide (n<=b))) []
 [] 0 (fun Lf=>decide (a<=n)=true/\decide (a<=n)=true/\decide (a<=n)=true/\decide (a<=n)=true/\Lf):=by unfold VD VQ;kernel_rfl
theorem wwi1_vq (n a b:Int) (h0:decide (a<=n)=false):VD Try.prog 58 [.i .i64 n,.i .i64 a,.i .i64 b] [] (Orc.f (Orc.f (Orc.f (Orc.f Orc.z)))) (.b false) [] [] 0 (fun
 Lf=>decide (a<=n)=false/\decide (a<=n)=false/\decide (a<=n)=false/\decide (a<=n)=false/\Lf):=by unfold VD VQ;kernel_rfl
theorem wwi_con (n a b:Int):Con Try.prog 58 [.i .i64 n,.i .i64 a,.i .i64 b] [] (.b (wq n a b)) []:=by
 unfold wq
 cases h0:decide (a<=n) with
 | true=>
   exact con_d (wwi0_vq (n:=n) (a:=a) (b:=b) (h0:=h0)) (by repeat' first | exact trivial | assumption | exact rfl | exact nT (by assumption) | exact nF (by assumption) | apply And.intro | decide)
 | false=>
   exact con_d (wwi1_vq (n:=n) (a:=a) (b:=b) (h0:=h0)) (by repeat' first | exact trivial | assumption | exact rfl | exact nT (by assumption) | exact nF (by assumption) | apply And.intro | decide)
theorem sl0_fq (S:Nat) (b4:Nat->Nat) (L:Nat) (b:Nat->Nat) (hs:decide (0<0+Int.ofNat L+4-0)=true):VF Try.prog 52 [.sv 1 L (byF b)] [] (Orc.cal [] (.i
 .u32 (Int.ofNat S)) [] (Orc.cal [] (.sv 1 4 (byF b4)) [] (Orc.inl (Orc.inl (oc 3 (Orc.inl (oc 3 (Orc.inl (Orc.c (Orc.inl (Orc.c (Orc.t (Orc.inl (oc 2 (Orc.inl (oc 2 (Orc.inl
 (Orc.c Orc.z)))))))))))))))))) (.sv 1 (addN L 4) (shiftF 0 (appZ L (byF b) (byF b4)))) [] [3] [] ((1=1/\0+addN L 4<=addN L 4)/\True) 4 (fun Lf=>Con Try.prog 63 [.sv
 1 L (byF b)] [] (.i .u32 (Int.ofNat S)) []/\Con Try.prog 62 [.i .u32 (Int.ofNat S)] [] (.sv 1 4 (byF b4)) []/\rg (0+Int.ofNat L)/\rg (1)/\rg (0+Int.ofNat L+4)/\rg
 (2)/\rg (0)/\rg (0+Int.ofNat L+(4:Int)-(0:Int))/\decide ((0:Int)<(0:Int)+Int.ofNat L+(4:Int)-(0:Int))=true/\(True/\(0:Int)<=(0:Int) +
 Int.ofNat L+(4:Int)-(0:Int)/\0+Int.toNat (0+Int.ofNat L+(4:Int)-(0:Int))<=140737488355328/\(3*(0+Int.toNat (0+Int.ofNat L+(4:Int)-(0 :
 Int)))+1536)*1<=562949953421312)/\(True/\(0:Int)<=(0:Int)/\0<=0/\0<=Int.toNat (0+Int.ofNat L+(4:Int)-(0:Int))/\(0=0\/0<Int.toNat (0 +
 Int.ofNat L+(4:Int)-(0:Int))))/\(0<=Int.toNat (0+Int.ofNat L+(4:Int)-(0:Int))/\True/\0+L<=140737488355328/\(3*(0+L)+1536)*1<=
 562949953421312)/\rg (1)/\(0+L<=L/\True/\L+4<=140737488355328/\(3*(L+4)+1536)*1<=562949953421312)/\rg (2)/\Lf):=by unfold VF;kernel_rfl
theorem sl_con (L:Nat) (b:Nat->Nat) (hs:decide (0<0+Int.ofNat L+4-0)=true) (S:Nat) (b4:Nat->Nat) (hL:L<=1073741824) (k1:Con Try.prog 63 [.sv 1 L (byF b)] [] (.i .u32 (Int.ofNat S)) []) (k2:Con Try.prog 62 [.i .u32 (Int.ofNat S)] [] (.sv 1 4 (byF b4)) []):Con Try.prog 52 [.sv 1 L (byF b)] [] (.sv 1 (addN L 4) (shiftF 0 (appZ L (byF b) (byF b4)))) []:=by
 exact con_f (sl0_fq (S:=S) (b4:=b4) (L:=L) (b:=b) (hs:=hs)) ⟨⟨rfl,by simp⟩,trivial⟩ (by repeat' first | exact trivial | assumption | exact rfl | exact nT (by assumption) | exact nF (by assumption) | assumption | assumption | omega | (unfold rg;simp;omega) | (simp;omega) | apply And.intro | decide)
theorem mR_lq (w:Int->Int->Int->Bool) (n i:Nat) (B V:Nat->Int) (D:Nat->List Nat) (la:Int) (h0:decide (Int.ofNat i<Int.ofNat n)=true) (h1:w (B i) (la+1)
 79=true) (h2:w (V i) 1 1099511627776=true) (h3:decide (38<Int.ofNat (List.length (D i)))=false):LD Try.prog (loopAt Try.prog 49 0) 36 0 [(0,.sv 3 n (uF B V
 D)),(3,.i .i64 la),(6,.sv 3 n (uF B V D)),(7,.i .i64 (Int.ofNat n)),(8,.i .i64 (Int.ofNat i))] [] (Orc.t (Orc.cal [] (.b (w (B i) (la+1) 79)) [] (Orc.t (Orc.t
 (Orc.t (Orc.cal [] (.b (w (V i) 1 1099511627776)) [] (Orc.t (Orc.f (Orc.t (Orc.t (Orc.t (Orc.t (Orc.f (Orc.f Orc.z)))))))))))))) .nrm [] [(0,.sv 3 n (uF B V D)),(3,.i .i64
 (B i)),(6,.sv 3 n (uF B V D)),(7,.i .i64 (Int.ofNat n)),(8,.i .i64 (Int.ofNat i+1))] [] 1 (fun Lf=>decide (Int.ofNat i<Int.ofNat n)=true/\(0<=Int.ofNat i/\
 Int.ofNat i<↑n)/\True/\True/\rg (la+1)/\Con Try.prog 58 [.i .i64 (B i),.i .i64 (la+1),.i .i64 79] [] (.b (w (B i) (la+1) 79)) []/\True/\(!!w (B i) (la+1)
 79)=true/\True/\(!!w (B i) (la+1) 79)=true/\(!!w (B i) (la+1) 79)=true/\Con Try.prog 58 [.i .i64 (V i),.i .i64 1,.i .i64 1099511627776] [] (.b (w (V i) 1
 1099511627776)) []/\(!!w (B i) (la+1) 79)=true/\True/\(!w (B i) (la+1) 79)=false/\(!!w (V i) 1 1099511627776)=true/\True/\(!!w (V i) 1 1099511627776)=true/\
 (!!w (V i) 1 1099511627776)=true/\(!!w (V i) 1 1099511627776)=true/\(!w (V i) 1 1099511627776)=false/\decide (38<Int.ofNat (List.length (D i)))=false/\True/\rg
 (Int.ofNat i+1)/\Lf):=by unfold LD LQ;kernel_rfl
theorem mX1_lq (w:Int->Int->Int->Bool) (n i:Nat) (B V:Nat->Int) (D:Nat->List Nat) (la:Int) (h0:decide (Int.ofNat i<Int.ofNat n)=true) (h1:w (B i) (la +
 1) 79=false):LD Try.prog (loopAt Try.prog 49 0) 36 0 [(0,.sv 3 n (uF B V D)),(3,.i .i64 la),(6,.sv 3 n (uF B V D)),(7,.i .i64 (Int.ofNat n)),(8,.i .i64
 (Int.ofNat i))] [] (Orc.t (Orc.cal [] (.b (w (B i) (la+1) 79)) [] (Orc.f (Orc.f (Orc.f (Orc.f (Orc.t (oc 6 Orc.z)))))))) .ret [] [(2,.b false)] [] 1 (fun Lf=>decide
 (Int.ofNat i<Int.ofNat n)=true/\(0<=Int.ofNat i/\Int.ofNat i<↑n)/\True/\True/\rg (la+1)/\Con Try.prog 58 [.i .i64 (B i),.i .i64 (la+1),.i .i64 79] [] (.b
 (w (B i) (la+1) 79)) []/\True/\(!!w (B i) (la+1) 79)=false/\(!!w (B i) (la+1) 79)=false/\(!!w (B i) (la+1) 79)=false/\(!!w (B i) (la+1) 79)=false/\(!w
 (B i) (la+1) 79)=true/\Lf):=by unfold LD LQ;kernel_rfl
theorem mX2_lq (w:Int->Int->Int->Bool) (n i:Nat) (B V:Nat->Int) (D:Nat->List Nat) (la:Int) (h0:decide (Int.ofNat i<Int.ofNat n)=true) (h1:w (B i) (la +
 1) 79=true) (h2:w (V i) 1 1099511627776=false):LD Try.prog (loopAt Try.prog 49 0) 36 0 [(0,.sv 3 n (uF B V D)),(3,.i .i64 la),(6,.sv 3 n (uF B V D)),(7,.i
 .i64 (Int.ofNat n)),(8,.i .i64 (Int.ofNat i))] [] (Orc.t (Orc.cal [] (.b (w (B i) (la+1) 79)) [] (Orc.t (Orc.t (Orc.t (Orc.cal [] (.b (w (V i) 1 1099511627776)) [] (Orc.t
 (Orc.f (Orc.f (Orc.f (Orc.f (Orc.f (Orc.t (Orc.c Orc.z)))))))))))))) .ret [] [(2,.b false)] [] 1 (fun Lf=>decide (Int.ofNat i<Int.ofNat n)=true/\(0<=Int.ofNat i/\
 Int.ofNat i<↑n)/\True/\True/\rg (la+1)/\Con Try.prog 58 [.i .i64 (B i),.i .i64 (la+1),.i .i64 79] [] (.b (w (B i) (la+1) 79)) []/\True/\(!!w (B i) (la+1)
 79)=true/\True/\(!!w (B i) (la+1) 79)=true/\(!!w (B i) (la+1) 79)=true/\Con Try.prog 58 [.i .i64 (V i),.i .i64 1,.i .i64 1099511627776] [] (.b (w (V i) 1
 1099511627776)) []/\(!!w (B i) (la+1) 79)=true/\True/\(!w (B i) (la+1) 79)=false/\(!!w (V i) 1 1099511627776)=false/\(!!w (V i) 1 1099511627776)=false/\(!!w
 (V i) 1 1099511627776)=false/\(!!w (V i) 1 1099511627776)=false/\(!w (V i) 1 1099511627776)=true/\Lf):=by unfold LD LQ;kernel_rfl
theorem mX3_lq (w:Int->Int->Int->Bool) (n i:Nat) (B V:Nat->Int) (D:Nat->List Nat) (la:Int) (h0:decide (Int.ofNat i<Int.ofNat n)=true) (h1:w (B i) (la +
 1) 79=true) (h2:w (V i) 1 1099511627776=true) (h3:decide (38<Int.ofNat (List.length (D i)))=true):LD Try.prog (loopAt Try.prog 49 0) 36 0 [(0,.sv 3 n (uF B V
 D)),(3,.i .i64 la),(6,.sv 3 n (uF B V D)),(7,.i .i64 (Int.ofNat n)),(8,.i .i64 (Int.ofNat i))] [] (Orc.t (Orc.cal [] (.b (w (B i) (la+1) 79)) [] (Orc.t (Orc.t
 (Orc.t (Orc.cal [] (.b (w (V i) 1 1099511627776)) [] (Orc.t (Orc.f (Orc.t (Orc.t (Orc.t (Orc.t (Orc.f (Orc.t Orc.z)))))))))))))) .ret [] [(2,.b false)] [] 1 (fun Lf=>
 decide (Int.ofNat i<Int.ofNat n)=true/\(0<=Int.ofNat i/\Int.ofNat i<↑n)/\True/\True/\rg (la+1)/\Con Try.prog 58 [.i .i64 (B i),.i .i64 (la+1),.i .i64 79]
 [] (.b (w (B i) (la+1) 79)) []/\True/\(!!w (B i) (la+1) 79)=true/\True/\(!!w (B i) (la+1) 79)=true/\(!!w (B i) (la+1) 79)=true/\Con Try.prog 58 [.i .i64
 (V i),.i .i64 1,.i .i64 1099511627776] [] (.b (w (V i) 1 1099511627776)) []/\(!!w (B i) (la+1) 79)=true/\True/\(!w (B i) (la+1) 79)=false/\(!!w (V i) 1
 1099511627776)=true/\True/\(!!w (V i) 1 1099511627776)=true/\(!!w (V i) 1 1099511627776)=true/\(!!w (V i) 1 1099511627776)=true/\(!w (V i) 1 1099511627776) =
 false/\decide (38<Int.ofNat (List.length (D i)))=true/\Lf):=by unfold LD LQ;kernel_rfl
theorem mE_lq (n i:Nat) (B V:Nat->Int) (D:Nat->List Nat) (la:Int) (h0:decide (Int.ofNat i<Int.ofNat n)=false):LD Try.prog (loopAt Try.prog 49 0) 36 0 [(0,
 .sv 3 n (uF B V D)),(3,.i .i64 la),(6,.sv 3 n (uF B V D)),(7,.i .i64 (Int.ofNat n)),(8,.i .i64 (Int.ofNat i))] [] (Orc.f Orc.z) (.exit 0) [] [(0,.sv 3 n (uF B V D))]
 [] 0 (fun Lf=>decide (Int.ofNat i<Int.ofNat n)=false/\Lf):=by unfold LD LQ;kernel_rfl
theorem wq_le {n a b:Int} (h:wq n a b=true):a<=n/\n<=b:=by
 unfold wq at h
 simpa only [Bool.and_eq_true,decide_eq_true_eq] using h
theorem lst_le {B V:Nat->Int} {D:Nat->List Nat} {i:Nat} (h:∀j,j<i->pU B V D j=true):Int.ofNat i<=lstB B i/\lstB B i<=79:=by
 induction i with
 | zero=>exact ⟨Int.le_refl _,by show (0:Int)<=79;decide⟩
 | succ i ih=>
   have a:=ih fun j hj=>h j (by omega)
   have b:=h i (by omega)
   unfold pU at b
   rw [Bool.and_eq_true] at b
   have c:=wq_le b.1
   show Int.ofNat (i+1)<=B i/\B i<=79
   have d:Int.ofNat (i+1)=Int.ofNat i+1:=rfl
   omega
theorem mR_li (n i:Nat) (B V:Nat->Int) (D:Nat->List Nat) (hn:n<=281474976710656) (hi:i<n) (hl:lstB B i<=79/\0<=lstB B i) (hp:pU B V D i=true):LI Try.prog (loopAt Try.prog 49 0) 36 0 [(0,.sv 3 n (uF B V D)),(3,.i .i64 (lstB B i)),(6,.sv 3 n (uF B V D)),(7,.i .i64 (Int.ofNat n)),(8,.i .i64 (Int.ofNat i))] [] .nrm [(0,.sv 3 n (uF B V D)),(3,.i .i64 (B i)),(6,.sv 3 n (uF B V D)),(7,.i .i64 (Int.ofNat n)),(8,.i .i64 (Int.ofNat i+1))] []:=by
 have h1:decide (Int.ofNat i<Int.ofNat n)=true:=decide_eq_true (by simp;omega)
 have bi:(0:Int)<=Int.ofNat i/\Int.ofNat i<(↑n:Int):=⟨by simp,by simp;omega⟩
 have ri:rg (Int.ofNat i+1):=⟨by simp<;>omega,by simp<;>omega⟩
 have rl:rg (lstB B i+1):=⟨by omega,by omega⟩
 have c1:=wwi_con (B i) (lstB B i+1) 79
 have c2:=wwi_con (V i) 1 1099511627776
 unfold pU at hp
 simp only [Bool.and_eq_true,Bool.not_eq_true'] at hp
 obtain ⟨p1,p2,p3⟩:=hp
 exact li_of (mR_lq wq n i B V D (lstB B i) h1 p1 p2 p3) (by repeat' first | exact trivial | assumption | exact rfl | exact nT (by assumption) | exact nF (by assumption) | exact nnT (by assumption) | exact nnF (by assumption) | apply And.intro | decide)
theorem mX_li (n i:Nat) (B V:Nat->Int) (D:Nat->List Nat) (hn:n<=281474976710656) (hi:i<n) (hl:lstB B i<=79/\0<=lstB B i) (hp:pU B V D i=false):LI Try.prog (loopAt Try.prog 49 0) 36 0 [(0,.sv 3 n (uF B V D)),(3,.i .i64 (lstB B i)),(6,.sv 3 n (uF B V D)),(7,.i .i64 (Int.ofNat n)),(8,.i .i64 (Int.ofNat i))] [] .ret [(2,.b false)] []:=by
 have h1:decide (Int.ofNat i<Int.ofNat n)=true:=decide_eq_true (by simp;omega)
 have bi:(0:Int)<=Int.ofNat i/\Int.ofNat i<(↑n:Int):=⟨by simp,by simp;omega⟩
 have rl:rg (lstB B i+1):=⟨by omega,by omega⟩
 have c1:=wwi_con (B i) (lstB B i+1) 79
 have c2:=wwi_con (V i) 1 1099511627776
 unfold pU at hp
 cases p1:wq (B i) (lstB B i+1) 79 with
 | false=>exact li_of (mX1_lq wq n i B V D (lstB B i) h1 p1) (by repeat' first | exact trivial | assumption | exact rfl | exact nT (by assumption) | exact nF (by assumption) | exact nnT (by assumption) | exact nnF (by assumption) | apply And.intro | decide)
 | true=>
   rw [p1,Bool.true_and] at hp
   cases p2:wq (V i) 1 1099511627776 with
   | false=>exact li_of (mX2_lq wq n i B V D (lstB B i) h1 p1 p2) (by repeat' first | exact trivial | assumption | exact rfl | exact nT (by assumption) | exact nF (by assumption) | exact nnT (by assumption) | exact nnF (by assumption) | apply And.intro | decide)
   | true=>
     rw [p2,Bool.true_and,Bool.not_eq_false'] at hp
     exact li_of (mX3_lq wq n i B V D (lstB B i) h1 p1 p2 hp) (by repeat' first | exact trivial | assumption | exact rfl | exact nT (by assumption) | exact nF (by assumption) | exact nnT (by assumption) | exact nnF (by assumption) | apply And.intro | decide)
theorem ii0 (i:Nat):(0:Int)<=Int.ofNat i:=by simp
theorem m_lp (n:Nat) (B V:Nat->Int) (D:Nat->List Nat) (hn:n<=281474976710656) (h:alB (pU B V D) n=true):LDoes Try.prog (loopAt Try.prog 49 0) 36 0 (mkT [(0,.sv 3 n (uF B V D)),(3,.i .i64 0),(6,.sv 3 n (uF B V D)),(7,.i .i64 (Int.ofNat n)),(8,.i .i64 0)]) [] (.exit 0) (mkT [(0,.sv 3 n (uF B V D))]) []:=by
 refine loop_q (fun i:Nat=>([(0,.sv 3 n (uF B V D)),(3,.i .i64 (lstB B i)),(6,.sv 3 n (uF B V D)),(7,.i .i64 (Int.ofNat n)),(8,.i .i64 (Int.ofNat i))],[])) (fun i=>n-i) (fun i=>i<=n) (fun _=>Nat.le_refl _) ?_ 0 (Nat.zero_le _)
 intro i hi
 rcases Nat.lt_or_ge i n with hlt | q
 · have q:=lst_le (i:=i) fun j hj=>alB_t h j (by omega)
   have z:=ii0 i
   exact ri_nrm (mR_li n i B V D hn hlt ⟨q.2,by omega⟩ (alB_t h i hlt)) (i+1) hlt (by show n-(i+1)<n-i;omega) rfl (.refl _) (.refl _)
 · obtain rfl:i=n:=Nat.le_antisymm hi q
   have h1:decide (Int.ofNat i<Int.ofNat i)=false:=decide_eq_false (by simp)
   exact rd_out (mE_lq i i B V D (lstB B i) h1) (by repeat' first | exact trivial | assumption | exact rfl | exact nT (by assumption) | exact nF (by assumption) | exact nnT (by assumption) | exact nnF (by assumption) | apply And.intro | decide) rfl rfl (.refl _) (.refl _)
theorem mX_lp (n:Nat) (B V:Nat->Int) (D:Nat->List Nat) (hn:n<=281474976710656) (h:alB (pU B V D) n=false):LDoes Try.prog (loopAt Try.prog 49 0) 36 0 (mkT [(0,.sv 3 n (uF B V D)),(3,.i .i64 0),(6,.sv 3 n (uF B V D)),(7,.i .i64 (Int.ofNat n)),(8,.i .i64 0)]) [] .ret (mkT [(2,.b false)]) []:=by
 obtain ⟨j,hj,hb,hg⟩:=alB_f h
 refine loop_q (fun i:Nat=>([(0,.sv 3 n (uF B V D)),(3,.i .i64 (lstB B i)),(6,.sv 3 n (uF B V D)),(7,.i .i64 (Int.ofNat n)),(8,.i .i64 (Int.ofNat i))],[])) (fun i=>n-i) (fun i=>i<=j) (fun _=>Nat.le_refl _) ?_ 0 (Nat.zero_le _)
 intro i hi
 have r:=lst_le (i:=i) fun k hk=>hg k (by omega)
 have z:=ii0 i
 rcases Nat.lt_or_ge i j with q | q
 · exact ri_nrm (mR_li n i B V D hn (by omega) ⟨r.2,by omega⟩ (hg i q)) (i+1) q (by show n-(i+1)<n-i;omega) rfl (.refl _) (.refl _)
 · obtain rfl:i=j:=by omega
   exact ri_out (mX_li n i B V D hn hj ⟨r.2,by omega⟩ hb) rfl rfl (.refl _) (.refl _)
theorem mbT0_vq (n:Nat) (B V:Nat->Int) (D:Nat->List Nat):VD Try.prog 49 [.sv 3 n (uF B V D)] [] (Orc.lop [] [0,3,6,7,8] 0 (XO.exit 0) [(0,.sv 3 n (uF B V D))]
 [] Orc.z) (.b (decide (0<Int.ofNat n))) [] [] 0 (fun Lf=>LDoes Try.prog (loopAt Try.prog 49 0) 36 0 (mkT [(0,.sv 3 n (uF B V D)),(3,.i .i64 0),(6,.sv 3 n (uF B V
 D)),(7,.i .i64 (Int.ofNat n)),(8,.i .i64 0)]) [] (XO.exit 0) (mkT [(0,.sv 3 n (uF B V D))]) []/\Lf):=by unfold VD VQ;kernel_rfl
theorem mbT_con (n:Nat) (B V:Nat->Int) (D:Nat->List Nat) (hn:n<=281474976710656) (ha:alB (pU B V D) n=true):Con Try.prog 49 [.sv 3 n (uF B V D)] [] (.b (decide ((0:Int)<Int.ofNat n))) []:=by
 exact con_d (mbT0_vq (n:=n) (B:=B) (V:=V) (D:=D)) (by repeat' first | exact trivial | assumption | exact rfl | exact nT (by assumption) | exact nF (by assumption) | exact m_lp n B V D hn ha | apply And.intro | decide)
theorem mbF0_vq (n:Nat) (B V:Nat->Int) (D:Nat->List Nat):VD Try.prog 49 [.sv 3 n (uF B V D)] [] (Orc.lop [] [0,3,6,7,8] 0 XO.ret [(2,.b false)] [] Orc.z) (.b
 false) [] [] 0 (fun Lf=>LDoes Try.prog (loopAt Try.prog 49 0) 36 0 (mkT [(0,.sv 3 n (uF B V D)),(3,.i .i64 0),(6,.sv 3 n (uF B V D)),(7,.i .i64 (Int.ofNat n)),(8,
 .i .i64 0)]) [] XO.ret (mkT [(2,.b false)]) []/\Lf):=by unfold VD VQ;kernel_rfl
theorem mbF_con (n:Nat) (B V:Nat->Int) (D:Nat->List Nat) (hn:n<=281474976710656) (ha:alB (pU B V D) n=false):Con Try.prog 49 [.sv 3 n (uF B V D)] [] (.b false) []:=by
 exact con_d (mbF0_vq (n:=n) (B:=B) (V:=V) (D:=D)) (by repeat' first | exact trivial | assumption | exact rfl | exact nT (by assumption) | exact nF (by assumption) | exact mX_lp n B V D hn ha | apply And.intro | decide)
theorem mb_con (n:Nat) (B V:Nat->Int) (D:Nat->List Nat) (hn:n<=281474976710656):Con Try.prog 49 [.sv 3 n (uF B V D)] [] (.b (mbB n B V D)) []:=by
 unfold mbB
 cases h:alB (pU B V D) n with
 | true=>rw [Bool.true_and];exact mbT_con n B V D hn h
 | false=>rw [Bool.false_and];exact mbF_con n B V D hn h
theorem eR_lq (L1:Nat) (L2:Nat) (B1:Nat->Nat) (B2:Nat->Nat) (KK:Nat) (HH:Nat->Nat) (k0:Nat) (g0:Nat->Nat) (n i:Nat) (B V:Nat->Int) (D:Nat->List Nat)
 (h0:decide (Int.ofNat i<Int.ofNat n)=true):LD Try.prog (loopAt Try.prog 43 0) 37 1 [(4,.p 0 0),(14,.sv 3 n (uF B V D)),(15,.i .i64 (Int.ofNat n)),(16,.i .i64
 (Int.ofNat i))] [some (wO k0),some (shO 2 k0),some (.rows 5 1 k0 (byF g0))] (Orc.t (Orc.cal [0,1,2] (.tup []) [.set (wO L1),.set (shO 3 L1),.gone,.set (AObj.rows 5 1
 L1 (byF B1))] (Orc.cal [0,1,4] (.tup []) [.set (wO L2),.set (shO 3 L2),.gone,.set (AObj.rows 5 1 L2 (byF B2))] (Orc.cal [0,1,5] (.tup []) [.set (wO KK),.set (shO 3
 KK),.gone,.set (AObj.rows 5 1 KK (byF HH))] Orc.z)))) .nrm [0,1,6] [(4,.p 0 0),(14,.sv 3 n (uF B V D)),(15,.i .i64 (Int.ofNat n)),(16,.i .i64 (Int.ofNat i+1))]
 [some (wO KK),some (shO 2 KK),some (.rows 5 1 KK (byF HH))] 7 (fun Lf=>decide (Int.ofNat i<Int.ofNat n)=true/\(0<=Int.ofNat i/\Int.ofNat i<↑n)/\True/\True/\
 Con Try.prog 50 [.p 0 0,.i .i64 (B i)] [some (wO k0),some (shO 2 k0),some (AObj.rows 5 1 k0 (byF g0))] (.tup []) [.set (wO L1),.set (shO 3 L1),.gone,.set (AObj.rows 5
 1 L1 (byF B1))]/\True/\Con Try.prog 50 [.p 0 0,.i .i64 (V i)] [some (wO L1),some (shO 2 L1),some (AObj.rows 5 1 L1 (byF B1))] (.tup []) [.set (wO L2),.set (shO 3 L2),
 .gone,.set (AObj.rows 5 1 L2 (byF B2))]/\True/\Con Try.prog 51 [.p 0 0,.s (D i)] [some (wO L2),some (shO 2 L2),some (AObj.rows 5 1 L2 (byF B2))] (.tup []) [.set (wO
 KK),.set (shO 3 KK),.gone,.set (AObj.rows 5 1 KK (byF HH))]/\rg (Int.ofNat i+1)/\Lf):=by unfold LD LQ;kernel_rfl
theorem eE_lq (n i k:Nat) (B V:Nat->Int) (D:Nat->List Nat) (g:Nat->Nat) (h0:decide (Int.ofNat i<Int.ofNat n)=false):LD Try.prog (loopAt Try.prog 43 0) 37 1
 [(4,.p 0 0),(14,.sv 3 n (uF B V D)),(15,.i .i64 (Int.ofNat n)),(16,.i .i64 (Int.ofNat i))] [some (wO k),some (shO 2 k),some (.rows 5 1 k (byF g))] (Orc.f Orc.z)
 (.exit 0) [0,1,2] [(4,.p 0 0)] [some (wO k),some (shO 2 k),some (.rows 5 1 k (byF g))] 3 (fun Lf=>decide (Int.ofNat i<Int.ofNat n)=false/\Lf)
 :=by unfold LD LQ;kernel_rfl
theorem wnJ_con (bs:List Nat) (v:Int) (h0:0<=v) (h1:v<=1099511627776) (hk:bs.length<=1000000):Con Try.prog 50 [.p 0 0,.i .i64 v] [some (wO bs.length),some (shO 2 bs.length),some (.rows 5 1 bs.length (byF (tB bs)))] (.tup []) [.set (wO (bs ++ fN v.toNat).length),.set (shO 3 (bs ++ fN v.toNat).length),.gone,.set (.rows 5 1 (bs ++ fN v.toNat).length (byF (tB (bs ++ fN v.toNat))))]:=
 wnI_con bs v ⟨by omega,by omega⟩ (by omega)
theorem u_ok {n:Nat} {B V:Nat->Int} {D:Nat->List Nat} (h:alB (pU B V D) n=true) (hb:∀i,i<n->Byt (D i)):UOk n B V D:=by
 refine ⟨?_,fun i hi=>?_⟩
 · have q:=lst_le (i:=n) fun j hj=>alB_t h j hj
   have:Int.ofNat n<=79:=by omega
   simp at this;omega
 · have q:=lst_le (i:=i) fun j hj=>alB_t h j (by omega)
   have z:=ii0 i
   have p:=alB_t h i hi
   unfold pU at p
   simp only [Bool.and_eq_true,Bool.not_eq_true'] at p
   have a:=wq_le p.1
   have b:=wq_le p.2.1
   have c:=of_decide_eq_false p.2.2
   simp at c
   exact ⟨⟨by omega,a.2⟩,b,by omega,hb i hi⟩
theorem e_lp (n:Nat) (B V:Nat->Int) (D:Nat->List Nat) (h:UOk n B V D):LDoes Try.prog (loopAt Try.prog 43 0) 37 1 (mkT [(4,.p 0 0),(14,.sv 3 n (uF B V D)),(15,.i .i64 (Int.ofNat n)),(16,.i .i64 0)]) [some (wO (upL n B V D 0).length),some (shO 2 (upL n B V D 0).length),some (.rows 5 1 (upL n B V D 0).length (byF (tB (upL n B V D 0))))] (.exit 0) (mkT [(4,.p 0 0)]) [some (wO (upL n B V D n).length),some (shO 2 (upL n B V D n).length),some (.rows 5 1 (upL n B V D n).length (byF (tB (upL n B V D n))))]:=by
 have h8:=h.1
 refine loop_q (fun i:Nat=>([(4,.p 0 0),(14,.sv 3 n (uF B V D)),(15,.i .i64 (Int.ofNat n)),(16,.i .i64 (Int.ofNat i))],[some (wO (upL n B V D i).length),some (shO 2 (upL n B V D i).length),some (.rows 5 1 (upL n B V D i).length (byF (tB (upL n B V D i))))])) (fun i=>n-i) (fun i=>i<=n) (fun i=>by simp) ?_ 0 (Nat.zero_le _)
 intro i hi
 have hle:=upL_le h i hi
 rcases Nat.lt_or_ge i n with hlt | q
 · have h1:decide (Int.ofNat i<Int.ofNat n)=true:=decide_eq_true (by simp;omega)
   have bi:(0:Int)<=Int.ofNat i/\Int.ofNat i<(↑n:Int):=⟨by simp,by simp;omega⟩
   have ri:rg (Int.ofNat i+1):=⟨by simp<;>omega,by simp<;>omega⟩
   obtain ⟨a,b,c,d⟩:=h.2 i hlt
   have l1:=fN_le (n:=(B i).toNat) (by omega)
   have l2:=fN_le (n:=(V i).toNat) (by omega)
   have c1:=wnJ_con (upL n B V D i) (B i) (by omega) (by omega) (by omega)
   have c2:=wnJ_con (upL n B V D i ++ fN (B i).toNat) (V i) (by omega) (by omega) (by rw [List.length_append];omega)
   have c3:=wtG_con ((upL n B V D i ++ fN (B i).toNat) ++ fN (V i).toNat) (D i) (by omega) (by rw [List.length_append,List.length_append];omega)
   exact rd_nrm (eR_lq (L1:=(upL n B V D i ++ fN (B i).toNat).length) (B1:=tB (upL n B V D i ++ fN (B i).toNat)) (L2:=((upL n B V D i ++ fN (B i).toNat) ++ fN (V i).toNat).length) (B2:=tB ((upL n B V D i ++ fN (B i).toNat) ++ fN (V i).toNat)) (KK:=(upL n B V D (i+1)).length) (HH:=tB (upL n B V D (i+1))) (k0:=(upL n B V D i).length) (g0:=tB (upL n B V D i)) n i B V D h1) ⟨h1,bi,trivial,trivial,c1,trivial,c2,trivial,c3,ri,rfl⟩ (i+1) hlt (by show n-(i+1)<n-i;omega) rfl (.refl _) (.refl _)
 · obtain rfl:i=n:=Nat.le_antisymm hi q
   have h1:decide (Int.ofNat i<Int.ofNat i)=false:=decide_eq_false (by simp)
   exact rd_out (eE_lq i i (upL i B V D i).length B V D (tB (upL i B V D i)) h1) ⟨h1,rfl⟩ rfl rfl (.refl _) (.refl _)
theorem enA0_vq (mb:Nat->(Nat->Int)->(Nat->Int)->(Nat->List Nat)->Bool) (n:Nat) (B V:Nat->Int) (D:Nat->List Nat) (h0:mb n B V D=false):VD Try.prog 43
 [.sv 3 n (uF B V D)] [] (Orc.cal [] (.b (mb n B V D)) [] (Orc.t Orc.z)) (.tup [.s [],.i .i64 2]) [] [] 0 (fun Lf=>Con Try.prog 49 [.sv 3 n (uF B V D)] [] (.b (mb n B V
 D)) []/\True/\(!mb n B V D)=true/\Lf):=by unfold VD VQ;kernel_rfl
theorem enA_con (n:Nat) (B V:Nat->Int) (D:Nat->List Nat) (h0:mbB n B V D=false) (hn:n<=281474976710656):Con Try.prog 43 [.sv 3 n (uF B V D)] [] (.tup [.s [],.i .i64 2]) []:=by
 exact con_d (enA0_vq (mb:=mbB) (n:=n) (B:=B) (V:=V) (D:=D) (h0:=h0)) (by repeat' first | exact trivial | assumption | exact rfl | exact nT (by assumption) | exact nF (by assumption) | exact mb_con _ _ _ _ hn | apply And.intro | decide)
theorem enB0_vq (L0:Nat) (B0:Nat->Nat) (KK:Nat) (HH:Nat->Nat) (LS:Nat) (BS:Nat->Nat) (mb:Nat->(Nat->Int)->(Nat->Int)->(Nat->List Nat)->Bool) (n:Nat)
 (B V:Nat->Int) (D:Nat->List Nat) (h0:mb n B V D=true) (h1:decide (540<Int.ofNat LS)=true):VD Try.prog 43 [.sv 3 n (uF B V D)] [] (Orc.cal [] (.b (mb n B V
 D)) [] (Orc.f (Orc.cal [0] (.tup []) [.set (wO L0),.set (shO 2 L0),.set (AObj.rows 5 1 L0 (byF B0))] (Orc.lop [0,1,2] [4,14,15,16] 1 (XO.exit 0) [(4,.p 0 0)] [some
 (wO KK),some (shO 2 KK),some (AObj.rows 5 1 KK (byF HH))] (Orc.cal [0,3,4] (.sv 1 KK (byF HH)) [.keep,.keep,.gone] (Orc.cal [] (.sv 1 LS (byF BS)) [] (Orc.t
 Orc.z))))))) (.tup [.s [],.i .i64 2]) [] [] 5 (fun Lf=>Con Try.prog 49 [.sv 3 n (uF B V D)] [] (.b (mb n B V D)) []/\True/\(!mb n B V D)=false/\Con Try.prog 50 [.p
 0 0,.i .i64 (Int.ofNat n)] [some w0O] (.tup []) [.set (wO L0),.set (shO 2 L0),.set (AObj.rows 5 1 L0 (byF B0))]/\LDoes Try.prog (loopAt Try.prog 43 0) 37 1 (mkT [(4,.p
 0 0),(14,.sv 3 n (uF B V D)),(15,.i .i64 (Int.ofNat n)),(16,.i .i64 0)]) [some (wO L0),some (shO 2 L0),some (AObj.rows 5 1 L0 (byF B0))] (XO.exit 0) (mkT [(4,.p 0
 0)]) [some (wO KK),some (shO 2 KK),some (AObj.rows 5 1 KK (byF HH))]/\Con Try.prog 53 [.p 0 0] [some (wO KK),some (shO 2 KK),some (AObj.rows 5 1 KK (byF HH))] (.sv 1 KK
 (byF HH)) [.keep,.keep,.gone]/\Con Try.prog 52 [.sv 1 KK (byF HH)] [] (.sv 1 LS (byF BS)) []/\decide (540<Int.ofNat LS)=true/\Lf):=by unfold VD VQ;kernel_rfl
theorem enB_con (n:Nat) (B V:Nat->Int) (D:Nat->List Nat) (L0:Nat) (B0:Nat->Nat) (KK:Nat) (HH:Nat->Nat) (LS:Nat) (BS:Nat->Nat) (hn:n<=281474976710656) (kwn0:Con Try.prog 50 [.p 0 0,.i .i64 (Int.ofNat n)] [some w0O] (.tup []) [.set (wO L0),.set (shO 2 L0),.set (.rows 5 1 L0 (byF B0))]) (kel:LDoes Try.prog (loopAt Try.prog 43 0) 37 1 (mkT [(4,.p 0 0),(14,.sv 3 n (uF B V D)),(15,.i .i64 (Int.ofNat n)),(16,.i .i64 0)]) [some (wO L0),some (shO 2 L0),some (.rows 5 1 L0 (byF B0))] (.exit 0) (mkT [(4,.p 0 0)]) [some (wO KK),some (shO 2 KK),some (.rows 5 1 KK (byF HH))]) (kwbK:Con Try.prog 53 [.p 0 0] [some (wO KK),some (shO 2 KK),some (.rows 5 1 KK (byF HH))] (.sv 1 KK (byF HH)) [.keep,.keep,.gone]) (kslK:Con Try.prog 52 [.sv 1 KK (byF HH)] [] (.sv 1 LS (byF BS)) []) (h0:mbB n B V D=true) (h1:decide (540<Int.ofNat LS)=true):Con Try.prog 43 [.sv 3 n (uF B V D)] [] (.tup [.s [],.i .i64 2]) []:=by
 exact con_d (enB0_vq (L0:=L0) (B0:=B0) (KK:=KK) (HH:=HH) (LS:=LS) (BS:=BS) (mb:=mbB) (n:=n) (B:=B) (V:=V) (D:=D) (h0:=h0) (h1:=h1)) (by repeat' first | exact trivial | assumption | exact rfl | exact nT (by assumption) | exact nF (by assumption) | exact mb_con _ _ _ _ hn | assumption | assumption | assumption | assumption | exact hu | apply And.intro | decide)
theorem enC0_vq (L0:Nat) (B0:Nat->Nat) (KK:Nat) (HH:Nat->Nat) (LS:Nat) (BS:Nat->Nat) (mb:Nat->(Nat->Int)->(Nat->Int)->(Nat->List Nat)->Bool) (n:Nat)
 (B V:Nat->Int) (D:Nat->List Nat) (h0:mb n B V D=true) (h1:decide (540<Int.ofNat LS)=false):VD Try.prog 43 [.sv 3 n (uF B V D)] [] (Orc.cal [] (.b (mb n B V
 D)) [] (Orc.f (Orc.cal [0] (.tup []) [.set (wO L0),.set (shO 2 L0),.set (AObj.rows 5 1 L0 (byF B0))] (Orc.lop [0,1,2] [4,14,15,16] 1 (XO.exit 0) [(4,.p 0 0)] [some
 (wO KK),some (shO 2 KK),some (AObj.rows 5 1 KK (byF HH))] (Orc.cal [0,3,4] (.sv 1 KK (byF HH)) [.keep,.keep,.gone] (Orc.cal [] (.sv 1 LS (byF BS)) [] (Orc.f
 Orc.z))))))) (.tup [.s (bytesF LS (byF BS)),.i .i64 0]) [] [] 5 (fun Lf=>Con Try.prog 49 [.sv 3 n (uF B V D)] [] (.b (mb n B V D)) []/\True/\(!mb n B V D)=false/\Con
 Try.prog 50 [.p 0 0,.i .i64 (Int.ofNat n)] [some w0O] (.tup []) [.set (wO L0),.set (shO 2 L0),.set (AObj.rows 5 1 L0 (byF B0))]/\LDoes Try.prog (loopAt Try.prog 43 0)
 37 1 (mkT [(4,.p 0 0),(14,.sv 3 n (uF B V D)),(15,.i .i64 (Int.ofNat n)),(16,.i .i64 0)]) [some (wO L0),some (shO 2 L0),some (AObj.rows 5 1 L0 (byF B0))] (XO.exit 0)
 (mkT [(4,.p 0 0)]) [some (wO KK),some (shO 2 KK),some (AObj.rows 5 1 KK (byF HH))]/\Con Try.prog 53 [.p 0 0] [some (wO KK),some (shO 2 KK),some (AObj.rows 5 1 KK (byF
 HH))] (.sv 1 KK (byF HH)) [.keep,.keep,.gone]/\Con Try.prog 52 [.sv 1 KK (byF HH)] [] (.sv 1 LS (byF BS)) []/\decide (540<Int.ofNat LS)=false/\U8s LS (byF BS)/\Lf)
 :=by unfold VD VQ;kernel_rfl
theorem enC_con (n:Nat) (B V:Nat->Int) (D:Nat->List Nat) (L0:Nat) (B0:Nat->Nat) (KK:Nat) (HH:Nat->Nat) (LS:Nat) (BS:Nat->Nat) (hn:n<=281474976710656) (kwn0:Con Try.prog 50 [.p 0 0,.i .i64 (Int.ofNat n)] [some w0O] (.tup []) [.set (wO L0),.set (shO 2 L0),.set (.rows 5 1 L0 (byF B0))]) (kel:LDoes Try.prog (loopAt Try.prog 43 0) 37 1 (mkT [(4,.p 0 0),(14,.sv 3 n (uF B V D)),(15,.i .i64 (Int.ofNat n)),(16,.i .i64 0)]) [some (wO L0),some (shO 2 L0),some (.rows 5 1 L0 (byF B0))] (.exit 0) (mkT [(4,.p 0 0)]) [some (wO KK),some (shO 2 KK),some (.rows 5 1 KK (byF HH))]) (kwbK:Con Try.prog 53 [.p 0 0] [some (wO KK),some (shO 2 KK),some (.rows 5 1 KK (byF HH))] (.sv 1 KK (byF HH)) [.keep,.keep,.gone]) (kslK:Con Try.prog 52 [.sv 1 KK (byF HH)] [] (.sv 1 LS (byF BS)) []) (h0:mbB n B V D=true) (h1:decide (540<Int.ofNat LS)=false) (hu:U8s LS (byF BS)):Con Try.prog 43 [.sv 3 n (uF B V D)] [] (.tup [.s (bytesF LS (byF BS)),.i .i64 0]) []:=by
 exact con_d (enC0_vq (L0:=L0) (B0:=B0) (KK:=KK) (HH:=HH) (LS:=LS) (BS:=BS) (mb:=mbB) (n:=n) (B:=B) (V:=V) (D:=D) (h0:=h0) (h1:=h1)) (by repeat' first | exact trivial | assumption | exact rfl | exact nT (by assumption) | exact nF (by assumption) | exact mb_con _ _ _ _ hn | assumption | assumption | assumption | assumption | exact hu | apply And.intro | decide)
set_option maxHeartbeats 4000000
noncomputable def fourL (x:Nat):List Nat:=[fourB x 0,fourB x 1,fourB x 2,fourB x 3]
theorem four_tB (x i:Nat) (hi:i<4):tB (fourL x) i=fourB x i:=by
 rcases i with _ | _ | _ | _ | i<;>first | rfl | omega
theorem four_byt (x:Nat):Byt (fourL x):=by
 intro y hy
 unfold fourL at hy
 simp only [List.mem_cons,List.not_mem_nil,or_false] at hy
 rcases hy with rfl | rfl | rfl | rfl<;>exact fourB_lt _ _
noncomputable def slL (bs:List Nat):List Nat:=bs ++ fourL (sumN (tB bs) bs.length)
theorem slL_len (bs:List Nat):(slL bs).length=bs.length+4:=by unfold slL;rw [List.length_append];rfl
theorem slL_byt {bs:List Nat} (h:Byt bs):Byt (slL bs):=h.app (four_byt _)
theorem tB_lt {bs:List Nat} (h:Byt bs) (k:Nat):tB bs k<256:=by
 unfold tB
 rw [List.getD_eq_getElem?_getD]
 rcases Nat.lt_or_ge k bs.length with q | q
 · rw [List.getElem?_eq_getElem q];exact h _ (List.getElem_mem q)
 · rw [List.getElem?_eq_none q];exact (by decide:0<256)
theorem seal_con (bs:List Nat) (h:Byt bs) (hl:bs.length<=1000000):Con Try.prog 52 [.sv 1 bs.length (byF (tB bs))] [] (.sv 1 (slL bs).length (byF (tB (slL bs)))) []:=by
 have q:=sl_con bs.length (tB bs) (decide_eq_true (by simp<;>omega)) (sumN (tB bs) bs.length) (fourB (sumN (tB bs) bs.length)) (by omega) (sum_con bs.length (tB bs) (by omega) (tB_lt h)) (four0_con _)
 rw [slL_len,<-addN_eq]
 refine q.post (.svW fun i j hi hj=>.of ?_) (OVL.refl _)
 obtain rfl:j=0:=by omega
 rw [addN_eq] at hi
 show appZ bs.length (byF (tB bs)) (byF (fourB (sumN (tB bs) bs.length))) i 0=CV.i .u8 (Int.ofNat (tB (slL bs) i))
 rw [appZ_i (f:=byF (tB bs)) (g:=byF (fourB (sumN (tB bs) bs.length))) (n:=bs.length) (i:=i) (j:=0) (k:=.u8) (a:=Int.ofNat (tB bs i)) (b:=Int.ofNat (fourB (sumN (tB bs) bs.length) (i-bs.length))) rfl rfl]
 unfold slL
 split
 · rw [tB_lo (by assumption)]
 · rw [tB_hi (by omega),four_tB _ _ (by omega)]
noncomputable def rcT (n:Nat) (B V:Nat->Int) (D:Nat->List Nat):List Nat:=slL (upL n B V D n)
noncomputable def encB (n:Nat) (B V:Nat->Int) (D:Nat->List Nat):Bool:=mbB n B V D && !decide ((540:Int)<Int.ofNat (rcT n B V D).length)
noncomputable def encT (n:Nat) (B V:Nat->Int) (D:Nat->List Nat):List Nat:=bif encB n B V D then rcT n B V D else []
noncomputable def encE (n:Nat) (B V:Nat->Int) (D:Nat->List Nat):Int:=bif encB n B V D then 0 else 2
theorem mb_ok {n:Nat} {B V:Nat->Int} {D:Nat->List Nat} (h:mbB n B V D=true) (hb:∀i,i<n->Byt (D i)):UOk n B V D:=by
 unfold mbB at h
 rw [Bool.and_eq_true] at h
 exact u_ok h.1 hb
theorem enc_con (n:Nat) (B V:Nat->Int) (D:Nat->List Nat) (hn:n<=281474976710656) (hb:∀i,i<n->Byt (D i)):Con Try.prog 43 [.sv 3 n (uF B V D)] [] (.tup [.s (encT n B V D),.i .i64 (encE n B V D)]) []:=by
 unfold encT encE encB
 cases h0:mbB n B V D with
 | false=>exact enA_con n B V D h0 hn
 | true=>
   have ok:=mb_ok h0 hb
   have h8:=ok.1
   have hle:=upL_le ok n (Nat.le_refl _)
   have hby:=upL_byt ok n (Nat.le_refl _)
   have k1:=wnF_con n (by omega)
   have k2:=e_lp n B V D ok
   have k3:=wb_con (upL n B V D n).length (tB (upL n B V D n)) (by omega)
   have k4:=seal_con (upL n B V D n) hby (by omega)
   cases h1:decide ((540:Int)<Int.ofNat (rcT n B V D).length) with
   | true=>exact enB_con n B V D _ _ _ _ _ _ hn k1 k2 k3 k4 h0 h1
   | false=>
     have q:=enC_con n B V D _ _ _ _ _ _ hn k1 k2 k3 k4 h0 h1 (u8_of _)
     rw [bts_eq (slL_byt hby)] at q
     exact q
end Go.Proofs.Ly
