/- Runs over unknown values, told by the kernel: part GA. -/
import Derived.Test.YtfpebgpcpoefpaaGreatDoorSymI
import Derived.Test.YtfpebgpcpoefpaaGreatDoorRows
namespace Go.Sim
open Go Go.Proofs Go.Proofs.YtfpebgpcpoefpaaGreatDoor
noncomputable abbrev PG:=Tryz.prog
end Go.Sim
noncomputable section
open Int (ofNat)
set_option linter.unusedSimpArgs false
set_option linter.unusedVariables false
/- What codec's functions work on. -/
namespace Go.Proofs.Cd
open Go Go.Sim Go.Proofs.YtfpebgpcpoefpaaGreatDoor
def byF (b:Nat->Nat):Nat->Nat->CV:=fun k _=>.i .u8 (ofNat (b k))
def stepN (r:Nat):Nat:=Nat.xor (Nat.shiftRight r 1) (Nat.mul 2197175160 (Nat.land r 1))
def stepsN (n r:Nat):Nat:=Nat.rec (motive:=fun _=>Nat->Nat) (fun r=>r) (fun _ ih r=>ih (stepN r)) n r
def regN (b:Nat->Nat) (n o r:Nat):Nat:=Nat.rec (motive:=fun _=>Nat->Nat->Nat) (fun _ r=>r) (fun _ ih o r=>ih (o+1) (stepsN 8 (Nat.xor r (b o)))) n o r
def sumN (b:Nat->Nat) (n:Nat):Nat:=4294967295-regN b n 0 4294967295
end Go.Proofs.Cd
set_option maxRecDepth 20000
namespace Go.Proofs.Cd
open Go Go.Sim Go.Proofs Go.Proofs.YtfpebgpcpoefpaaGreatDoor
theorem ofInt_nat (w n:Nat):(BitVec.ofInt w (ofNat n)).toNat=n % 2 ^ w:=by
 show (BitVec.ofInt w (n:Int)).toNat= _
 rw [BitVec.ofInt_natCast,BitVec.toNat_ofNat]
theorem xorE {a b:Nat} (ha:a<4294967296) (hb:b<4294967296):wrapA .u32 ↑(BitVec.toNat (BitVec.ofInt 32 (ofNat a) ^^^ BitVec.ofInt 32 (ofNat b)))=ofNat (Nat.xor a b):=by
 rw [BitVec.toNat_xor,ofInt_nat,ofInt_nat,Nat.mod_eq_of_lt (by simpa using ha),Nat.mod_eq_of_lt (by simpa using hb)]
 show ofNat ((a ^^^ b) % 4294967296)= _
 rw [Nat.mod_eq_of_lt (Nat.xor_lt_two_pow (n:=32) ha hb)]
 rfl
theorem orE {a b:Nat} (ha:a<4294967296) (hb:b<4294967296):wrapA .u32 ↑(BitVec.toNat (BitVec.ofInt 32 (ofNat a) ||| BitVec.ofInt 32 (ofNat b)))=ofNat (Nat.lor a b):=by
 rw [BitVec.toNat_or,ofInt_nat,ofInt_nat,Nat.mod_eq_of_lt (by simpa using ha),Nat.mod_eq_of_lt (by simpa using hb)]
 show ofNat ((a ||| b) % 4294967296)= _
 rw [Nat.mod_eq_of_lt (Nat.or_lt_two_pow (n:=32) ha hb)]
 rfl
theorem andE {a b:Nat} (ha:a<4294967296) (hb:b<4294967296):wrapA .u32 ↑(BitVec.toNat (BitVec.ofInt 32 (ofNat a) &&& BitVec.ofInt 32 (ofNat b)))=ofNat (Nat.land a b):=by
 rw [BitVec.toNat_and,ofInt_nat,ofInt_nat,Nat.mod_eq_of_lt (by simpa using ha),Nat.mod_eq_of_lt (by simpa using hb)]
 show ofNat ((a &&& b) % 4294967296)= _
 rw [Nat.mod_eq_of_lt (Nat.lt_of_le_of_lt Nat.and_le_left ha)]
 rfl
theorem wrap32 {m:Nat} (h:m<4294967296):wrapA .u32 (ofNat m)=ofNat m:=by
 show ofNat (m % 4294967296)= _
 rw [Nat.mod_eq_of_lt h]
theorem mulE {m:Nat} (h:m<=1):wrapA .u32 ((2197175160:Int)*ofNat m)=ofNat (Nat.mul 2197175160 m):=by
 show ofNat ((2197175160*m) % 4294967296)=ofNat (2197175160*m)
 rw [Nat.mod_eq_of_lt (by omega)]
theorem shrE (m:Nat):Int.fdiv (ofNat m) 2=ofNat (Nat.shiftRight m 1):=by
 rw [Int.fdiv_eq_ediv_of_nonneg _ (by decide)]
 show ofNat (m / 2)=ofNat (m >>>1)
 rw [Nat.shiftRight_eq_div_pow]
theorem land1 (r:Nat):Nat.land r 1<=1:=Nat.and_le_right (n:=r) (m:=1)
theorem stepN_lt {r:Nat} (h:r<4294967296):stepN r<4294967296:=by
 have h1:Nat.shiftRight r 1<4294967296:=by
  show r >>>1<_
  rw [Nat.shiftRight_eq_div_pow];omega
 have h2:Nat.mul 2197175160 (Nat.land r 1)<4294967296:=by
  have:=land1 r
  show 2197175160*Nat.land r 1<_
  omega
 exact Nat.xor_lt_two_pow (n:=32) h1 h2
theorem stepE {r:Nat} (h:r<4294967296):wrapA IntKind.u32 ↑(BitVec.toNat (BitVec.ofInt 32 (Int.fdiv (ofNat r) 2) ^^^ BitVec.ofInt 32 (wrapA IntKind.u32 ((2197175160:Int)*wrapA IntKind.u32 ↑(BitVec.toNat (BitVec.ofInt 32 (ofNat r) &&& BitVec.ofInt 32 (1:Int)))))))=ofNat (stepN r):=by
 have e1:wrapA IntKind.u32 ↑(BitVec.toNat (BitVec.ofInt 32 (ofNat r) &&& BitVec.ofInt 32 (1:Int)))=ofNat (Nat.land r 1):=andE (b:=1) h (by omega)
 rw [e1,mulE (land1 r),shrE]
 refine xorE ?_ ?_
 · show r >>>1<_
   rw [Nat.shiftRight_eq_div_pow];omega
 · have:=land1 r
   show 2197175160*Nat.land r 1<_
   omega
theorem stepsN_lt:∀(n:Nat) {r:Nat},r<4294967296->stepsN n r<4294967296
 | 0,r,h=>h
 | n+1,r,h=>stepsN_lt n (stepN_lt h)
theorem stepsN_add (r:Nat):∀n,stepsN (n+1) r=stepsN n (stepN r):=fun _=>rfl
theorem regN_lt {b:Nat->Nat} (hb:∀k,b k<256):∀(n o:Nat) {r:Nat},r<4294967296->regN b n o r<4294967296
 | 0,o,r,h=>h
 | n+1,o,r,h=>regN_lt hb n (o+1) (stepsN_lt 8 (Nat.xor_lt_two_pow (n:=32) h (Nat.lt_trans (hb o) (by decide))))
theorem sumN_lt (b:Nat->Nat) (n:Nat):sumN b n<4294967296:=by unfold sumN;omega
theorem sumI_vc (L k i r:Nat) (b:Nat->Nat) (K:Res->Orc->Prop):runK Tryz.prog 1000000 (.code (loopAt Tryz.prog 87 1) 30 (mkT [(3,.i .u32 (ofNat r)),(7,.sv 1 L (byF b)),(8,.i .i64 (ofNat L)),(9,.i .i64 (ofNat k)),(17,.i .i64 (ofNat i))]) (mkH [])) (.s .z .z) K=((fun (q2:AV)=>((fun (q1:AV)=>((fun (q0:AV)=>((decide (ofNat i<8)=true->True/\(0:Int)<=(1:Int)/\True/\True/\rg (ofNat i+1)/\K (.st .nrm (zz0 (zz0 (zz1 q0 (zz1 (.sv 1 L (byF b)) .e (zzl q1)) (zz0 (zzl q2) .e)) (zz0 (zz1 (inv k) (zzl (.i .i64 (ofNat i+1))) (zzl q0)) (zz0 (zzl q2) .e))) (zz0 (zz0 (zz1 (inv L) .e (zzl (.i .u32 (wrapA .u32 (2197175160*wrapA .u32 ↑(BitVec.toNat (BitVec.ofInt 32 (ofNat r) &&& BitVec.ofInt 32 1))))))) (zz0 (zzl q1) .e)) (zz1 q1 (zz0 (zzl (.b (decide (ofNat i<8)))) (zzl (.i .i64 (ofNat i+1)))) (zz0 (zzl (.i .u32 (Int.fdiv (ofNat r) 2))) .e)))) ⟨.e,0,[]⟩) .z)/\(decide (ofNat i<8)=false->K (.st (.exit 2) (zz0 (zz0 (zz1 q2 (zzl (.sv 1 L (byF b))) .e) (zz0 (zz1 (inv k) (zzn i) .e) .e)) (zz0 (zz0 (zzn L) .e) (zz0 (zz0 (zzl (.b (decide (ofNat i<8)))) .e) .e))) ⟨.e,0,[]⟩) .z))) (.i .u32 (wrapA .u32 ↑(BitVec.toNat (BitVec.ofInt 32 (Int.fdiv (ofNat r) 2) ^^^ BitVec.ofInt 32 (wrapA .u32 (2197175160*wrapA .u32 ↑(BitVec.toNat (BitVec.ofInt 32 (ofNat r) &&& BitVec.ofInt 32 1)))))))))) (.i .u32 (wrapA .u32 ↑(BitVec.toNat (BitVec.ofInt 32 (ofNat r) &&& BitVec.ofInt 32 1))))))
 (.i .u32 (ofNat r))):=by kernel_rfl
theorem sumI_lp0 (L k:Nat) (b:Nat->Nat) (r0:Nat) (h0:r0<4294967296):LDoes Tryz.prog (loopAt Tryz.prog 87 1) 30 0 (mkT [(3,.i .u32 (ofNat r0)),(7,.sv 1 L (byF b)),(8,.i .i64 (ofNat L)),(9,.i .i64 (ofNat k)),(17,.i .i64 0)]) [] (.exit 2) (mkT [(3,.i .u32 (ofNat (stepsN 8 r0))),(7,.sv 1 L (byF b)),(8,.i .i64 (ofNat L)),(9,.i .i64 (ofNat k))]) []:=by
 refine loop_ind (D:=Nat×Nat) (l':=[(3,.i .u32 (ofNat (stepsN 8 r0))),(7,.sv 1 L (byF b)),(8,.i .i64 (ofNat L)),(9,.i .i64 (ofNat k))])
  (fun d=>([(3,.i .u32 (ofNat d.2)),(7,.sv 1 L (byF b)),(8,.i .i64 (ofNat L)),(9,.i .i64 (ofNat k)),(17,.i .i64 (ofNat d.1))],[])) (fun d=>8-d.1)
  (fun d=>d.1<=8/\d.2<4294967296/\stepsN (8-d.1) d.2=stepsN 8 r0) ?_ (0,r0) ⟨by simp,h0,rfl⟩
 rintro ⟨i,r⟩ ⟨hi,hr,he⟩
 simp only at hi hr he
 refine ⟨Nat.le_refl _,_,_,(sumI_vc L k i r b _).mpr ⟨fun hlt=>?_,fun hge=>?_⟩⟩
 · have hlt:i<8:=by have:=of_decide_eq_true hlt;simp at this;omega
   rw [stepE hr]
   refine ⟨trivial,by omega,trivial,trivial,⟨by simp;omega,by simp;omega⟩,.inl ⟨(i+1,stepN r),[],[],_,_,⟨hlt,stepN_lt hr,?_⟩,by simp only;omega,rfl,st_k [] (by kernel_rfl)⟩⟩
   simp only
   rw [<-stepsN_add,<-he];congr 1;omega
 · have:i=8:=by simp at hge;omega
   subst this
   have he':r=stepsN 8 r0:=he
   subst he'
   exact .inr ⟨[],[],_,_,rfl,by simp,st_k [] (by kernel_rfl)⟩
theorem sumI_lp (L k:Nat) (x:Int) (b:Nat->Nat) (r0:Nat) (hx:x=ofNat r0) (h0:r0<4294967296):LDoes Tryz.prog (loopAt Tryz.prog 87 1) 30 0 (mkT [(3,.i .u32 x),(7,.sv 1 L (byF b)),(8,.i .i64 (ofNat L)),(9,.i .i64 (ofNat k)),(17,.i .i64 0)]) [] (.exit 2) (mkT [(3,.i .u32 (ofNat (stepsN 8 x.toNat))),(7,.sv 1 L (byF b)),(8,.i .i64 (ofNat L)),(9,.i .i64 (ofNat k))]) []:=by
 subst hx
 exact sumI_lp0 L k b r0 h0
theorem sumL_vc (L k r:Nat) (b:Nat->Nat) (K:Res->Orc->Prop):runK Tryz.prog 1000000 (.code (loopAt Tryz.prog 87 0) 30 (mkT [(3,.i .u32 (ofNat r)),(7,.sv 1 L (byF b)),(8,.i .i64 (ofNat L)),(9,.i .i64 (ofNat k))]) (mkH [])) (.s (.lop [] [3,7,8,9,17] 0 (.exit 2) [(3,.i .u32 (ofNat (stepsN 8 (Int.toNat (wrapA .u32 ↑(BitVec.toNat (BitVec.ofInt 32 (ofNat r) ^^^ BitVec.ofInt 32 (wrapA .u32 (ofNat (b k)))))))))),(7,.sv 1 L (byF b)),(8,.i .i64 (ofNat L)),(9,.i .i64 (ofNat k))] [] .z) .z) K=((fun (q0:Int)=>((decide (ofNat k<ofNat L)=true->(0<=ofNat k/\ofNat k<↑L)/\True/\True/\True/\LDoes Tryz.prog (loopAt Tryz.prog 87 1) 30 0 (mkT [(3,.i .u32 (wrapA .u32 ↑(BitVec.toNat (BitVec.ofInt 32 (ofNat r) ^^^ BitVec.ofInt 32 (wrapA .u32 (ofNat (b k))))))),(7,.sv 1 L (byF b)),(8,.i .i64 (ofNat L)),(9,.i .i64 (ofNat k)),(17,.i .i64 0)]) [] (.exit 2) (mkT [(3,.i .u32 q0),(7,.sv 1 L (byF b)),(8,.i .i64 (ofNat L)),(9,.i .i64 (ofNat k))]) []/\rg (ofNat k+1)/\K (.st .nrm (zz0 (zz0 (zz1 (.i .u32 q0) (zzl (.sv 1 L (byF b))) (zz0 .e (zzl (.i .i64 (ofNat k+1))))) (zz0 (zzl (.i .i64 (ofNat k+1))) .e)) (zz0 (zz0 (zzn L) .e) .e)) ⟨.e,0,[]⟩) .z)/\(decide (ofNat k<ofNat L)=false->K (.st (.exit 0) (zz0 (zz0 (zz1 (.i .u32 (ofNat r)) (zzl (.sv 1 L (byF b))) .e) (zz0 (zzn k) .e)) (zz0 (zz0 (zzn L) .e) (zz0 (zzl (.b (decide (ofNat k <
 ofNat L)))) .e))) ⟨.e,0,[]⟩) .z))) (ofNat (stepsN 8 (Int.toNat (wrapA .u32 ↑(BitVec.toNat (BitVec.ofInt 32 (ofNat r) ^^^ BitVec.ofInt 32 (wrapA .u32 (ofNat (b k)))))))))):=by kernel_rfl
theorem xorB {r k:Nat} {b:Nat->Nat} (hr:r<4294967296) (hb:b k<256):wrapA IntKind.u32 ↑(BitVec.toNat (BitVec.ofInt 32 (ofNat r) ^^^ BitVec.ofInt 32 (wrapA IntKind.u32 (ofNat (b k)))))=ofNat (Nat.xor r (b k)):=by
 rw [wrap32 (by omega)]
 exact xorE hr (by omega)
theorem sumL_lp (L:Nat) (b:Nat->Nat) (hL:L<4611686018427387904) (hb:∀k,b k<256):LDoes Tryz.prog (loopAt Tryz.prog 87 0) 30 0 (mkT [(3,.i .u32 4294967295),(7,.sv 1 L (byF b)),(8,.i .i64 (ofNat L)),(9,.i .i64 0)]) [] (.exit 0) (mkT [(3,.i .u32 (ofNat (regN b L 0 4294967295)))]) []:=by
 refine loop_ind (D:=Nat×Nat) (l':=[(3,.i .u32 (ofNat (regN b L 0 4294967295)))])
  (fun d=>([(3,.i .u32 (ofNat d.2)),(7,.sv 1 L (byF b)),(8,.i .i64 (ofNat L)),(9,.i .i64 (ofNat d.1))],[])) (fun d=>L-d.1)
  (fun d=>d.1<=L/\d.2<4294967296/\regN b (L-d.1) d.1 d.2=regN b L 0 4294967295) ?_ (0,4294967295) ⟨by simp,by simp,rfl⟩
 rintro ⟨k,r⟩ ⟨hk,hr,he⟩
 simp only at hk hr he
 have hx:=Nat.xor_lt_two_pow (n:=32) hr (Nat.lt_trans (hb k) (by decide))
 refine ⟨Nat.le_refl _,_,_,(sumL_vc L k r b _).mpr ⟨fun hlt=>?_,fun hge=>?_⟩⟩
 · have hlt:k<L:=by simpa using hlt
   rw [xorB hr (hb k)]
   refine ⟨⟨by simp,by simp;omega⟩,trivial,trivial,trivial,sumI_lp _ _ _ _ _ rfl hx,⟨by simp;omega,by simp;omega⟩,.inl ⟨(k+1,stepsN 8 (Nat.xor r (b k))),[],[],_,_,⟨hlt,stepsN_lt 8 hx,?_⟩,by simp only;omega,rfl,st_k [] (by kernel_rfl)⟩⟩
   simp only
   rw [<-he,show L-k=(L-(k+1))+1 by omega]
   rfl
 · have:k=L:=by simp at hge;omega
   subst this
   have he':r=regN b k 0 4294967295:=by rw [Nat.sub_self] at he;exact he
   subst he'
   exact .inr ⟨[],[],_,_,rfl,by simp,st_k [] (by kernel_rfl)⟩
theorem sum_vc (L:Nat) (b:Nat->Nat) (K:Res->Orc->Prop):runK Tryz.prog 1000000 (.call 87 [.sv 1 L (byF b)] (mkH [])) (.lop [] [3,7,8,9] 0 (.exit 0) [(3,.i .u32 (ofNat (regN b L 0 4294967295)))] [] .z) K=(LDoes Tryz.prog (loopAt Tryz.prog 87 0) 30 0 (mkT [(3,.i .u32 4294967295),(7,.sv 1 L (byF b)),(8,.i .i64 (ofNat L)),(9,.i .i64 0)]) [] (.exit 0) (mkT [(3,.i .u32 (ofNat (regN b L 0 4294967295)))]) []/\True/\K (.rv (.i .u32 (wrapA .u32 ↑(BitVec.toNat (BitVec.ofInt 32 4294967295 ^^^ BitVec.ofInt 32 (ofNat (regN b L 0 4294967295)))))) ⟨.e,0,[]⟩) .z):=by kernel_rfl
theorem notE {r:Nat} (h:r<4294967296):Nat.xor 4294967295 r=4294967295-r:=by
 have:(~~~ (BitVec.ofNat 32 r)).toNat=2 ^ 32-1-r:=by
  rw [BitVec.toNat_not,BitVec.toNat_ofNat,Nat.mod_eq_of_lt (by simpa using h)]
 rw [<-BitVec.allOnes_xor,BitVec.toNat_xor,BitVec.toNat_ofNat,Nat.mod_eq_of_lt (by simpa using h)] at this
 exact this
theorem sum_con (L:Nat) (b:Nat->Nat) (hL:L<4611686018427387904) (hb:∀k,b k<256):Con Tryz.prog 87 [.sv 1 L (byF b)] [] (.i .u32 (ofNat (sumN b L))) []:=by
 refine con_plain rfl ((sum_vc L b _).mpr ⟨sumL_lp L b hL hb,trivial,_,_,rfl,?_⟩)
 have hr:=regN_lt hb L 0 (r:=4294967295) (by decide)
 have e:wrapA IntKind.u32 ↑(BitVec.toNat (BitVec.ofInt 32 (4294967295:Int) ^^^ BitVec.ofInt 32 (ofNat (regN b L 0 4294967295))))=ofNat (Nat.xor 4294967295 (regN b L 0 4294967295)):=xorE (a:=4294967295) (by decide) hr
 rw [e,notE hr];rfl
def cvN (c:CV):Nat:=match c with
 | .i _ n=>n.toNat
 | _=>0
def bOf (f:Nat->Nat->CV):Nat->Nat:=fun k=>cvN (f k 0)
def IsBy (L:Nat) (f:Nat->Nat->CV):Prop:=∀k,k<L->f k 0=.i .u8 (ofNat (bOf f k))/\bOf f k<256
theorem IsBy.of {L:Nat} {b:Nat->Nat} (h:∀k,k<L->b k<256):IsBy L (byF b):=fun k hk=>⟨rfl,h k hk⟩
theorem IsBy.le {L M:Nat} {f:Nat->Nat->CV} (h:IsBy L f) (hm:M<=L):IsBy M f:=fun k hk=>h k (by omega)
theorem regN_congr {b b':Nat->Nat}:∀(n o r:Nat),(∀k,o<=k->k<o+n->b k=b' k)->regN b n o r=regN b' n o r
 | 0,_,_,_=>rfl
 | n+1,o,r,h=>by
   show regN b n (o+1) (stepsN 8 (Nat.xor r (b o)))=regN b' n (o+1) (stepsN 8 (Nat.xor r (b' o)))
   rw [h o (Nat.le_refl _) (by omega)]
   exact regN_congr n (o+1) _ fun k h1 h2=>h k (by omega) (by omega)
theorem sumN_congr {b b':Nat->Nat} {n:Nat} (h:∀k,k<n->b k=b' k):sumN b n=sumN b' n:=by
 unfold sumN;rw [regN_congr n 0 _ fun k _ hk=>h k (by omega)]
theorem sumf_con (L:Nat) (gg:Nat->Nat->CV) (hL:L<4611686018427387904) (h:IsBy L gg):Con Tryz.prog 87 [.sv 1 L gg] [] (.i .u32 (ofNat (sumN (bOf gg) L))) []:=by
 have e:sumN (bOf gg) L=sumN (fun k=>bOf gg k % 256) L:=sumN_congr fun k hk=>(Nat.mod_eq_of_lt (h k hk).2).symm
 rw [e]
 refine (sum_con L (fun k=>bOf gg k % 256) hL fun k=>Nat.mod_lt _ (by decide)).pre ⟨.sv fun i j hi hj=>?_,trivial⟩
 obtain rfl:j=0:=by omega
 show gg i 0=.i .u8 (ofNat (bOf gg i % 256))
 rw [Nat.mod_eq_of_lt (h i hi).2]
 exact (h i hi).1
def fourB (n:Nat):Nat->Nat:=fun k=>Nat.mod (Nat.div n (Nat.pow 256 k)) 256
def four1 (b:Nat->Nat):Nat:=b 0+b 1*256+b 2*65536+b 3*16777216
theorem fourB_lt (n k:Nat):fourB n k<256:=Nat.mod_lt _ (by decide)
theorem four1_four {n:Nat} (h:n<4294967296):four1 (fourB n)=n:=by
 show n / 256 ^ 0 % 256+n / 256 ^ 1 % 256*256+n / 256 ^ 2 % 256*65536+n / 256 ^ 3 % 256*16777216=n
 simp only [Nat.pow_zero,Nat.div_one,show (256:Nat) ^ 1=256 from rfl,show (256:Nat) ^ 2=65536 from rfl,show (256:Nat) ^ 3=16777216 from rfl]
 omega
theorem four1_lt {b:Nat->Nat} (h:∀k,k<4->b k<256):four1 b<4294967296:=by
 have h0:=h 0 (by omega);have h1:=h 1 (by omega);have h2:=h 2 (by omega);have h3:=h 3 (by omega)
 unfold four1;omega
theorem four1_congr {b b':Nat->Nat} (h:∀k,k<4->b k=b' k):four1 b=four1 b':=by
 unfold four1;rw [h 0 (by omega),h 1 (by omega),h 2 (by omega),h 3 (by omega)]
theorem four_vc (n:Nat) (K:Res->Orc->Prop):runK Tryz.prog 1000000 (.call 86 [.i .u32 (ofNat n)] (mkH [])) (.z) K=(True/\(0:Int)<=(8:Int)/\True/\(0:Int)<=(16:Int)/\True/\(0:Int)<=(24:Int)/\True/\K (.rv (.l 0 0 4 4 1 true) ⟨zzl (AObj.cells 5 4 [] (zz1 (.i .u8 (wrapA .u8 (ofNat n))) (zz1 (.i .u8 (wrapA .u8 (Int.fdiv (ofNat n) 256))) (zzl (.i .u8 (wrapA .u8 (Int.fdiv (ofNat n) 16777216)))) .e) (zzl (.i .u8 (wrapA .u8 (Int.fdiv (ofNat n) 65536)))))),1,[0]⟩) .z):=by kernel_rfl
theorem fourE (n k m:Nat) (h:m=256 ^ k):wrapA IntKind.u8 (Int.fdiv (ofNat n) (ofNat m))=ofNat (fourB n k):=by
 rw [Int.fdiv_eq_ediv_of_nonneg _ (by simp)]
 show ofNat (n / m % 256)=ofNat (n / 256 ^ k % 256)
 rw [h]
theorem four_con (n:Nat):Con Tryz.prog 86 [.i .u32 (ofNat n)] [] (.sv 1 4 (byF (fourB n))) [.gone]:=by
 have h:Con Tryz.prog 86 [.i .u32 (ofNat n)] [] (.l 0 0 4 4 1 true) [.set (cellsO 5 [.i .u8 (ofNat (fourB n 0)),.i .u8 (ofNat (fourB n 1)),.i .u8 (ofNat (fourB n 2)),.i .u8 (ofNat (fourB n 3))])]:=by
  refine con_of_run [] [0] ((four_vc n _).mpr ?_)
  have e0:wrapA IntKind.u8 (ofNat n)=ofNat (fourB n 0):=by
   show ofNat (n % 256)=ofNat (n / 256 ^ 0 % 256)
   simp
  have e1:wrapA IntKind.u8 (Int.fdiv (ofNat n) 256)=ofNat (fourB n 1):=fourE n 1 256 rfl
  have e2:wrapA IntKind.u8 (Int.fdiv (ofNat n) 65536)=ofNat (fourB n 2):=fourE n 2 65536 rfl
  have e3:wrapA IntKind.u8 (Int.fdiv (ofNat n) 16777216)=ofNat (fourB n 3):=fourE n 3 16777216 rfl
  rw [e0,e1,e2,e3]
  exact ⟨trivial,by decide,trivial,by decide,trivial,by decide,trivial,_,_,rfl,ret_k (by kernel_rfl)⟩
 have h2:Con Tryz.prog 86 [.i .u32 (ofNat n)] [] (.lr 0 1 0 4 true) [.set (.rows 5 1 4 (byF (fourB n)))]:=h.post .l_lrE ⟨.x (OX.cellsRows rfl fun i hi=>by
  have:i=0\/i=1\/i=2\/i=3:=by omega
  rcases this with rfl | rfl | rfl | rfl<;>exact ⟨_,rfl,fun ρ x hx=>by cases hx;exact .i _ _⟩),trivial⟩
 exact (h2.freeze (us':=[.gone]) (v':=.sv 1 4 (shiftF 0 (byF (fourB n)))) 0 rfl ⟨rfl,trivial⟩ (.inr ⟨by kernel_rfl,rfl,by omega⟩)).post (.svW fun i j _ _=>.of rfl) (OVL.refl _)
theorem ofFour_vc (L:Nat) (b:Nat->Nat) (K:Res->Orc->Prop):runK Tryz.prog 1000000 (.call 152 [.sv 1 L (byF b)] (mkH [])) (.s .z .z) K=((decide (ofNat L<4)=true->K (.rv (.tup [.i .u32 0,.b false]) ⟨.e,0,[]⟩) .z)/\(decide (ofNat L<4)=false->((0:Int)<=(0:Int)/\(0:Int)<↑L)/\True/\True/\((0:Int)<=(1:Int)/\(1:Int)<↑L)/\True/\True/\(0:Int)<=(8:Int)/\True/\((0:Int)<=(2:Int)/\(2:Int)<↑L)/\True/\True/\(0:Int)<=(16:Int)/\True/\((0:Int)<=(3:Int)/\(3:Int)<↑L)/\True/\True/\(0:Int)<=(24:Int)/\True/\K (.rv (.tup [.i .u32 (wrapA .u32 ↑(BitVec.toNat (BitVec.ofInt 32 (wrapA .u32 ↑(BitVec.toNat (BitVec.ofInt 32 (wrapA .u32 ↑(BitVec.toNat (BitVec.ofInt 32 (wrapA .u32 (ofNat (b 0))) ||| BitVec.ofInt 32 (wrapA .u32 (wrapA .u32 (ofNat (b 1))*256))))) ||| BitVec.ofInt 32 (wrapA .u32 (wrapA .u32 (ofNat (b 2))*65536))))) ||| BitVec.ofInt 32 (wrapA .u32 (wrapA .u32 (ofNat (b 3))*16777216))))),.b true]) ⟨.e,0,[]⟩) .z)):=by kernel_rfl
theorem orB {a m s x:Nat} (ha:a<m) (hm:m=2 ^ s) (hx:m*x<4294967296) (ha':a<4294967296):wrapA .u32 ↑(BitVec.toNat (BitVec.ofInt 32 (ofNat a) ||| BitVec.ofInt 32 (ofNat (m*x))))=ofNat (a+x*m):=by
 rw [orE ha' hx]
 congr 1
 show a ||| m*x= _
 rw [Nat.or_comm,hm,<-Nat.two_pow_add_eq_or_of_lt (by omega),Nat.add_comm,Nat.mul_comm]
theorem mulS {x m:Nat} (h:m*x<4294967296) (hx:x<4294967296):wrapA .u32 (wrapA .u32 (ofNat x)*ofNat m)=ofNat (m*x):=by
 rw [wrap32 hx]
 show ofNat ((x*m) % 4294967296)= _
 rw [Nat.mul_comm,Nat.mod_eq_of_lt h]
theorem ofFour1_con (L:Nat) (b:Nat->Nat) (hL:4<=L) (hb:∀k,k<4->b k<256):Con Tryz.prog 152 [.sv 1 L (byF b)] [] (.tup [.i .u32 (ofNat (four1 b)),.b true]) []:=by
 have h0:=hb 0 (by omega);have h1:=hb 1 (by omega);have h2:=hb 2 (by omega);have h3:=hb 3 (by omega)
 have e1:=mulS (x:=b 1) (m:=256) (by omega) (by omega)
 have e2:=mulS (x:=b 2) (m:=65536) (by omega) (by omega)
 have e3:=mulS (x:=b 3) (m:=16777216) (by omega) (by omega)
 have o1:=orB (a:=b 0) (m:=256) (s:=8) (x:=b 1) h0 rfl (by omega) (by omega)
 have o2:=orB (a:=b 0+b 1*256) (m:=65536) (s:=16) (x:=b 2) (by omega) rfl (by omega) (by omega)
 have o3:=orB (a:=b 0+b 1*256+b 2*65536) (m:=16777216) (s:=24) (x:=b 3) (by omega) rfl (by omega) (by omega)
 have d:decide (ofNat L<4)=false:=by simp;omega
 refine con_plain rfl ((ofFour_vc L b _).mpr ⟨fun h=>by rw [d] at h;simp at h,fun _=>?_⟩)
 have f1:wrapA IntKind.u32 (wrapA IntKind.u32 (ofNat (b 1))*256)=ofNat (256*b 1):=e1
 have f2:wrapA IntKind.u32 (wrapA IntKind.u32 (ofNat (b 2))*65536)=ofNat (65536*b 2):=e2
 have f3:wrapA IntKind.u32 (wrapA IntKind.u32 (ofNat (b 3))*16777216)=ofNat (16777216*b 3):=e3
 rw [f1,f2,f3,wrap32 (by omega:b 0<4294967296),o1,o2,o3]
 exact ⟨⟨by decide,by omega⟩,trivial,trivial,⟨by decide,by omega⟩,trivial,trivial,by decide,trivial,⟨by decide,by omega⟩,trivial,trivial,by decide,trivial,⟨by decide,by omega⟩,trivial,trivial,by decide,trivial,_,_,rfl,rfl⟩
theorem IsBy.vw {L:Nat} {gg:Nat->Nat->CV} (h:IsBy L gg):VW (.sv 1 L gg) (.sv 1 L (byF (bOf gg))):=.sv fun i j hi hj=>by
 obtain rfl:j=0:=by omega
 exact (h i hi).1
theorem ofFour_con (L:Nat) (gg:Nat->Nat->CV) (hL:4<=L) (h:IsBy L gg):Con Tryz.prog 152 [.sv 1 L gg] [] (.tup [.i .u32 (ofNat (four1 (bOf gg))),.b true]) []:=
 (ofFour1_con L (bOf gg) hL fun k hk=>(h k (by omega)).2).pre ⟨h.vw,trivial⟩
def trR (b:Nat->Nat) (n:Nat):Nat:=Nat.rec (motive:=fun _=>Nat) 0 (fun n ih=>bif Nat.beq (b n) 0 then ih else n+1) n
def trLN (b:Nat->Nat) (n:Nat):Nat:=Nat.rec (motive:=fun _=>(Nat->Nat)->Nat) (fun _=>0) (fun n ih b=>bif Nat.beq (b 0) 0 then ih (fun k=>b (1+k)) else n+1) n b
def trLB (b:Nat->Nat) (n:Nat):Nat->Nat:=Nat.rec (motive:=fun _=>(Nat->Nat)->Nat->Nat) (fun b=>b) (fun n ih b=>bif Nat.beq (b 0) 0 then ih (fun k=>b (1+k)) else b) n b
theorem trR_s (b:Nat->Nat) (n:Nat):trR b (n+1)=bif Nat.beq (b n) 0 then trR b n else n+1:=rfl
theorem trLN_s (b:Nat->Nat) (n:Nat):trLN b (n+1)=bif Nat.beq (b 0) 0 then trLN (fun k=>b (1+k)) n else n+1:=rfl
theorem trLB_s (b:Nat->Nat) (n:Nat):trLB b (n+1)=bif Nat.beq (b 0) 0 then trLB (fun k=>b (1+k)) n else b:=rfl
theorem trR_le (b:Nat->Nat):∀n,trR b n<=n
 | 0=>Nat.le_refl 0
 | n+1=>by
   rw [trR_s]
   cases Nat.beq (b n) 0
   · exact Nat.le_refl _
   · exact Nat.le_trans (trR_le b n) (Nat.le_succ n)
theorem trR_zero (b:Nat->Nat):∀n,trR b n=0↔∀k,k<n->b k=0
 | 0=>⟨fun _ k hk=>by omega,fun _=>rfl⟩
 | n+1=>by
   rw [trR_s]
   cases hb:Nat.beq (b n) 0 with
   | true=>
     have e:=Nat.eq_of_beq_eq_true hb
     show trR b n=0↔_
     rw [trR_zero b n]
     refine ⟨fun h k hk=>?_,fun h k hk=>h k (by omega)⟩
     by_cases c:k=n
     · subst c;exact e
     · exact h k (by omega)
   | false=>
     have e:b n≠0:=by rintro e;rw [e] at hb;simp at hb
     exact ⟨fun h=>by simp at h,fun h=>absurd (h n (by omega)) e⟩
theorem trLN_zero:∀(n:Nat) (b:Nat->Nat),trLN b n=0↔∀k,k<n->b k=0
 | 0,b=>⟨fun _ k hk=>by omega,fun _=>rfl⟩
 | n+1,b=>by
   rw [trLN_s]
   cases hb:Nat.beq (b 0) 0 with
   | true=>
     have e:=Nat.eq_of_beq_eq_true hb
     show trLN (fun k=>b (1+k)) n=0↔_
     rw [trLN_zero n]
     refine ⟨fun h k hk=>?_,fun h k hk=>h (1+k) (by omega)⟩
     cases k with
     | zero=>exact e
     | succ k=>have:=h k (by omega);rw [Nat.add_comm] at this;exact this
   | false=>
     have e:b 0≠0:=by rintro e;rw [e] at hb;simp at hb
     exact ⟨fun h=>by simp at h,fun h=>absurd (h 0 (by omega)) e⟩
def trN (b:Nat->Nat) (n:Nat):Nat:=trLN b (trR b n)
def trB (b:Nat->Nat) (n:Nat):Nat->Nat:=trLB b (trR b n)
theorem trN_zero (b:Nat->Nat) (n:Nat):trN b n=0↔∀k,k<n->b k=0:=by
 unfold trN
 rw [trLN_zero]
 refine ⟨fun h=>(trR_zero b n).1 ?_,fun h k hk=>h k (Nat.lt_of_lt_of_le hk (trR_le b n))⟩
 -- the last one left is not 0
 have last:∀m,trR b m≠0->b (trR b m-1)≠0:=by
  intro m
  induction m with
  | zero=>intro h;exact absurd rfl h
  | succ m ih=>
    rw [trR_s]
    cases hb:Nat.beq (b m) 0 with
    | true=>exact ih
    | false=>
      intro _
      show b (m+1-1)≠0
      rintro e
      rw [Nat.add_sub_cancel] at e
      rw [e] at hb;simp at hb
 apply Classical.byContradiction
 intro hn
 exact last n hn (h (trR b n-1) (by omega))
theorem trR_vc (L:Nat) (b:Nat->Nat) (K:Res->Orc->Prop):runK Tryz.prog 1000000 (.code (loopAt Tryz.prog 186 0) 24 (mkT [(0,.sv 1 L (byF b)),(1,.i .u8 0)]) (mkH [])) (.s (ot 8 (.s .z .z)) (of_ 8 (.c .z))) K=((fun (q2:AV)=>((fun (q1:AV)=>((fun (q0:Nat)=>((decide (0<ofNat L)=true->decide (0<ofNat L)=true/\decide (0<ofNat L)=true/\decide (0<ofNat L)=true/\rg (ofNat L-1)/\decide (0<ofNat L)=true/\(0<=ofNat L-1/\ofNat L-(1:Int)<↑L)/\decide (0<ofNat L)=true/\True/\decide (0<ofNat L)=true/\decide (0<ofNat L)=true/\decide (0<ofNat L)=true/\(decide (ofNat (b q0)=0)=true->rg (ofNat L-1)/\(True/\0<=ofNat L-1/\0<=Int.toNat (ofNat L-1)/\Int.toNat (ofNat L-1)<=L)/\K (.st .nrm (zz1 (.sv 1 q0 (byF b)) (zz1 (.i .u8 0) (zz0 (zz1 q1 (zzl (.i .u8 0)) .e) (zz1 (inv L) (zzl (.sv 1 L (byF b))) .e)) (zz1 (.sv 1 L (byF b)) (zz1 (.sv 1 L (byF b)) (zzl (.b (decide (ofNat (b q0)=0)))) .e) (zz1 (.pv 1 (byF b q0)) (zzl q2) .e))) (zz0 (zz0 (zz1 q1 (zzl (.b (decide (ofNat (b q0)=0)))) .e) (zz1 q2 (zzn L) .e)) (zz1 (inv L) (zz1 (.sv 1 L (byF b)) (zzl (.sv 1 L (byF b))) .e) (zz1 (.i .u8 (ofNat (b q0))) (zzl (.sv 1 q0 (byF b))) .e)))) ⟨.e,0,[]⟩) .z)/\(decide (ofNat (b q0)=0)=false->K (.st (.exit 0) (zz1 (.sv 1 L (byF b)) (zz1 (.i .u8 0) (zz0 (zz1 q1 (zzl (.i .u8 0)) .e) (zzn L)) (zz1 (.sv 1 L (byF b)) (zz1 (.sv
 1 L (byF b)) (zzl (.b (decide (ofNat (b q0)=0)))) .e) (zzl (.pv 1 (byF b q0))))) (zz0 (zz0 (zz1 q1 (zzl (.b (decide (ofNat (b q0)=0)))) .e) (zzl q2)) (zz1 (inv L) (zzl (.sv 1 L (byF b))) (zzl (.i .u8 (ofNat (b q0))))))) ⟨.e,0,[]⟩) .z))/\(decide (0<ofNat L)=false->decide (0<ofNat L)=false/\decide (0<ofNat L)=false/\decide (0<ofNat L)=false/\decide (0<ofNat L)=false/\decide (0<ofNat L)=false/\decide (0<ofNat L)=false/\decide (0<ofNat L)=false/\decide (0<ofNat L)=false/\K (.st (.exit 0) (zz1 (.sv 1 L (byF b)) (zz1 (.i .u8 0) (zz0 (zz1 q1 zzu .e) zzu) (zz1 (.sv 1 L (byF b)) (zz1 (.tup []) (zzl (.b false)) .e) zzu)) (zz0 (zz0 (zz1 q1 zzu .e) zzu) (zz1 (inv L) zzu zzu))) ⟨.e,0,[]⟩) .z))) (Int.toNat (ofNat L-1)))) (.b (decide (0<ofNat L))))) (.i .i64 (ofNat L-1))):=by kernel_rfl
theorem trR_lp (L:Nat) (b:Nat->Nat) (hL:L<4611686018427387904):LDoes Tryz.prog (loopAt Tryz.prog 186 0) 24 0 (mkT [(0,.sv 1 L (byF b)),(1,.i .u8 0)]) [] (.exit 0) (mkT [(0,.sv 1 (trR b L) (byF b))]) []:=by
 refine loop_ind (D:=Nat) (l':=[(0,.sv 1 (trR b L) (byF b))]) (fun d=>([(0,.sv 1 d (byF b)),(1,.i .u8 0)],[])) (fun d=>d)
  (fun d=>d<=L/\trR b d=trR b L) ?_ L ⟨Nat.le_refl _,rfl⟩
 rintro k ⟨hk,he⟩
 refine ⟨Nat.le_refl _,_,_,(trR_vc k b _).mpr ⟨fun hlt=>?_,fun hge=>?_⟩⟩
 · have hpos:0<k:=by have:=of_decide_eq_true hlt;simp at this;omega
   obtain ⟨k,rfl⟩:∃m,k=m+1:=⟨k-1,by omega⟩
   have e1:ofNat (k+1)-1=ofNat k:=by simp
   have e2:(ofNat (k+1)-1).toNat=k:=by rw [e1];rfl
   rw [trR_s] at he
   rw [e2,e1]
   refine ⟨hlt,hlt,hlt,⟨by simp<;>omega,by simp<;>omega⟩,hlt,⟨by simp,by simp<;>omega⟩,hlt,trivial,hlt,hlt,hlt,fun hz=>?_,fun hz=>?_⟩
   · have hz':Nat.beq (b k) 0=true:=by have:=of_decide_eq_true hz;simp at this;rw [this];rfl
     rw [hz'] at he
     exact ⟨⟨by simp<;>omega,by simp<;>omega⟩,⟨trivial,by simp,Nat.zero_le _,by omega⟩,.inl ⟨k,[],[],_,_,⟨by omega,he⟩,by simp,rfl,st_k [] (by kernel_rfl)⟩⟩
   · have hz':Nat.beq (b k) 0=false:=by
      have:=of_decide_eq_false hz
      cases hb:Nat.beq (b k) 0 with
      | false=>rfl
      | true=>exact absurd (by rw [Nat.eq_of_beq_eq_true hb];rfl) this
     rw [hz'] at he
     have he':k+1=trR b L:=he
     rw [<-he']
     exact .inr ⟨[],[],_,_,rfl,by simp,st_k [] (by kernel_rfl)⟩
 · have:k=0:=by have:=of_decide_eq_false hge;simp at this;omega
   subst this
   rw [<-he]
   refine ⟨hge,hge,hge,hge,hge,hge,hge,hge,?_⟩
   exact .inr ⟨[],[],_,_,rfl,by simp,st_k [] (by kernel_rfl)⟩
theorem trL_vc (L:Nat) (b:Nat->Nat) (K:Res->Orc->Prop):runK Tryz.prog 1000000 (.code (loopAt Tryz.prog 185 0) 21 (mkT [(0,.sv 1 L (byF b)),(1,.i .u8 0)]) (mkH [])) (.s (ot 5 (.s .z .z)) (of_ 5 (.c .z))) K=((fun (q1:AV)=>((fun (q0:AV)=>((decide (0<ofNat L)=true->decide (0<ofNat L)=true/\((0:Int)<=(0:Int)/\(0:Int)<↑L)/\decide (0<ofNat L)=true/\True/\decide (0<ofNat L)=true/\decide (0<ofNat L)=true/\decide (0<ofNat L)=true/\(decide (ofNat (b 0)=0)=true->((0:Int)<=(1:Int)/\True/\1<=L/\L<=L)/\K (.st .nrm (zz1 (.sv 1 (L-1) (shiftF 1 (byF b))) (zz1 (.i .u8 0) (zz0 (zz1 q0 (zzl (.sv 1 L (byF b))) .e) (zzl (.i .u8 (ofNat (b 0))))) (zz1 (.sv 1 L (byF b)) (zzl (.sv 1 L (byF b))) (zzl q1))) (zz0 (zz0 (zz1 q0 (zzl (.sv 1 (L-1) (shiftF 1 (byF b)))) .e) (zzl (.i .u8 0))) (zz1 (inv L) (zzl (.pv 1 (byF b 0))) (zzl q1)))) ⟨.e,0,[]⟩) .z)/\(decide (ofNat (b 0)=0)=false->K (.st (.exit 0) (zz1 (.sv 1 L (byF b)) (zz1 (.i .u8 0) (zz0 (zzl q0) (zzl (.i .u8 (ofNat (b 0))))) (zz1 (.sv 1 L (byF b)) (zzl (.sv 1 L (byF b))) (zzl q1))) (zz0 (zz0 (zzl q0) (zzl (.i .u8 0))) (zz1 (inv L) (zzl (.pv 1 (byF b 0))) (zzl q1)))) ⟨.e,0,[]⟩) .z))/\(decide (0<ofNat L)=false->decide (0<ofNat L)=false/\decide (0<ofNat L)=false/\decide (0<ofNat L)=false/\decide (0<ofNat L)=false/\decide (0<ofNat L)=false/\K (.st (.exit 0) (zz1 (.sv 1
 L (byF b)) (zz1 (.i .u8 0) (zz0 (zzl q0) zzu) (zz1 (.sv 1 L (byF b)) zzu zzu)) (zz0 (zz0 (zzl q0) zzu) (zz1 (inv L) zzu (zzl (.b false))))) ⟨.e,0,[]⟩) .z))) (.b (decide (0<ofNat L))))) (.b (decide (ofNat (b 0)=0)))):=by kernel_rfl
theorem trL_lp (L0:Nat) (b0:Nat->Nat) (hL:L0<4611686018427387904):LDoes Tryz.prog (loopAt Tryz.prog 185 0) 21 0 (mkT [(0,.sv 1 L0 (byF b0)),(1,.i .u8 0)]) [] (.exit 0) (mkT [(0,.sv 1 (trLN b0 L0) (byF (trLB b0 L0)))]) []:=by
 refine loop_ind (D:=Nat×(Nat->Nat)) (l':=[(0,.sv 1 (trLN b0 L0) (byF (trLB b0 L0)))]) (fun d=>([(0,.sv 1 d.1 (byF d.2)),(1,.i .u8 0)],[])) (fun d=>d.1)
  (fun d=>d.1<=L0/\trLN d.2 d.1=trLN b0 L0/\trLB d.2 d.1=trLB b0 L0) ?_ (L0,b0) ⟨Nat.le_refl _,rfl,rfl⟩
 rintro ⟨k,b⟩ ⟨hk,he,hf⟩
 simp only at hk he hf
 refine ⟨Nat.le_refl _,_,_,(trL_vc k b _).mpr ⟨fun hlt=>?_,fun hge=>?_⟩⟩
 · have hpos:0<k:=by have:=of_decide_eq_true hlt;simp at this;omega
   obtain ⟨k,rfl⟩:∃m,k=m+1:=⟨k-1,by omega⟩
   rw [trLN_s] at he
   rw [trLB_s] at hf
   refine ⟨hlt,⟨by decide,by omega⟩,hlt,trivial,hlt,hlt,hlt,fun hz=>?_,fun hz=>?_⟩
   · have hz':Nat.beq (b 0) 0=true:=by have:=of_decide_eq_true hz;simp at this;rw [this];rfl
     rw [hz'] at he hf
     exact ⟨⟨by decide,trivial,by omega,by omega⟩,.inl ⟨(k,fun i=>b (1+i)),[],[],_,_,⟨by simp only;omega,he,hf⟩,by simp,rfl,st_k [] (by kernel_rfl)⟩⟩
   · have hz':Nat.beq (b 0) 0=false:=by
      have:=of_decide_eq_false hz
      cases hb:Nat.beq (b 0) 0 with
      | false=>rfl
      | true=>exact absurd (by rw [Nat.eq_of_beq_eq_true hb];rfl) this
     rw [hz'] at he hf
     have he':k+1=trLN b0 L0:=he
     have hf':b=trLB b0 L0:=hf
     rw [<-he',<-hf']
     exact .inr ⟨[],[],_,_,rfl,by simp,st_k [] (by kernel_rfl)⟩
 · have:k=0:=by have:=of_decide_eq_false hge;simp at this;omega
   subst this
   rw [<-he,<-hf]
   refine ⟨hge,hge,hge,hge,hge,?_⟩
   exact .inr ⟨[],[],_,_,rfl,by simp,st_k [] (by kernel_rfl)⟩
theorem trRc_vc (L:Nat) (b:Nat->Nat) (hL:L<4611686018427387904) (K:Res->Orc->Prop):runK Tryz.prog 1000000 (.call 186 [.sv 1 L (byF b),.i .u8 0] (mkH [])) (.lop [] [0,1] 0 (.exit 0) [(0,.sv 1 (trR b L) (byF b))] [] .z) K=(LDoes Tryz.prog (loopAt Tryz.prog 186 0) 24 0 (mkT [(0,.sv 1 L (byF b)),(1,.i .u8 0)]) [] (.exit 0) (mkT [(0,.sv 1 (trR b L) (byF b))]) []/\K (.rv (.sv 1 (trR b L) (byF b)) ⟨.e,0,[]⟩) .z):=by kernel_rfl
theorem trLc_vc (L:Nat) (b:Nat->Nat) (hL:L<4611686018427387904) (K:Res->Orc->Prop):runK Tryz.prog 1000000 (.call 185 [.sv 1 L (byF b),.i .u8 0] (mkH [])) (.lop [] [0,1] 0 (.exit 0) [(0,.sv 1 (trLN b L) (byF (trLB b L)))] [] (.s .z .z)) K=(LDoes Tryz.prog (loopAt Tryz.prog 185 0) 21 0 (mkT [(0,.sv 1 L (byF b)),(1,.i .u8 0)]) [] (.exit 0) (mkT [(0,.sv 1 (trLN b L) (byF (trLB b L)))]) []/\(decide (ofNat (trLN b L)=0)=true->K (.rv .l0 ⟨.e,0,[]⟩) .z)/\(decide (ofNat (trLN b L)=0)=false->K (.rv (.sv 1 (trLN b L) (byF (trLB b L))) ⟨.e,0,[]⟩) .z)):=by kernel_rfl
theorem trim_vc (L:Nat) (b:Nat->Nat) (K:Res->Orc->Prop):runK Tryz.prog 1000000 (.call 174 [.sv 1 L (byF b),.s [0]] (mkH [])) (.s .z (oc 6 (.cal [] (.sv 1 (trR b L) (byF b)) [] (.cal [] (.sv 1 (trLN b (trR b L)) (byF (trLB b (trR b L)))) [] .z)))) K=((fun (q0:AV)=>((decide (ofNat L=0)=true->K (.rv .l0 ⟨.e,0,[]⟩) .z)/\(decide (ofNat L=0)=false->((0:Int)<=(0:Int)/\(0:Int)<(1:Int))/\((0:Int)<=(0:Int)/\(0:Int)<(1:Int))/\Con Tryz.prog 186 [.sv 1 L (byF b),.i .u8 0] [] (.sv 1 (trR b L) (byF b)) []/\((0:Int)<=(0:Int)/\(0:Int)<(1:Int))/\Con Tryz.prog 185 [.sv 1 (trR b L) (byF b),.i .u8 0] [] q0 []/\K (.rv q0 ⟨.e,0,[]⟩) .z))) (.sv 1 (trLN b (trR b L)) (byF (trLB b (trR b L))))):=by kernel_rfl
theorem clone60_vc (gg:Nat->Nat->CV) (K:Res->Orc->Prop):runK Tryz.prog 1000000 (.call 88 [.sv 1 60 gg] (mkH [])) (oc 2 .z) K=(True/\(True/\True/\60<=140737488355328/\1716<=562949953421312)/\K (.rv (.lr 1 1 0 60 false) ⟨zz0 (zzl (AObj.rows 5 1 60 gg)) .e,2,[1,0,0]⟩) .z):=by kernel_rfl
theorem seal60_vc (gg:Nat->Nat->CV) (K:Res->Orc->Prop):runK Tryz.prog 1000000 (.call 56 [.sv 1 60 gg] (mkH [])) (.cal [] (.i .u32 (ofNat (sumN (bOf gg) 60))) [] (.cal [] (.sv 1 4 (byF (fourB (sumN (bOf gg) 60)))) [.gone] (.inl (.inl (oc 3 (.inl (oc 3 (.inl (.c (.inl (oc 2 (.inl (oc 2 (.inl (oc 2 (.inl (.c .z))))))))))))))))) K=((fun (q0:AV)=>(Con Tryz.prog 87 [.sv 1 60 gg] [] (.i .u32 (ofNat (sumN (bOf gg) 60))) []/\Con Tryz.prog 86 [.i .u32 (ofNat (sumN (bOf gg) 60))] [] q0 [.gone]/\rg (60)/\rg (1)/\rg (64)/\rg (2)/\rg (0)/\rg (64)/\(True/\(0:Int)<=(64:Int)/\64<=140737488355328/\1728<=562949953421312)/\(True/\(0:Int)<=(0:Int)/\0<=0/\0<=64/\(0=0\/0<64))/\(0<=64/\True/\60<=140737488355328/\1716<=562949953421312)/\rg (1)/\(60<=60/\True/\64<=140737488355328/\1728<=562949953421312)/\rg (2)/\K (.rv (.lr 4 1 0 64 false) ⟨zz0 (zz1 (AObj.cells 101 2 [] (zz1 (.sv 1 60 gg) (zzl q0) .e)) (zz0 .e .e) .e) (zz0 (zzl (AObj.rows 5 1 64 (appZ 60 gg fun k x=>CV.i .u8 (ofNat (fourB (sumN (bOf gg) 60) k))))) .e),5,[4,3,3,2,2,1,0]⟩) .z)) (.sv 1 4 (byF (fourB (sumN (bOf gg) 60))))):=by kernel_rfl
theorem open64_vc (gg:Nat->Nat->CV) (K:Res->Orc->Prop):runK Tryz.prog 1000000 (.call 113 [.sv 1 64 gg] (mkH [])) (.c (.cal [] (.tup [.i .u32 (ofNat (four1 (bOf (shiftF 60 gg)))),.b true]) [] (.cal [] (.i .u32 (ofNat (sumN (bOf gg) 60))) [] (.s .z (.cal [] (.sv 1 60 gg) [] .z))))) K=((fun (q0:Bool)=>(rg (60)/\((0:Int)<=(60:Int)/\True/\60<=64/\64<=64)/\Con Tryz.prog 152 [.sv 1 4 (shiftF 60 gg)] [] (.tup [.i .u32 (ofNat (four1 (bOf (shiftF 60 gg)))),.b true]) []/\(True/\(0:Int)<=(60:Int)/\0<=60/\60<=64)/\Con Tryz.prog 87 [.sv 1 60 gg] [] (.i .u32 (ofNat (sumN (bOf gg) 60))) []/\(q0=true->K (.rv (.tup [.l0,.b false]) ⟨.e,0,[]⟩) .z)/\(q0=false->(True/\(0:Int)<=(60:Int)/\0<=60/\60<=64)/\Con Tryz.prog 88 [.sv 1 60 gg] [] (.sv 1 60 gg) []/\K (.rv (.tup [.sv 1 60 gg,.b true]) ⟨.e,0,[]⟩) .z))) (!decide (ofNat (four1 (bOf (shiftF 60 gg)))=ofNat (sumN (bOf gg) 60)))):=by kernel_rfl
theorem open0_vc (gg:Nat->Nat->CV) (K:Res->Orc->Prop):runK Tryz.prog 1000000 (.call 113 [.sv 1 0 gg] (mkH [])) (.c .z) K=(rg ((-4))/\K (.rv (.tup [.l0,.b false]) ⟨.e,0,[]⟩) .z):=by kernel_rfl
theorem trRc_con (L:Nat) (b:Nat->Nat) (hL:L<4611686018427387904):Con Tryz.prog 186 [.sv 1 L (byF b),.i .u8 0] [] (.sv 1 (trR b L) (byF b)) []:=
 con_plain rfl ((trRc_vc L b hL _).mpr ⟨trR_lp L b hL,_,_,rfl,rfl⟩)
theorem trLc_con (L:Nat) (b:Nat->Nat) (hL:L<4611686018427387904):Con Tryz.prog 185 [.sv 1 L (byF b),.i .u8 0] [] (.sv 1 (trLN b L) (byF (trLB b L))) []:=by
 by_cases h:trLN b L=0
 · have d:decide (ofNat (trLN b L)=0)=true:=by rw [h];rfl
   have k:Con Tryz.prog 185 [.sv 1 L (byF b),.i .u8 0] [] .l0 []:=con_plain rfl ((trLc_vc L b hL _).mpr ⟨trL_lp L b hL,fun _=>⟨_,_,rfl,rfl⟩,fun h=>(by rw [d] at h;cases h)⟩)
   rw [h]
   exact k.post (.nil _ _) (OVL.refl _)
 · have d:decide (ofNat (trLN b L)=0)=false:=by simp;omega
   exact con_plain rfl ((trLc_vc L b hL _).mpr ⟨trL_lp L b hL,fun h=>(by rw [d] at h;cases h),fun _=>⟨_,_,rfl,rfl⟩⟩)
theorem trim1_con (L:Nat) (b:Nat->Nat) (hL:L<4611686018427387904):Con Tryz.prog 174 [.sv 1 L (byF b),.s [0]] [] (.sv 1 (trN b L) (byF (trB b L))) []:=by
 by_cases h:L=0
 · subst h
   have d:decide (ofNat 0=0)=true:=rfl
   have k:Con Tryz.prog 174 [.sv 1 0 (byF b),.s [0]] [] .l0 []:=con_plain rfl ((trim_vc 0 b _).mpr ⟨fun _=>⟨_,_,rfl,rfl⟩,fun h=>(by rw [d] at h;cases h)⟩)
   exact k.post (.nil _ _) (OVL.refl _)
 · have d:decide (ofNat L=0)=false:=by simp;omega
   exact con_plain rfl ((trim_vc L b _).mpr ⟨fun h=>(by rw [d] at h;cases h),fun _=>⟨⟨by decide,by decide⟩,⟨by decide,by decide⟩,trRc_con L b hL,⟨by decide,by decide⟩,trLc_con _ b (Nat.lt_of_le_of_lt (trR_le b L) hL),_,_,rfl,rfl⟩⟩)
theorem trim_con (L:Nat) (gg:Nat->Nat->CV) (hL:L<4611686018427387904) (h:IsBy L gg):Con Tryz.prog 174 [.sv 1 L gg,.s [0]] [] (.sv 1 (trN (bOf gg) L) (byF (trB (bOf gg) L))) []:=
 (trim1_con L (bOf gg) hL).pre ⟨h.vw,.refl _,trivial⟩
theorem four0_con (n:Nat):Con Tryz.prog 86 [.i .u32 (ofNat n)] [] (.sv 1 4 (byF (fourB n))) []:=by
 have h:Con Tryz.prog 86 [.i .u32 (ofNat n)] [] (.sv 1 4 (listF 1 [.i .u8 (ofNat (fourB n 0)),.i .u8 (ofNat (fourB n 1)),.i .u8 (ofNat (fourB n 2)),.i .u8 (ofNat (fourB n 3))] 4)) []:=by
  refine con_of_run [0] [] ((four_vc n _).mpr ?_)
  have e0:wrapA IntKind.u8 (ofNat n)=ofNat (fourB n 0):=by
   show ofNat (n % 256)=ofNat (n / 256 ^ 0 % 256)
   simp
  have e1:wrapA IntKind.u8 (Int.fdiv (ofNat n) 256)=ofNat (fourB n 1):=fourE n 1 256 rfl
  have e2:wrapA IntKind.u8 (Int.fdiv (ofNat n) 65536)=ofNat (fourB n 2):=fourE n 2 65536 rfl
  have e3:wrapA IntKind.u8 (Int.fdiv (ofNat n) 16777216)=ofNat (fourB n 3):=fourE n 3 16777216 rfl
  rw [e0,e1,e2,e3]
  exact ⟨trivial,by decide,trivial,by decide,trivial,by decide,trivial,_,_,rfl,ret_fz [0] ((0+4*1<=4)/\True) (by kernel_rfl) (by kernel_rfl) ⟨by decide,trivial⟩ (by kernel_rfl) rfl (by kernel_rfl) (by kernel_rfl) rfl trivial⟩
 refine h.post (.sv fun i j hi hj=>?_) (OVL.refl _)
 obtain rfl:j=0:=by omega
 have:i=0\/i=1\/i=2\/i=3:=by omega
 rcases this with rfl | rfl | rfl | rfl<;>exact Eq.refl _
theorem clone60_con (gg:Nat->Nat->CV):Con Tryz.prog 88 [.sv 1 60 gg] [] (.sv 1 60 gg) []:=
 con_of_run [1] [] ((clone60_vc gg _).mpr ⟨trivial,⟨trivial,trivial,by decide,by decide⟩,_,_,rfl,ret_fz [1] ((1=1/\0+60<=60)/\True) (by kernel_rfl) (by kernel_rfl) ⟨⟨rfl,by omega⟩,trivial⟩ (by kernel_rfl) rfl (by kernel_rfl) (by kernel_rfl) rfl trivial⟩)
def sealF (gg:Nat->Nat->CV):Nat->Nat->CV:=fun i j=>appZ 60 gg (byF (fourB (sumN (bOf gg) 60))) i j
theorem seal60_con (gg:Nat->Nat->CV) (h:IsBy 60 gg):Con Tryz.prog 56 [.sv 1 60 gg] [] (.sv 1 64 (sealF gg)) []:=
 con_of_run [4] [] ((seal60_vc gg _).mpr ⟨sumf_con 60 gg (by decide) h,four_con _,by decide,by decide,by decide,by decide,by decide,by decide,⟨trivial,by decide,by decide,by decide⟩,⟨trivial,by decide,by decide,by decide,.inl rfl⟩,⟨by decide,trivial,by decide,by decide⟩,by decide,⟨by decide,trivial,by decide,by decide⟩,by decide,
  _,_,rfl,ret_fz [4] ((1=1/\0+64<=64)/\True) (by kernel_rfl) (by kernel_rfl) ⟨⟨rfl,by omega⟩,trivial⟩ (by kernel_rfl) rfl (by kernel_rfl) (by kernel_rfl) rfl trivial⟩)
def openB (gg:Nat->Nat->CV):Bool:=decide (ofNat (four1 (bOf (shiftF 60 gg)))=ofNat (sumN (bOf gg) 60))
theorem open64_con (gg:Nat->Nat->CV) (h:IsBy 64 gg):Con Tryz.prog 113 [.sv 1 64 gg] [] (.tup [.sv 1 (bif openB gg then 60 else 0) gg,.b (openB gg)]) []:=by
 have h4:IsBy 4 (shiftF 60 gg):=fun k hk=>h (60+k) (by omega)
 have h6:IsBy 60 gg:=h.le (by omega)
 cases hb:openB gg with
 | true=>
   have hd:(!decide (ofNat (four1 (bOf (shiftF 60 gg)))=ofNat (sumN (bOf gg) 60)))=false:=by
    show (!openB gg)=false
    rw [hb];rfl
   exact con_of_run [] [] ((open64_vc gg _).mpr ⟨by decide,⟨by decide,trivial,by decide,by decide⟩,ofFour_con 4 _ (by decide) h4,⟨trivial,by decide,by decide,by decide⟩,sumf_con 60 gg (by decide) h6,fun h=>(by rw [hd] at h;cases h),fun _=>⟨⟨trivial,by decide,by decide,by decide⟩,clone60_con gg,_,_,rfl,ret_k (by kernel_rfl)⟩⟩)
 | false=>
   have hd:(!decide (ofNat (four1 (bOf (shiftF 60 gg)))=ofNat (sumN (bOf gg) 60)))=true:=by
    show (!openB gg)=true
    rw [hb];rfl
   have k:Con Tryz.prog 113 [.sv 1 64 gg] [] (.tup [.l0,.b false]) []:=con_of_run [] [] ((open64_vc gg _).mpr ⟨by decide,⟨by decide,trivial,by decide,by decide⟩,ofFour_con 4 _ (by decide) h4,⟨trivial,by decide,by decide,by decide⟩,sumf_con 60 gg (by decide) h6,fun _=>⟨_,_,rfl,ret_k (by kernel_rfl)⟩,fun h=>(by rw [hd] at h;cases h)⟩)
   exact k.post (.tup ⟨.nil _ _,.refl _,trivial⟩) (OVL.refl _)
theorem open0_con (gg:Nat->Nat->CV):Con Tryz.prog 113 [.sv 1 0 gg] [] (.tup [.l0,.b false]) []:=
 con_of_run [] [] ((open0_vc gg _).mpr ⟨by decide,_,_,rfl,ret_k (by kernel_rfl)⟩)
end Go.Proofs.Cd
/- What a Store's block holds, told by functions. -/
namespace Go.Proofs.St
open Go Go.Sim Go.Proofs.YtfpebgpcpoefpaaGreatDoor
def oneF (v:CV):Nat->Nat->CV:=fun _ _=>v
def tailF (cnt wr:Int) (off armed:Bool) (left:Int):Nat->Nat->CV:=fun _ j=>match j with
 | 0=>.i .i64 cnt
 | 1=>.i .i64 wr
 | 2=>.b off
 | 3=>.b armed
 | _=>.i .i64 left
def durF (dur:Nat->Nat->Int) (torn:Nat->Bool):Nat->Nat->CV:=fun i j=>match Nat.blt j 64 with
 | true=>.i .u8 (dur i j)
 | false=>.b (torn i)
def latF (lb:Nat->Bool) (lw:Nat->Nat->CV):Nat->Nat->CV:=fun i _=>.opv (lb i) 66 (lw i)
def stO (n:Int) (dur:Nat->Nat->Int) (torn:Nat->Bool) (pb:Bool) (pw:Nat->CV) (lb:Nat->Bool) (lw:Nat->Nat->CV) (cnt wr:Int) (off armed:Bool) (left:Int):AObj:=
 .segs 120 33799 [⟨0,1,1,oneF (.i .i64 n)⟩,⟨1,65,512,durF dur torn⟩,⟨33281,1,1,oneF (.opv pb 66 pw)⟩,⟨33282,1,512,latF lb lw⟩,⟨33794,5,1,tailF cnt wr off armed left⟩]
end Go.Proofs.St
namespace Go.Proofs.St
open Go Go.Sim Go.Proofs Go.Proofs.YtfpebgpcpoefpaaGreatDoor
theorem fault_vc (n:Int) (dur:Nat->Nat->Int) (torn:Nat->Bool) (pb:Bool) (pw:Nat->CV) (lb:Nat->Bool) (lw:Nat->Nat->CV) (cnt wr:Int) (off armed:Bool) (left:Int) (K:Res->Orc->Prop):runK Tryz.prog 1000000 (.call 171 [.p 0 0] (mkH [some (stO n dur torn pb pw lb lw cnt wr off armed left)])) (.c (.s .z .z)) K=(True/\True/\True/\(off=true->K (.rv (.i .i64 13) ⟨zzl (AObj.segs 120 33799 [⟨0,1,1,fun x x_1=>CV.i .i64 n⟩,⟨1,65,512,fun i j=>match Nat.blt j 64 with | true=>CV.i .u8 (dur i j) | false=>CV.b (torn i)⟩,⟨33281,1,1,fun x x_1=>CV.opv pb 66 pw⟩,⟨33282,1,512,fun i x=>CV.opv (lb i) 66 (lw i)⟩,⟨33794,5,1,fun x j=>match j with | 0=>CV.i .i64 cnt | 1=>CV.i .i64 wr | 2=>CV.b off | 3=>CV.b armed | x=>CV.i .i64 left⟩]),1,[]⟩) .z)/\(off=false->K (.rv (.i .i64 0) ⟨zzl (AObj.segs 120 33799 [⟨0,1,1,fun x x_1=>CV.i .i64 n⟩,⟨1,65,512,fun i j=>match Nat.blt j 64 with | true=>CV.i .u8 (dur i j) | false=>CV.b (torn i)⟩,⟨33281,1,1,fun x x_1=>CV.opv pb 66 pw⟩,⟨33282,1,512,fun i x=>CV.opv (lb i) 66 (lw i)⟩,⟨33794,5,1,fun x j=>match j with | 0=>CV.i .i64 cnt | 1=>CV.i .i64 wr | 2=>CV.b off | 3=>CV.b armed | x=>CV.i .i64 left⟩]),1,[]⟩) .z)):=by kernel_rfl
theorem has_vc (n:Int) (dur:Nat->Nat->Int) (torn:Nat->Bool) (pb:Bool) (pw:Nat->CV) (lb:Nat->Bool) (lw:Nat->Nat->CV) (cnt wr:Int) (off armed:Bool) (left i:Int) (K:Res->Orc->Prop):runK Tryz.prog 1000000 (.call 172 [.p 0 0,.i .i64 i] (mkH [some (stO n dur torn pb pw lb lw cnt wr off armed left)])) (.s (ot 6 .z) (of_ 6 .z)) K=((decide (0<=i)=true->decide (0<=i)=true/\decide (0<=i)=true/\decide (0<=i)=true/\True/\decide (0<=i)=true/\True/\decide (0<=i)=true/\decide (0<=i)=true/\K (.rv (.b (decide (i<n))) ⟨zzl (AObj.segs 120 33799 [⟨0,1,1,fun x x_1=>CV.i .i64 n⟩,⟨1,65,512,fun i j=>match Nat.blt j 64 with | true=>CV.i .u8 (dur i j) | false=>CV.b (torn i)⟩,⟨33281,1,1,fun x x_1=>CV.opv pb 66 pw⟩,⟨33282,1,512,fun i x=>CV.opv (lb i) 66 (lw i)⟩,⟨33794,5,1,fun x j=>match j with | 0=>CV.i .i64 cnt | 1=>CV.i .i64 wr | 2=>CV.b off | 3=>CV.b armed | x=>CV.i .i64 left⟩]),1,[]⟩) .z)/\(decide (0<=i)=false->decide (0<=i)=false/\decide (0<=i)=false/\decide (0<=i)=false/\decide (0<=i)=false/\decide (0<=i)=false/\decide (0<=i)=false/\K (.rv (.b false) ⟨zzl (AObj.segs 120 33799 [⟨0,1,1,fun x x_1=>CV.i .i64 n⟩,⟨1,65,512,fun i j=>match Nat.blt j 64 with | true=>CV.i .u8 (dur i j) | false=>CV.b (torn i)⟩,⟨33281,1,1,fun x x_1=>CV.opv pb 66 pw⟩,⟨33282,1,512,fun i x=>CV.opv (lb i) 66 (lw i)⟩,⟨33794,5,1,fun x j=>match j with | 0=>CV.i .i64 cnt | 1=>CV.i .i64 wr | 2=>CV.b off | 3=>CV.b armed | x=>CV.i .i64 left⟩]),1,[]⟩) .z)):=by kernel_rfl
theorem fault_con (n:Int) (dur:Nat->Nat->Int) (torn:Nat->Bool) (pb:Bool) (pw:Nat->CV) (lb:Nat->Bool) (lw:Nat->Nat->CV) (cnt wr:Int) (off armed:Bool) (left:Int) :
 Con Tryz.prog 171 [.p 0 0] [some (stO n dur torn pb pw lb lw cnt wr off armed left)] (.i .i64 (bif off then 13 else 0)) [.keep]:=by
 refine con_of_run [] [] ((fault_vc n dur torn pb pw lb lw cnt wr off armed left _).mpr ⟨trivial,trivial,trivial,fun h=>?_,fun h=>?_⟩)
 · subst h;exact ⟨_,_,rfl,ret_k (by kernel_rfl)⟩
 · subst h;exact ⟨_,_,rfl,ret_k (by kernel_rfl)⟩
theorem has_con (n:Int) (dur:Nat->Nat->Int) (torn:Nat->Bool) (pb:Bool) (pw:Nat->CV) (lb:Nat->Bool) (lw:Nat->Nat->CV) (cnt wr:Int) (off armed:Bool) (left i:Int) :
 Con Tryz.prog 172 [.p 0 0,.i .i64 i] [some (stO n dur torn pb pw lb lw cnt wr off armed left)] (.b (decide (0<=i/\i<n))) [.keep]:=by
 refine con_of_run [] [] ((has_vc n dur torn pb pw lb lw cnt wr off armed left i _).mpr ⟨fun h=>?_,fun h=>?_⟩)
 · have h':0<=i:=by simpa using h
   have e:decide (0<=i/\i<n)=decide (i<n):=by simp [h']
   rw [e]
   exact ⟨h,h,h,trivial,h,trivial,h,h,_,_,rfl,ret_k (by kernel_rfl)⟩
 · have h':¬0<=i:=by simpa using h
   have e:decide (0<=i/\i<n)=false:=by simp [h']
   rw [e]
   exact ⟨h,h,h,h,h,h,_,_,rfl,ret_k (by kernel_rfl)⟩
theorem add_vc (n:Int) (dur:Nat->Nat->Int) (torn:Nat->Bool) (pb:Bool) (pw:Nat->CV) (lb:Nat->Bool) (lw:Nat->Nat->CV) (cnt wr:Int) (off armed:Bool) (left i:Int) (bs:Nat->Int) (K:Res->Orc->Prop):runK Tryz.prog 1000000 (.call 192 [.p 0 33281,.i .i64 i,.agg (cvL (fun k=>.i .u8 (bs k)) 0 64)] (mkH [some (stO n dur torn pb pw lb lw cnt wr off armed left)])) (.s (.s (.s .z .z) .z) .z) K=(True/\True/\True/\True/\True/\True/\(0<=i/\i<512)/\Int.toNat i<512/\True/\True/\rg (cnt+1)/\True/\True/\K (.rv (.tup []) ⟨zz1 (AObj.segs 120 33799 [⟨0,1,1,fun x x_1=>CV.i .i64 n⟩,⟨1,65,512,fun i j=>match Nat.blt j 64 with | true=>CV.i .u8 (dur i j) | false=>CV.b (torn i)⟩,⟨33281,1,1,fun i_1 j=>List.getD [CV.opv true 66 fun j=>List.getD [CV.i .i64 i,CV.i .u8 (bs 0),CV.i .u8 (bs 1),CV.i .u8 (bs 2),CV.i .u8 (bs 3),CV.i .u8 (bs 4),CV.i .u8 (bs 5),CV.i .u8 (bs 6),CV.i .u8 (bs 7),CV.i .u8 (bs 8),CV.i .u8 (bs 9),CV.i .u8 (bs 10),CV.i .u8 (bs 11),CV.i .u8 (bs 12),CV.i .u8 (bs 13),CV.i .u8 (bs 14),CV.i .u8 (bs 15),CV.i .u8 (bs 16),CV.i .u8 (bs 17),CV.i .u8 (bs 18),CV.i .u8 (bs 19),CV.i .u8 (bs 20),CV.i .u8 (bs 21),CV.i .u8 (bs 22),CV.i .u8 (bs 23),CV.i .u8 (bs 24),CV.i .u8 (bs 25),CV.i .u8 (bs 26),CV.i .u8 (bs 27),CV.i .u8 (bs 28),CV.i .u8 (bs 29),CV.i .u8 (bs 30),CV.i .u8 (bs 31),CV.i .u8 (bs 32),CV.i .u8 (bs 33),CV.i .u8 (bs 34),CV.i .u8 (bs 35),CV.i .u8 (bs 36),CV.i .u8 (bs 37),CV.i .u8 (bs 38),CV.i .u8 (bs 39),CV.i .u8 (bs 40),CV.i .u8 (bs 41),CV.i .u8 (bs 42),CV.i .u8 (bs 43),CV.i .u8 (bs 44),CV.i .u8 (bs 45),CV.i .u8 (bs 46),CV.i .u8 (bs 47),CV.i .u8 (bs 48),CV.i .u8 (bs 49),CV.i .u8 (bs 50),CV.i .u8 (bs 51),CV.i .u8 (bs 52),CV.i .u8 (bs 53),CV.i .u8 (bs 54),CV.i .u8 (bs 55),CV.i .u8 (bs 56),CV.i .u8 (bs 57),CV.i .u8 (bs 58),CV.i .u8 (bs 59),CV.i .u8 (bs 60),CV.i .u8 (bs 61),CV.i .u8 (bs 62),CV.i .u8 (bs 63),CV.opv pb 66 pw] j CV.p0] (33281-33281+i_1*1+j) CV.p0⟩,⟨33282,1,512,setRow (fun i x=>CV.opv (lb i) 66 (lw i)) (Int.toNat i) 0 [CV.opv true 66 fun j=>List.getD [CV.i .i64 i,CV.i .u8 (bs 0),CV.i .u8 (bs 1),CV.i .u8 (bs 2),CV.i .u8 (bs 3),CV.i .u8 (bs 4),CV.i .u8 (bs 5),CV.i .u8 (bs 6),CV.i .u8 (bs 7),CV.i .u8 (bs 8),CV.i .u8 (bs 9),CV.i .u8 (bs 10),CV.i .u8 (bs 11),CV.i .u8 (bs 12),CV.i .u8 (bs 13),CV.i .u8 (bs 14),CV.i .u8 (bs 15),CV.i .u8 (bs 16),CV.i .u8 (bs 17),CV.i .u8 (bs 18),CV.i .u8 (bs 19),CV.i .u8 (bs 20),CV.i .u8 (bs 21),CV.i .u8 (bs 22),CV.i .u8 (bs 23),CV.i .u8 (bs 24),CV.i .u8 (bs 25),CV.i .u8 (bs 26),CV.i .u8 (bs 27),CV.i .u8 (bs 28),CV.i .u8 (bs 29),CV.i .u8 (bs 30),CV.i .u8 (bs 31),CV.i .u8 (bs 32),CV.i .u8 (bs 33),CV.i .u8 (bs 34),CV.i .u8 (bs 35),CV.i .u8 (bs 36),CV.i .u8 (bs 37),CV.i .u8 (bs 38),CV.i .u8 (bs 39),CV.i .u8 (bs 40),CV.i .u8 (bs 41),CV.i .u8 (bs 42),CV.i .u8 (bs 43),CV.i .u8 (bs 44),CV.i .u8 (bs 45),CV.i .u8 (bs 46),CV.i .u8 (bs 47),CV.i .u8 (bs 48),CV.i .u8 (bs 49),CV.i .u8 (bs 50),CV.i .u8 (bs 51),CV.i .u8 (bs 52),CV.i .u8 (bs 53),CV.i .u8 (bs 54),CV.i .u8 (bs 55),CV.i .u8 (bs 56),CV.i .u8 (bs 57),CV.i .u8 (bs 58),CV.i .u8 (bs 59),CV.i .u8 (bs 60),CV.i .u8 (bs 61),CV.i .u8 (bs 62),CV.i .u8 (bs 63),CV.opv pb 66 pw] j CV.p0]⟩,⟨33794,5,1,setRow (fun x j=>match j with | 0=>CV.i .i64 cnt | 1=>CV.i .i64 wr | 2=>CV.b off | 3=>CV.b armed | x=>CV.i .i64 left) 0 0 [CV.i .i64 (cnt+1)]⟩]) (zz0 .e .e) (zz0 .e .e),3,[0,0,0,2,2,1,1]⟩) .z):=by kernel_rfl
def wL (i:Int) (bs:Nat->Int) (pb:Bool) (pw:Nat->CV):List CV:=.i .i64 i :: (Nat.rec (motive:=fun _=>Nat->List CV) (fun _=>[.opv pb 66 pw]) (fun _ ih o=>.i .u8 (bs o) :: ih (o+1)) 64 0)
def wF (i:Int) (bs:Nat->Int) (pb:Bool) (pw:Nat->CV):Nat->CV:=fun j=>(wL i bs pb pw).getD j .p0
def upB (lb:Nat->Bool) (i:Nat):Nat->Bool:=fun k=>bif Nat.beq k i then true else lb k
def upW (lw:Nat->Nat->CV) (i:Nat) (f:Nat->CV):Nat->Nat->CV:=fun k j=>zipCV (Nat.beq k i) (f j) (lw k j)
def addO (n:Int) (dur:Nat->Nat->Int) (torn:Nat->Bool) (pb:Bool) (pw:Nat->CV) (lb:Nat->Bool) (lw:Nat->Nat->CV) (cnt wr:Int) (off armed:Bool) (left i:Int) (bs:Nat->Int):AObj:=
 .segs 120 33799 [⟨0,1,1,oneF (.i .i64 n)⟩,⟨1,65,512,durF dur torn⟩,⟨33281,1,1,fun a b=>[CV.opv true 66 (wF i bs pb pw)].getD (33281-33281+a*1+b) .p0⟩,
  ⟨33282,1,512,setRow (latF lb lw) i.toNat 0 [.opv true 66 (wF i bs pb pw)]⟩,⟨33794,5,1,setRow (tailF cnt wr off armed left) 0 0 [.i .i64 (cnt+1)]⟩]
theorem add_con (n:Int) (dur:Nat->Nat->Int) (torn:Nat->Bool) (pb:Bool) (pw:Nat->CV) (lb:Nat->Bool) (lw:Nat->Nat->CV) (cnt wr:Int) (off armed:Bool) (left i:Int) (bs:Nat->Int)
 (hi:0<=i/\i<512) (hc:0<=cnt/\cnt<4611686018427387904) :
 Con Tryz.prog 192 [.p 0 33281,.i .i64 i,.agg (cvL (fun k=>.i .u8 (bs k)) 0 64)] [some (stO n dur torn pb pw lb lw cnt wr off armed left)] (.tup [])
  [.set (stO n dur torn true (wF i bs pb pw) (upB lb i.toNat) (upW lw i.toNat (wF i bs pb pw)) (cnt+1) wr off armed left)]:=by
 refine (con_of_run (us:=[.set (addO n dur torn pb pw lb lw cnt wr off armed left i bs)]) [] [] ((add_vc n dur torn pb pw lb lw cnt wr off armed left i bs _).mpr ⟨trivial,trivial,trivial,trivial,trivial,trivial,hi,by omega,trivial,trivial,⟨by omega,by omega⟩,trivial,trivial,
  _,_,rfl,ret_k (by kernel_rfl)⟩)).oeq (OEqL.refl _) ?_
 show OEqL [some _] [some _]
 refine ⟨OEq.segs ⟨⟨rfl,rfl,rfl,fun _ _ _ _=>rfl⟩,⟨rfl,rfl,rfl,fun _ _ _ _=>rfl⟩,⟨rfl,rfl,rfl,fun a b ha hb=>?_⟩,⟨rfl,rfl,rfl,fun a b ha hb=>?_⟩,⟨rfl,rfl,rfl,fun a b ha hb=>?_⟩,trivial⟩,trivial⟩
 · have ha:a=0:=by have:a<1:=ha;omega
   have hb:b=0:=by have:b<1:=hb;omega
   subst ha;subst hb;rfl
 · have hb:b=0:=by have:b<1:=hb;omega
   subst hb;rfl
 · have ha:a=0:=by have:a<1:=ha;omega
   have hb:b<5:=hb
   subst ha
   have:b=0\/b=1\/b=2\/b=3\/b=4:=by omega
   rcases this with rfl | rfl | rfl | rfl | rfl<;>rfl
theorem off_vc (n:Int) (dur:Nat->Nat->Int) (torn:Nat->Bool) (pb:Bool) (pw:Nat->CV) (lb:Nat->Bool) (lw:Nat->Nat->CV) (cnt wr:Int) (off armed:Bool) (left:Int) (K:Res->Orc->Prop):runK Tryz.prog 1000000 (.call 127 [.p 0 0] (mkH [some (stO n dur torn pb pw lb lw cnt wr off armed left)])) (oc 4 (.c .z)) K=(True/\True/\True/\K (.rv (.b off) ⟨zzl (AObj.segs 120 33799 [⟨0,1,1,fun x x_1=>CV.i .i64 n⟩,⟨1,65,512,fun i j=>match Nat.blt j 64 with | true=>CV.i .u8 (dur i j) | false=>CV.b (torn i)⟩,⟨33281,1,1,fun x x_1=>CV.opv pb 66 pw⟩,⟨33282,1,512,fun i x=>CV.opv (lb i) 66 (lw i)⟩,⟨33794,5,1,fun x j=>match j with | 0=>CV.i .i64 cnt | 1=>CV.i .i64 wr | 2=>CV.b off | 3=>CV.b armed | x=>CV.i .i64 left⟩]),1,[]⟩) .z):=by kernel_rfl
theorem len_vc (n:Int) (dur:Nat->Nat->Int) (torn:Nat->Bool) (pb:Bool) (pw:Nat->CV) (lb:Nat->Bool) (lw:Nat->Nat->CV) (cnt wr:Int) (off armed:Bool) (left:Int) (K:Res->Orc->Prop):runK Tryz.prog 1000000 (.call 126 [.p 0 0] (mkH [some (stO n dur torn pb pw lb lw cnt wr off armed left)])) (.c .z) K=(True/\True/\True/\K (.rv (.i .i64 n) ⟨zzl (AObj.segs 120 33799 [⟨0,1,1,fun x x_1=>CV.i .i64 n⟩,⟨1,65,512,fun i j=>match Nat.blt j 64 with | true=>CV.i .u8 (dur i j) | false=>CV.b (torn i)⟩,⟨33281,1,1,fun x x_1=>CV.opv pb 66 pw⟩,⟨33282,1,512,fun i x=>CV.opv (lb i) 66 (lw i)⟩,⟨33794,5,1,fun x j=>match j with | 0=>CV.i .i64 cnt | 1=>CV.i .i64 wr | 2=>CV.b off | 3=>CV.b armed | x=>CV.i .i64 left⟩]),1,[]⟩) .z):=by kernel_rfl
theorem fail_vc (n:Int) (dur:Nat->Nat->Int) (torn:Nat->Bool) (pb:Bool) (pw:Nat->CV) (lb:Nat->Bool) (lw:Nat->Nat->CV) (cnt wr:Int) (off armed:Bool) (left:Int) (K:Res->Orc->Prop):runK Tryz.prog 1000000 (.call 62 [.p 0 0] (mkH [some (stO n dur torn pb pw lb lw cnt wr off armed left)])) (.c .z) K=(True/\True/\True/\True/\True/\K (.rv (.tup []) ⟨zzl (AObj.segs 120 33799 [⟨0,1,1,fun x x_1=>CV.i .i64 n⟩,⟨1,65,512,fun i j=>match Nat.blt j 64 with | true=>CV.i .u8 (dur i j) | false=>CV.b (torn i)⟩,⟨33281,1,1,fun x x_1=>CV.opv pb 66 pw⟩,⟨33282,1,512,fun i x=>CV.opv (lb i) 66 (lw i)⟩,⟨33794,5,1,setRow (fun i' j'=>match Nat.ble 2 j' with | true=>(match [CV.b true][j'-2 % 5]? with | some c=>zipCV (Nat.beq i' 0) c (Seg.f ⟨33794,5,1,fun x j=>match j with | 0=>CV.i .i64 cnt | 1=>CV.i .i64 wr | 2=>CV.b off | 3=>CV.b armed | x=>CV.i .i64 left⟩ i' j') | none=>Seg.f ⟨33794,5,1,fun x j=>match j with | 0=>CV.i .i64 cnt | 1=>CV.i .i64 wr | 2=>CV.b off | 3=>CV.b armed | x=>CV.i .i64 left⟩ i' j') | false=>Seg.f ⟨33794,5,1,fun x j=>match j with | 0=>CV.i .i64 cnt | 1=>CV.i .i64 wr | 2=>CV.b off | 3=>CV.b armed | x=>CV.i .i64 left⟩ i' j') 0 3 [CV.b false]⟩]),1,[0,0]⟩) .z):=by kernel_rfl
theorem arm_vc (n:Int) (dur:Nat->Nat->Int) (torn:Nat->Bool) (pb:Bool) (pw:Nat->CV) (lb:Nat->Bool) (lw:Nat->Nat->CV) (cnt wr:Int) (off armed:Bool) (left k:Int) (K:Res->Orc->Prop):runK Tryz.prog 1000000 (.call 38 [.p 0 0,.i .i64 k] (mkH [some (stO n dur torn pb pw lb lw cnt wr off armed left)])) (.c .z) K=(True/\True/\True/\True/\True/\K (.rv (.tup []) ⟨zzl (AObj.segs 120 33799 [⟨0,1,1,fun x x_1=>CV.i .i64 n⟩,⟨1,65,512,fun i j=>match Nat.blt j 64 with | true=>CV.i .u8 (dur i j) | false=>CV.b (torn i)⟩,⟨33281,1,1,fun x x_1=>CV.opv pb 66 pw⟩,⟨33282,1,512,fun i x=>CV.opv (lb i) 66 (lw i)⟩,⟨33794,5,1,setRow (fun i' j'=>match Nat.ble 3 j' with | true=>(match [CV.b (decide ((0:Int)<=k))][j'-3 % 5]? with | some c=>zipCV (Nat.beq i' 0) c (Seg.f ⟨33794,5,1,fun x j=>match j with | 0=>CV.i .i64 cnt | 1=>CV.i .i64 wr | 2=>CV.b off | 3=>CV.b armed | x=>CV.i .i64 left⟩ i' j') | none=>Seg.f ⟨33794,5,1,fun x j=>match j with | 0=>CV.i .i64 cnt | 1=>CV.i .i64 wr | 2=>CV.b off | 3=>CV.b armed | x=>CV.i .i64 left⟩ i' j') | false=>Seg.f ⟨33794,5,1,fun x j=>match j with | 0=>CV.i .i64 cnt | 1=>CV.i .i64 wr | 2=>CV.b off | 3=>CV.b armed | x=>CV.i .i64 left⟩ i' j') 0 4 [CV.i .i64 (if (0:Int)>k then (0:Int) else k)]⟩]),1,[0,0]⟩) .z):=by kernel_rfl
def tO (n:Int) (dur:Nat->Nat->Int) (torn:Nat->Bool) (pb:Bool) (pw:Nat->CV) (lb:Nat->Bool) (lw:Nat->Nat->CV) (g:Nat->Nat->CV):AObj:=
 .segs 120 33799 [⟨0,1,1,oneF (.i .i64 n)⟩,⟨1,65,512,durF dur torn⟩,⟨33281,1,1,oneF (.opv pb 66 pw)⟩,⟨33282,1,512,latF lb lw⟩,⟨33794,5,1,g⟩]
theorem tail_oeq {n:Int} {dur:Nat->Nat->Int} {torn:Nat->Bool} {pb:Bool} {pw:Nat->CV} {lb:Nat->Bool} {lw:Nat->Nat->CV} {g:Nat->Nat->CV} {cnt wr:Int} {off armed:Bool} {left:Int}
 (h:g 0 0=.i .i64 cnt/\g 0 1=.i .i64 wr/\g 0 2=.b off/\g 0 3=.b armed/\g 0 4=.i .i64 left):OEqL [some (tO n dur torn pb pw lb lw g)] [some (stO n dur torn pb pw lb lw cnt wr off armed left)]:=by
 refine ⟨OEq.segs ⟨⟨rfl,rfl,rfl,fun _ _ _ _=>rfl⟩,⟨rfl,rfl,rfl,fun _ _ _ _=>rfl⟩,⟨rfl,rfl,rfl,fun _ _ _ _=>rfl⟩,⟨rfl,rfl,rfl,fun _ _ _ _=>rfl⟩,⟨rfl,rfl,rfl,fun a b ha hb=>?_⟩,trivial⟩,trivial⟩
 have ha:a=0:=by have:a<1:=ha;omega
 have hb:b<5:=hb
 subst ha
 have:b=0\/b=1\/b=2\/b=3\/b=4:=by omega
 rcases this with rfl | rfl | rfl | rfl | rfl
 · exact h.1
 · exact h.2.1
 · exact h.2.2.1
 · exact h.2.2.2.1
 · exact h.2.2.2.2
section
variable (n:Int) (dur:Nat->Nat->Int) (torn:Nat->Bool) (pb:Bool) (pw:Nat->CV) (lb:Nat->Bool) (lw:Nat->Nat->CV) (cnt wr:Int) (off armed:Bool) (left:Int)
theorem off_con:Con Tryz.prog 127 [.p 0 0] [some (stO n dur torn pb pw lb lw cnt wr off armed left)] (.b off) [.keep]:=
 con_of_run [] [] ((off_vc n dur torn pb pw lb lw cnt wr off armed left _).mpr ⟨trivial,trivial,trivial,_,_,rfl,ret_k (by kernel_rfl)⟩)
theorem len_con:Con Tryz.prog 126 [.p 0 0] [some (stO n dur torn pb pw lb lw cnt wr off armed left)] (.i .i64 n) [.keep]:=
 con_of_run [] [] ((len_vc n dur torn pb pw lb lw cnt wr off armed left _).mpr ⟨trivial,trivial,trivial,_,_,rfl,ret_k (by kernel_rfl)⟩)
theorem fail_con:Con Tryz.prog 62 [.p 0 0] [some (stO n dur torn pb pw lb lw cnt wr off armed left)] (.tup []) [.set (stO n dur torn pb pw lb lw cnt wr true false left)]:=
 Con.runE (us:=[.set (tO n dur torn pb pw lb lw (setRow (setRow (tailF cnt wr off armed left) 0 2 [.b true]) 0 3 [.b false]))]) [] []
  ((fail_vc n dur torn pb pw lb lw cnt wr off armed left _).mpr ⟨trivial,trivial,trivial,trivial,trivial,_,_,rfl,ret_k (by kernel_rfl)⟩)
  (tail_oeq ⟨rfl,rfl,rfl,rfl,rfl⟩)
theorem arm_con (k:Int):Con Tryz.prog 38 [.p 0 0,.i .i64 k] [some (stO n dur torn pb pw lb lw cnt wr off armed left)] (.tup []) [.set (stO n dur torn pb pw lb lw cnt wr off (decide (0<=k)) (if 0>k then 0 else k))]:=
 Con.runE (us:=[.set (tO n dur torn pb pw lb lw (setRow (setRow (tailF cnt wr off armed left) 0 3 [.b (decide (0<=k))]) 0 4 [.i .i64 (if 0>k then 0 else k)]))]) [] []
  ((arm_vc n dur torn pb pw lb lw cnt wr off armed left k _).mpr ⟨trivial,trivial,trivial,trivial,trivial,_,_,rfl,ret_k (by kernel_rfl)⟩)
  (tail_oeq ⟨rfl,rfl,rfl,rfl,rfl⟩)
end
section
variable (n:Int) (dur:Nat->Nat->Int) (torn:Nat->Bool) (pb:Bool) (pw:Nat->CV) (lb:Nat->Bool) (lw:Nat->Nat->CV) (cnt wr:Int) (left:Int)
end
abbrev PW:=List (Nat×(Nat->Int))
def wN (i:Int) (bs:Nat->Int) (pb:Bool) (pw:Nat->CV):Nat->CV:=fun j=>match j with
 | 0=>.i .i64 i
 | j+1=>match Nat.blt j 64 with
   | true=>.i .u8 (bs j)
   | false=>.opv pb 66 pw
def pB:PW->Bool
 | []=>false
 | _ :: _=>true
def pW (P:PW):Nat->CV:=List.rec (motive:=fun _=>Nat->CV) (fun _=>.p0) (fun w P ih=>wN (ofNat w.1) w.2 (pB P) ih) P
def lB:PW->Nat->Bool
 | [],_=>false
 | w :: P,k=>bif Nat.beq k w.1 then true else lB P k
def lbs:PW->Nat->Nat->Int
 | [],_=>fun _=>0
 | w :: P,k=>bif Nat.beq k w.1 then w.2 else lbs P k
def lrest:PW->Nat->PW
 | [],_=>[]
 | w :: P,k=>bif Nat.beq k w.1 then P else lrest P k
def lW (P:PW) (k:Nat):Nat->CV:=wN (ofNat k) (lbs P k) (pB (lrest P k)) (pW (lrest P k))
theorem wL_wN (i:Int) (bs:Nat->Int) (pb:Bool) (pw:Nat->CV):∀j,j<66->wF i bs pb pw j=wN i bs pb pw j:=by
 intro j hj
 have:∀j:Fin 66,wF i bs pb pw j=wN i bs pb pw j:=by
  intro j
  match j with
  | ⟨0,_⟩=>rfl
  | ⟨j+1,h⟩=>
    show (wL i bs pb pw).getD (j+1) .p0= _
    have key:∀(m o k:Nat),k<=m->(Nat.rec (motive:=fun _=>Nat->List CV) (fun _=>[CV.opv pb 66 pw]) (fun _ ih o=>CV.i .u8 (bs o) :: ih (o+1)) m o).getD k .p0=(match Nat.blt k m with | true=>CV.i .u8 (bs (o+k)) | false=>CV.opv pb 66 pw):=by
     intro m
     induction m with
     | zero=>intro o k hk;obtain rfl:k=0:=by omega
             rfl
     | succ m ih=>
       intro o k hk
       cases k with
       | zero=>rfl
       | succ k=>
         have h1:=ih (o+1) k (by omega)
         have e:Nat.blt (k+1) (m+1)=Nat.blt k m:=by
          rw [Bool.eq_iff_iff,Nat.blt_eq,Nat.blt_eq];omega
         rw [e]
         show (Nat.rec (motive:=fun _=>Nat->List CV) (fun _=>[CV.opv pb 66 pw]) (fun _ ih o=>CV.i .u8 (bs o) :: ih (o+1)) m (o+1)).getD k .p0= _
         rw [h1,show o+1+k=o+(k+1) by omega]
    have h1:=key 64 0 j (by omega)
    rw [Nat.zero_add] at h1
    exact h1
 exact this ⟨j,hj⟩
theorem zipCV_CW (c:Bool):∀(a b:CV),CW (zipCV c a b) (bif c then a else b):=by
 intro a
 induction a with
 | sv sz n f ih=>
   intro b
   cases b<;>try exact .refl _
   rename_i sz' n' f'
   simp only [zipCV]
   split
   · rename_i e
     have e':=Nat.eq_of_beq_eq_true e
     subst e'
     cases c with
     | true=>exact .sv fun i j _ _=>ih i j _
     | false=>exact .sv fun i j _ _=>ih i j _
   · exact .refl _
 | i k n=>
   intro b
   cases b<;>try exact .refl _
   rename_i k' n'
   simp only [zipCV]
   split
   · rename_i e
     simp at e;subst e
     cases c<;>exact .refl _
   · exact .refl _
 | opv b0 sz f ih=>
   intro b
   cases b with
   | opv b1 sz' f'=>
     simp only [zipCV]
     split
     · rename_i e
       have e':=Nat.eq_of_beq_eq_true e
       subst e'
       cases c with
       | true=>exact .opv fun _ j _=>ih j _
       | false=>exact .opv fun _ j _=>ih j _
     · exact .refl _
   | p0=>
     cases c with
     | true=>exact .refl _
     | false=>intro ro v h;cases h;exact .p0
   | _=>exact .refl _
 | b x=>intro b;cases b<;>cases c<;>exact .refl _
 | s x=>intro b;cases b<;>cases c<;>exact .refl _
 | p0=>intro b;cases b<;>cases c<;>exact .refl _
 | m0=>intro b;cases b<;>cases c<;>exact .refl _
 | f0=>intro b;cases b<;>cases c<;>exact .refl _
 | if0=>intro b;cases b<;>cases c<;>exact .refl _
 | ifc t x ih=>intro b;cases b<;>cases c<;>exact .refl _
structure SS where
 n:Nat
 dur:Nat->Nat->Int
 torn:Nat->Bool
 P:PW
 wr:Nat
 off:Bool
 armed:Bool
 left:Nat
def SS.o (s:SS):AObj:=stO (ofNat s.n) s.dur s.torn (pB s.P) (pW s.P) (lB s.P) (lW s.P) (ofNat s.P.length) (ofNat s.wr) s.off s.armed (ofNat s.left)
theorem SS.OV {s:SS} {pb:Bool} {pw:Nat->CV} {lb:Nat->Bool} {lw:Nat->Nat->CV} {n cnt wr left:Int} {dur:Nat->Nat->Int} {torn:Nat->Bool} {off armed:Bool}
 (h1:CW (.opv pb 66 pw) (.opv (pB s.P) 66 (pW s.P))) (h2:∀k,k<512->CW (.opv (lb k) 66 (lw k)) (.opv (lB s.P k) 66 (lW s.P k)))
 (hn:n=ofNat s.n) (hd:∀i j,i<512->j<64->dur i j=s.dur i j) (ht:∀i,i<512->torn i=s.torn i) (hc:cnt=ofNat s.P.length) (hw:wr=ofNat s.wr) (ho:off=s.off) (ha:armed=s.armed) (hl:left=ofNat s.left) :
 Sim.OV (some (stO n dur torn pb pw lb lw cnt wr off armed left)) (some s.o):=by
 subst hn hc hw ho ha hl
 refine .segsW ⟨.refl _,⟨rfl,rfl,rfl,fun i j hi hj=>?_⟩,⟨rfl,rfl,rfl,fun _ _ _ _=>h1⟩,⟨rfl,rfl,rfl,fun i _ hi _=>h2 i hi⟩,.refl _,trivial⟩
 have hi:i<512:=hi
 refine .of ?_
 show durF dur torn i j=durF s.dur s.torn i j
 unfold durF
 cases hb:Nat.blt j 64 with
 | true=>
   rw [Nat.blt_eq] at hb
   simp only;rw [hd i j hi hb]
 | false=>simp only;rw [ht i hi]
def SS.put (s:SS) (q:Nat) (bs:Nat->Int):SS:={ s with P:=(q,bs) :: s.P}
theorem add2_con (s:SS) (q:Nat) (bs:Nat->Int) (hq:q<512) (hc:s.P.length<4611686018427387904) :
 Con Tryz.prog 192 [.p 0 33281,.i .i64 (ofNat q),.agg (cvL (fun k=>.i .u8 (bs k)) 0 64)] [some s.o] (.tup []) [.set (s.put q bs).o]:=by
 refine (add_con (ofNat s.n) s.dur s.torn (pB s.P) (pW s.P) (lB s.P) (lW s.P) (ofNat s.P.length) (ofNat s.wr) s.off s.armed (ofNat s.left) (ofNat q) bs ⟨by simp,by simp;omega⟩ ⟨by simp,by simp;omega⟩).post (.refl _) ⟨SS.OV ?_ ?_ rfl (fun _ _ _ _=>rfl) (fun _ _=>rfl) ?_ rfl rfl rfl rfl,trivial⟩
 · exact .opv fun _ j hj=>.of (wL_wN _ _ _ _ j hj)
 · intro k hk
   show CW (.opv (bif Nat.beq k q then true else lB s.P k) 66 fun j=>zipCV (Nat.beq k q) (wF (ofNat q) bs (pB s.P) (pW s.P) j) (lW s.P k j))
    (.opv (bif Nat.beq k q then true else lB s.P k) 66 (wN (ofNat k) (bif Nat.beq k q then bs else lbs s.P k) (pB (bif Nat.beq k q then s.P else lrest s.P k)) (pW (bif Nat.beq k q then s.P else lrest s.P k))))
   refine .opv fun _ j hj=>(zipCV_CW _ _ _).trans (.of ?_)
   cases hb:Nat.beq k q with
   | true=>
     have e:=Nat.eq_of_beq_eq_true hb
     subst e
     exact wL_wN _ _ _ _ j hj
   | false=>rfl
 · rfl
def SS.pay (s:SS):SS:=match s.armed with
 | false=>s
 | true=>match Nat.beq s.left 0 with
   | true=>{ s with off:=true,armed:=false}
   | false=>{ s with left:=s.left-1}
def SS.payE (s:SS):Int:=match s.armed with
 | false=>0
 | true=>match Nat.beq s.left 0 with
   | true=>13
   | false=>0
def SS.faultE (s:SS):Int:=bif s.off then 13 else 0
theorem fault2_con (s:SS):Con Tryz.prog 171 [.p 0 0] [some s.o] (.i .i64 s.faultE) [.keep]:=fault_con _ _ _ _ _ _ _ _ _ _ _ _
theorem has2_con (s:SS) (i:Int):Con Tryz.prog 172 [.p 0 0,.i .i64 i] [some s.o] (.b (decide (0<=i/\i<ofNat s.n))) [.keep]:=has_con _ _ _ _ _ _ _ _ _ _ _ _ i
def SS.arm (s:SS) (k:Int):SS:={ s with armed:=decide (0<=k),left:=k.toNat}
def SS.fail (s:SS):SS:={ s with off:=true,armed:=false}
theorem arm2_con (s:SS) (k:Int):Con Tryz.prog 38 [.p 0 0,.i .i64 k] [some s.o] (.tup []) [.set (s.arm k).o]:=by
 have h:=arm_con (ofNat s.n) s.dur s.torn (pB s.P) (pW s.P) (lB s.P) (lW s.P) (ofNat s.P.length) (ofNat s.wr) s.off s.armed (ofNat s.left) k
 have e:(if 0>k then 0 else k)=ofNat k.toNat:=by split<;>simp<;>omega
 rw [e] at h
 exact h
theorem fail2_con (s:SS):Con Tryz.prog 62 [.p 0 0] [some s.o] (.tup []) [.set s.fail.o]:=fail_con _ _ _ _ _ _ _ _ _ _ _ _
theorem off2_con (s:SS):Con Tryz.prog 127 [.p 0 0] [some s.o] (.b s.off) [.keep]:=off_con _ _ _ _ _ _ _ _ _ _ _ _
theorem len2_con (s:SS):Con Tryz.prog 126 [.p 0 0] [some s.o] (.i .i64 (ofNat s.n)) [.keep]:=len_con _ _ _ _ _ _ _ _ _ _ _ _
theorem writeA_vc (s:SS) (q N:Nat) (e5:TypeId) (bs:Nat->Int) (K:Res->Orc->Prop):runK Tryz.prog 1000000 (.call 175 [.p 0 0,inv q,.lr 1 1 0 64 false] (mkH [some s.o,some (.rows e5 1 N fun k _=>.i .u8 (bs k))])) (.cal [0] (.i .i64 (SS.faultE s)) [.keep] (.s .z (.cal [0] (.b (decide ((0:Int)<=ofNat q/\ofNat q<ofNat (SS.n s)))) [.keep] (.s (.t (.t (.f (.c (.cal [0] (.tup []) [.set (SS.o (SS.put s q bs))] (.inl (.s .z (.s (.inl (.c .z)) .z)))))))) (.f (.f (.t (.c .z)))))))) K=((fun (q3:Nat)=>((fun (q2:Nat)=>((fun (q1:Int)=>((fun (q0:Bool)=>(Con Tryz.prog 171 [.p 0 0] [some (SS.o s)] (.i .i64 (SS.faultE s)) [.keep]/\((!decide (SS.faultE s=(0:Int)))=true->K (.rv (.i .i64 (SS.faultE s)) ⟨zz1 (AObj.segs 120 33799 [⟨0,1,1,oneF (CV.i .i64 (ofNat (SS.n s)))⟩,⟨1,65,512,durF (SS.dur s) (SS.torn s)⟩,⟨33281,1,1,oneF (CV.opv (pB (SS.P s)) 66 (pW (SS.P s)))⟩,⟨33282,1,512,latF (lB (SS.P s)) (lW (SS.P s))⟩,⟨33794,5,1,tailF (ofNat (List.length (SS.P s))) (ofNat (SS.wr s)) (SS.off s) (SS.armed s) (ofNat (SS.left s))⟩]) (zzl (AObj.rows e5 1 N fun k x=>CV.i .u8 (bs k))) .e,2,[]⟩) .z)/\((!decide (SS.faultE s=(0:Int)))=false->Con Tryz.prog 172 [.p 0 0,inv q] [some (SS.o s)] (.b (decide ((0:Int)<=ofNat q/\ofNat q<ofNat (SS.n s)))) [.keep]/\True/\(q0=true->q0=true/\q0=true/\(!decide ((0:Int)<=ofNat q/\ofNat q<ofNat (SS.n s)))=false/\True/\(64<=64/\0<64)/\64<=N/\Con Tryz.prog 192 [.p 0 33281,inv q,.agg (cvL (fun k=>CV.i .u8 (bs k)) 0 64)] [some (SS.o s)] (.tup []) [.set (SS.o (SS.put s q bs))]/\True/\True/\rg (ofNat (SS.wr (SS.put s q bs))+1)/\True/\True/\True/\True/\True/\((!SS.armed (SS.put s q bs))=true->K (.rv (.i .i64 (0:Int)) ⟨zz1 (AObj.segs 120 33799 [⟨0,1,1,oneF (CV.i .i64 (ofNat (SS.n (SS.put s q bs))))⟩,⟨1,65,512,durF (SS.dur (SS.put s q bs)) (SS.torn (SS.put s q bs))⟩,⟨33281,1,1,oneF (CV.opv (pB (SS.P (SS.put s q bs))) 66 (pW (SS.P (SS.put s q bs))))⟩,⟨33282,1,512,latF (lB (SS.P (SS.put s q bs))) (lW (SS.P (SS.put s q bs)))⟩,⟨33794,5,1,setRow (fun x j=>match j with | 0=>CV.i .i64 (ofNat q2) | 1=>CV.i .i64 (ofNat (SS.wr (SS.put s q bs))) | 2=>CV.b (SS.off (SS.put s q bs)) | 3=>CV.b (SS.armed (SS.put s q bs)) | x=>CV.i .i64 q1) 0 1 [CV.i .i64 (ofNat (SS.wr (SS.put s q bs))+(1:Int))]⟩]) (zzl (AObj.rows e5 1 N fun k x=>CV.i .u8 (bs k))) .e,2,[0,0]⟩) .z)/\((!SS.armed (SS.put s q bs))=false->True/\True/\(decide (ofNat (SS.left (SS.put s q bs))=(0:Int))=true->True/\True/\True/\True/\True/\K (.rv (.i .i64 (13:Int)) ⟨zz1 (AObj.segs 120 33799 [⟨0,1,1,oneF (CV.i .i64 (ofNat (SS.n (SS.put s q bs))))⟩,⟨1,65,512,durF (SS.dur (SS.put s q bs)) (SS.torn (SS.put s q bs))⟩,⟨33281,1,1,oneF (CV.opv (pB (SS.P (SS.put s q bs))) 66 (pW (SS.P (SS.put s q bs))))⟩,⟨33282,1,512,latF (lB (SS.P (SS.put s q bs))) (lW (SS.P (SS.put s q bs)))⟩,⟨33794,5,1,setRow (fun i' j'=>match Nat.ble 2 j' with | true=>(match [CV.b true][j'-2 % 5]? with | some c=>zipCV (Nat.beq i' 0) c (Seg.f ⟨33794,5,1,setRow (fun x j=>match j with | 0=>CV.i .i64 (ofNat q2) | 1=>CV.i .i64 (ofNat (SS.wr (SS.put s q bs))) | 2=>CV.b (SS.off (SS.put s q bs)) | 3=>CV.b (SS.armed (SS.put s q bs)) | x=>CV.i .i64 q1) 0 1 [CV.i .i64 (ofNat (SS.wr (SS.put s q bs))+(1:Int))]⟩ i' j') | none=>Seg.f ⟨33794,5,1,setRow (fun x j=>match j with | 0=>CV.i .i64 (ofNat q2) | 1=>CV.i .i64 (ofNat (SS.wr (SS.put s q bs))) | 2=>CV.b (SS.off (SS.put s q bs)) | 3=>CV.b (SS.armed (SS.put s q bs)) | x=>CV.i .i64 q1) 0 1 [CV.i .i64 (ofNat (SS.wr (SS.put s q bs))+(1:Int))]⟩ i' j') | false=>Seg.f ⟨33794,5,1,setRow (fun x j=>match j with | 0=>CV.i .i64 (ofNat q2) | 1=>CV.i .i64 (ofNat (SS.wr (SS.put s q bs))) | 2=>CV.b (SS.off (SS.put s q bs)) | 3=>CV.b (SS.armed (SS.put s q bs)) | x=>CV.i .i64 q1) 0 1 [CV.i .i64 (ofNat (SS.wr (SS.put s q bs))+(1:Int))]⟩ i' j') 0 3 [CV.b false]⟩]) (zzl (AObj.rows e5 1 N fun k x=>CV.i .u8 (bs k))) .e,2,[0,0,0,0]⟩) .z)/\(decide (ofNat (SS.left (SS.put s q bs))=(0:Int))=false->True/\True/\rg (ofNat (SS.left (SS.put s q bs))-1)/\True/\True/\K (.rv (.i .i64 (0:Int)) ⟨zz1 (AObj.segs 120 33799 [⟨0,1,1,oneF (CV.i .i64 (ofNat (SS.n (SS.put s q bs))))⟩,⟨1,65,512,durF (SS.dur (SS.put s q bs)) (SS.torn (SS.put s q bs))⟩,⟨33281,1,1,oneF (CV.opv (pB (SS.P (SS.put s q bs))) 66 (pW (SS.P (SS.put s q bs))))⟩,⟨33282,1,512,latF (lB (SS.P (SS.put s q bs))) (lW (SS.P (SS.put s q bs)))⟩,⟨33794,5,1,setRow (fun i' j'=>match Nat.ble 1 j' with | true=>(match [CV.i .i64 (ofNat (SS.wr (SS.put s q bs))+(1:Int))][j'-1 % 5]? with | some c=>zipCV (Nat.beq i' 0) c (Seg.f ⟨33794,5,1,tailF (ofNat q3) (ofNat (SS.wr (SS.put s q bs))) (SS.off (SS.put s q bs)) (SS.armed (SS.put s q bs)) q1⟩ i' j') | none=>Seg.f ⟨33794,5,1,tailF (ofNat q3) (ofNat (SS.wr (SS.put s q bs))) (SS.off (SS.put s q bs)) (SS.armed (SS.put s q bs)) q1⟩ i' j') | false=>Seg.f ⟨33794,5,1,tailF (ofNat q3) (ofNat (SS.wr (SS.put s q bs))) (SS.off (SS.put s q bs)) (SS.armed (SS.put s q bs)) q1⟩ i' j') 0 4 [CV.i .i64 (ofNat (SS.left (SS.put s q bs))-(1:Int))]⟩]) (zzl (AObj.rows e5 1 N fun k x=>CV.i .u8 (bs k))) .e,2,[0,0,0]⟩) .z)))/\(q0=false->q0=false/\q0=false/\(!decide ((0:Int)<=ofNat q/\ofNat q<ofNat (SS.n s)))=true/\K (.rv (.i .i64 (2:Int)) ⟨zz1 (AObj.segs 120 33799 [⟨0,1,1,oneF (CV.i .i64 (ofNat (SS.n s)))⟩,⟨1,65,512,durF (SS.dur s) (SS.torn s)⟩,⟨33281,1,1,oneF (CV.opv (pB (SS.P s)) 66 (pW (SS.P s)))⟩,⟨33282,1,512,latF (lB (SS.P s)) (lW (SS.P s))⟩,⟨33794,5,1,tailF (ofNat (List.length (SS.P s))) (ofNat (SS.wr s)) (SS.off s) (SS.armed s) (ofNat (SS.left s))⟩]) (zzl (AObj.rows e5 1 N fun k x=>CV.i .u8 (bs k))) .e,2,[]⟩) .z)))) (!!decide ((0:Int)<=ofNat q/\ofNat q<ofNat (SS.n s))))) (ofNat (SS.left (SS.put s q bs))))) (List.length ((q,bs) :: SS.P s)))) (List.length (SS.P (SS.put s q bs)))):=by kernel_rfl
def SS.wrote (s:SS) (q:Nat) (bs:Nat->Int):SS:={ s with P:=(q,bs) :: s.P,wr:=s.wr+1}
structure SS.Ok (s:SS):Prop where
 n:s.n<=512
 P:s.P.length<4611686018427387904
 wr:s.wr<4611686018427387904
 left:s.left<9223372036854775808
 at_:∀w∈s.P,w.1<s.n
def SS.wrE (s:SS) (i:Int) (L:Nat):Int:=match s.off with
 | true=>13
 | false=>match decide (0<=i/\i<ofNat s.n/\L=64) with
   | true=>(s.wrote i.toNat fun _=>0).payE
   | false=>2
def SS.wrS (s:SS) (i:Int) (L:Nat) (bs:Nat->Int):SS:=match s.off with
 | true=>s
 | false=>match decide (0<=i/\i<ofNat s.n/\L=64) with
   | true=>(s.wrote i.toNat bs).pay
   | false=>s
theorem list_vc (bs:Nat->Int) (K:Res->Orc->Prop):runK Tryz.prog 1000000 (.call 173 [.agg (cvL (fun k=>.i .u8 (bs k)) 0 64)] (mkH [])) (.c .z) K=(K (.rv (.l 0 0 64 64 1 true) ⟨zzl (AObj.cells 111 64 [] (zz1 (.i .u8 (bs 0)) (zz1 (.i .u8 (bs 1)) (zz1 (.i .u8 (bs 3)) (zz1 (.i .u8 (bs 7)) (zz1 (.i .u8 (bs 15)) (zz1 (.i .u8 (bs 31)) (zzl (.i .u8 (bs 63))) .e) (zzl (.i .u8 (bs 47)))) (zz1 (.i .u8 (bs 23)) (zzl (.i .u8 (bs 39))) (zzl (.i .u8 (bs 55))))) (zz1 (.i .u8 (bs 11)) (zz1 (.i .u8 (bs 19)) (zzl (.i .u8 (bs 35))) (zzl (.i .u8 (bs 51)))) (zz1 (.i .u8 (bs 27)) (zzl (.i .u8 (bs 43))) (zzl (.i .u8 (bs 59)))))) (zz1 (.i .u8 (bs 5)) (zz1 (.i .u8 (bs 9)) (zz1 (.i .u8 (bs 17)) (zzl (.i .u8 (bs 33))) (zzl (.i .u8 (bs 49)))) (zz1 (.i .u8 (bs 25)) (zzl (.i .u8 (bs 41))) (zzl (.i .u8 (bs 57))))) (zz1 (.i .u8 (bs 13)) (zz1 (.i .u8 (bs 21)) (zzl (.i .u8 (bs 37))) (zzl (.i .u8 (bs 53)))) (zz1 (.i .u8 (bs 29)) (zzl (.i .u8 (bs 45))) (zzl (.i .u8 (bs 61))))))) (zz1 (.i .u8 (bs 2)) (zz1 (.i .u8 (bs 4)) (zz1 (.i .u8 (bs 8)) (zz1 (.i .u8 (bs 16)) (zzl (.i .u8 (bs 32))) (zzl (.i .u8 (bs 48)))) (zz1 (.i .u8 (bs 24)) (zzl (.i .u8 (bs 40))) (zzl (.i .u8 (bs 56))))) (zz1 (.i .u8 (bs 12)) (zz1 (.i .u8 (bs 20)) (zzl (.i .u8 (bs 36))) (zzl (.i .u8 (bs 52)))) (zz1 (.i .u8 (bs 28)) (zzl (.i .u8 (bs 44))) (zzl (.i .u8 (bs 60)))))) (zz1 (.i .u8 (bs 6)) (zz1 (.i .u8 (bs 10)) (zz1 (.i .u8 (bs 18)) (zzl (.i .u8 (bs 34))) (zzl (.i .u8 (bs 50)))) (zz1 (.i .u8 (bs 26)) (zzl (.i .u8 (bs 42))) (zzl (.i
 .u8 (bs 58))))) (zz1 (.i .u8 (bs 14)) (zz1 (.i .u8 (bs 22)) (zzl (.i .u8 (bs 38))) (zzl (.i .u8 (bs 54)))) (zz1 (.i .u8 (bs 30)) (zzl (.i .u8 (bs 46))) (zzl (.i .u8 (bs 62))))))))),1,[0]⟩) .z):=by kernel_rfl
theorem list_con (bs:Nat->Int):Con Tryz.prog 173 [.agg (cvL (fun k=>.i .u8 (bs k)) 0 64)] [] (.lr 0 1 0 64 true) [.set (.rows 111 1 64 fun k _=>.i .u8 (bs k))]:=
 (con_of_run (v:=.l 0 0 64 64 1 true) (us:=[.set (cellsO 111 (cvL (fun k=>.i .u8 (bs k)) 0 64))]) [] [0] ((list_vc bs _).mpr ⟨_,_,rfl,ret_k (by kernel_rfl)⟩)).post VW.l_lrE ⟨.x .cvRows,trivial⟩
theorem read2_vc (s:SS) (i:Int) (K:Res->Orc->Prop):runK Tryz.prog 1000000 (.call 154 [.p 0 0,.i .i64 i] (mkH [some s.o])) (.cal [0] (.i .i64 (SS.faultE s)) [.keep] (.s .z (.cal [0] (.b (decide (0<=i/\i<ofNat (SS.n s)))) [.keep] (.s .z (.s (.s (.cal [] (.lr 0 1 0 64 true) [.set (AObj.rows 111 1 64 fun k x=>CV.i .u8 (lbs (SS.P s) (Int.toNat i) k))] .z) (.s (.s .z (.s (.cal [] (.lr 0 1 0 64 true) [.set (AObj.rows 111 1 64 fun k x=>CV.i .u8 (SS.dur s (Int.toNat i) k))] .z) .z)) .z)) .z))))) K=((fun (q1:AV)=>((fun (q0:Int)=>(Con Tryz.prog 171 [.p 0 0] [some (SS.o s)] (.i .i64 (SS.faultE s)) [.keep]/\((!decide (SS.faultE s=0))=true->K (.rv (.tup [.l0,.i .i64 (SS.faultE s)]) ⟨zzl (AObj.segs 120 33799 [⟨0,1,1,oneF (CV.i .i64 (ofNat (SS.n s)))⟩,⟨1,65,512,durF (SS.dur s) (SS.torn s)⟩,⟨33281,1,1,oneF (CV.opv (pB (SS.P s)) 66 (pW (SS.P s)))⟩,⟨33282,1,512,latF (lB (SS.P s)) (lW (SS.P s))⟩,⟨33794,5,1,tailF q0 (ofNat (SS.wr s)) (SS.off s) (SS.armed s) (ofNat (SS.left s))⟩]),1,[]⟩) .z)/\((!decide (SS.faultE s=0))=false->Con Tryz.prog 172 [.p 0 0,.i .i64 i] [some (SS.o s)] (.b (decide (0<=i/\i<ofNat (SS.n s)))) [.keep]/\True/\((!decide (0<=i/\i<ofNat (SS.n s)))=true->K (.rv (.tup [.l0,.i .i64 2]) ⟨zzl (AObj.segs 120 33799 [⟨0,1,1,oneF (CV.i .i64 (ofNat (SS.n s)))⟩,⟨1,65,512,durF (SS.dur s) (SS.torn s)⟩,⟨33281,1,1,oneF (CV.opv (pB (SS.P s)) 66 (pW (SS.P s)))⟩,⟨33282,1,512,
 latF (lB (SS.P s)) (lW (SS.P s))⟩,⟨33794,5,1,tailF q0 (ofNat (SS.wr s)) (SS.off s) (SS.armed s) (ofNat (SS.left s))⟩]),1,[]⟩) .z)/\((!decide (0<=i/\i<ofNat (SS.n s)))=false->True/\True/\(0<=i/\i<512)/\Int.toNat i<512/\True/\((!!lB (SS.P s) (Int.toNat i))=true->lB (SS.P s) (Int.toNat i)=true/\True/\True/\Con Tryz.prog 173 [.agg (cvL (fun k=>CV.i .u8 (lbs (SS.P s) (Int.toNat i) k)) 0 64)] [] (.lr 0 1 0 64 true) [.set (AObj.rows 111 1 64 fun k x=>CV.i .u8 (lbs (SS.P s) (Int.toNat i) k))]/\K (.rv q1 ⟨zz1 (AObj.segs 120 33799 [⟨0,1,1,oneF (CV.i .i64 (ofNat (SS.n s)))⟩,⟨1,65,512,durF (SS.dur s) (SS.torn s)⟩,⟨33281,1,1,oneF (CV.opv (pB (SS.P s)) 66 (pW (SS.P s)))⟩,⟨33282,1,512,latF (lB (SS.P s)) (lW (SS.P s))⟩,⟨33794,5,1,tailF q0 (ofNat (SS.wr s)) (SS.off s) (SS.armed s) (ofNat (SS.left s))⟩]) (zzl (AObj.rows 111 1 64 fun k x=>CV.i .u8 (lbs (SS.P s) (Int.toNat i) k))) .e,2,[1]⟩) .z)/\((!!lB (SS.P s) (Int.toNat i))=false->True/\(0<=i/\i<512)/\True/\Int.toNat i<512/\(SS.torn s (Int.toNat i)=true->K (.rv (.tup [.l0,.i .i64 14]) ⟨zzl (AObj.segs 120 33799 [⟨0,1,1,oneF (CV.i .i64 (ofNat (SS.n s)))⟩,⟨1,65,512,durF (SS.dur s) (SS.torn s)⟩,⟨33281,1,1,oneF (CV.opv (pB (SS.P s)) 66 (pW (SS.P s)))⟩,⟨33282,1,512,latF (lB (SS.P s)) (lW (SS.P s))⟩,⟨33794,5,1,tailF q0 (ofNat (SS.wr s)) (SS.off s) (SS.armed s) (ofNat (SS.left s))⟩]),1,[]⟩) .z)/\(SS.torn s
 (Int.toNat i)=false->True/\(0<=i/\i<512)/\True/\Int.toNat i<512/\Con Tryz.prog 173 [.agg (cvL (fun k=>CV.i .u8 (SS.dur s (Int.toNat i) k)) 0 64)] [] (.lr 0 1 0 64 true) [.set (AObj.rows 111 1 64 fun k x=>CV.i .u8 (SS.dur s (Int.toNat i) k))]/\K (.rv q1 ⟨zz1 (AObj.segs 120 33799 [⟨0,1,1,oneF (CV.i .i64 (ofNat (SS.n s)))⟩,⟨1,65,512,durF (SS.dur s) (SS.torn s)⟩,⟨33281,1,1,oneF (CV.opv (pB (SS.P s)) 66 (pW (SS.P s)))⟩,⟨33282,1,512,latF (lB (SS.P s)) (lW (SS.P s))⟩,⟨33794,5,1,tailF q0 (ofNat (SS.wr s)) (SS.off s) (SS.armed s) (ofNat (SS.left s))⟩]) (zzl (AObj.rows 111 1 64 fun k x=>CV.i .u8 (SS.dur s (Int.toNat i) k))) .e,2,[1]⟩) .z)))))) (ofNat (List.length (SS.P s))))) (.tup [.lr 1 1 0 64 true,.i .i64 0])):=by kernel_rfl
def SS.rdE (s:SS) (i:Int):Int:=match s.off with
 | true=>13
 | false=>match decide (0<=i/\i<ofNat s.n) with
   | false=>2
   | true=>match lB s.P i.toNat with
     | true=>0
     | false=>match s.torn i.toNat with
       | true=>14
       | false=>0
def SS.rdB (s:SS) (i:Int):Nat->Int:=match lB s.P i.toNat with
 | true=>lbs s.P i.toNat
 | false=>s.dur i.toNat
def SS.rdN (s:SS) (i:Int):Nat:=match Int.decEq (s.rdE i) 0 with
 | isTrue _=>64
 | isFalse _=>0
theorem SS.rdN_0 {s:SS} {i:Int} (h:s.rdE i≠0):s.rdN i=0:=by
 unfold SS.rdN
 split
 · rename_i h' _;exact absurd h' h
 · rfl
theorem SS.rdN_64 {s:SS} {i:Int} (h:s.rdE i=0):s.rdN i=64:=by
 unfold SS.rdN
 split
 · rfl
 · rename_i h' _;exact absurd h h'
theorem read_con (s:SS) (i:Int) (hn:s.n<=512):Con Tryz.prog 154 [.p 0 0,.i .i64 i] [some s.o] (.tup [.lr 1 1 0 (s.rdN i) true,.i .i64 (s.rdE i)]) [.keep,.set (.rows 111 1 (s.rdN i) fun k _=>.i .u8 (s.rdB i k))]:=by
 have bad:∀e:Int,e≠0->s.rdE i=e->Con Tryz.prog 154 [.p 0 0,.i .i64 i] [some s.o] (.tup [.l0,.i .i64 e]) [.keep]->
  Con Tryz.prog 154 [.p 0 0,.i .i64 i] [some s.o] (.tup [.lr 1 1 0 (s.rdN i) true,.i .i64 (s.rdE i)]) [.keep,.set (.rows 111 1 (s.rdN i) fun k _=>.i .u8 (s.rdB i k))]:=by
  intro e he hE h
  rw [SS.rdN_0 (by rw [hE];exact he),hE]
  exact (h.padV (Nat.le_refl 1) (.rows 111 1 0 fun k _=>.i .u8 (s.rdB i k)) rfl).post (.tup ⟨VW.l0_lr,.refl _,trivial⟩) (OVL.refl _)
 cases ho:s.off with
 | true=>
   refine bad 13 (by decide) (by unfold SS.rdE;rw [ho]) (con_of_run [] [] ((read2_vc s i _).mpr ⟨fault2_con _,fun h=>?_,fun h=>?_⟩))
   · have e0:s.faultE=13:=by unfold SS.faultE;rw [ho];rfl
     rw [e0]
     exact ⟨_,_,rfl,ret_k (by kernel_rfl)⟩
   · simp [SS.faultE,ho] at h
 | false=>
   have e0:s.faultE=0:=by unfold SS.faultE;rw [ho];rfl
   cases hi:decide (0<=i/\i<ofNat s.n) with
   | false=>
     refine bad 2 (by decide) (by unfold SS.rdE;rw [ho];simp only [hi]) (con_of_run [] [] ((read2_vc s i _).mpr ⟨fault2_con _,fun h=>by rw [e0] at h;simp at h,fun _=>⟨has2_con _ _,trivial,fun _=>?_,fun h=>by rw [hi] at h;simp at h⟩⟩))
     exact ⟨_,_,rfl,ret_k (by kernel_rfl)⟩
   | true=>
     have hi':0<=i/\i<ofNat s.n:=of_decide_eq_true hi
     have h5:0<=i/\i<512:=⟨hi'.1,by have:=hi'.2;simp at this;omega⟩
     have h6:i.toNat<512:=by omega
     cases hb:lB s.P i.toNat with
     | true=>
       have hE:s.rdE i=0:=by unfold SS.rdE;rw [ho];simp only [hi,hb]
       have hB:s.rdB i=lbs s.P i.toNat:=by unfold SS.rdB;rw [hb]
       rw [SS.rdN_64 hE,hE,hB]
       refine con_of_run [] [1] ((read2_vc s i _).mpr ⟨fault2_con _,fun h=>by rw [e0] at h;simp at h,fun _=>⟨has2_con _ _,trivial,fun h=>by rw [hi] at h;simp at h,fun _=>⟨trivial,trivial,h5,h6,trivial,fun _=>⟨hb,trivial,trivial,list_con _,?_⟩,fun h=>by rw [hb] at h;simp at h⟩⟩⟩)
       exact ⟨_,_,rfl,ret_k (by kernel_rfl)⟩
     | false=>
       cases ht:s.torn i.toNat with
       | true=>
         refine bad 14 (by decide) (by unfold SS.rdE;rw [ho];simp only [hi,hb,ht]) (con_of_run [] [] ((read2_vc s i _).mpr ⟨fault2_con _,fun h=>by rw [e0] at h;simp at h,fun _=>⟨has2_con _ _,trivial,fun h=>by rw [hi] at h;simp at h,fun _=>⟨trivial,trivial,h5,h6,trivial,fun h=>by rw [hb] at h;simp at h,fun _=>⟨trivial,h5,trivial,h6,fun _=>?_,fun h=>by rw [ht] at h;simp at h⟩⟩⟩⟩))
         exact ⟨_,_,rfl,ret_k (by kernel_rfl)⟩
       | false=>
         have hE:s.rdE i=0:=by unfold SS.rdE;rw [ho];simp only [hi,hb,ht]
         have hB:s.rdB i=s.dur i.toNat:=by unfold SS.rdB;rw [hb]
         rw [SS.rdN_64 hE,hE,hB]
         refine con_of_run [] [1] ((read2_vc s i _).mpr ⟨fault2_con _,fun h=>by rw [e0] at h;simp at h,fun _=>⟨has2_con _ _,trivial,fun h=>by rw [hi] at h;simp at h,fun _=>⟨trivial,trivial,h5,h6,trivial,fun h=>by rw [hb] at h;simp at h,fun _=>⟨trivial,h5,trivial,h6,fun h=>by rw [ht] at h;simp at h,fun _=>⟨trivial,h5,trivial,h6,list_con _,?_⟩⟩⟩⟩⟩)
         exact ⟨_,_,rfl,ret_k (by kernel_rfl)⟩
end Go.Proofs.St
