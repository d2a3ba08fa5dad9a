/- Runs over unknown values, told by the kernel: part GF. -/
import Derived.Test.YtbilafnamckglaaDoorGE
noncomputable section
open Int (ofNat)
set_option linter.unusedSimpArgs false
set_option linter.unusedVariables false
set_option maxRecDepth 20000
namespace Go.Proofs.Jn
open Go Go.Sim Go.Proofs Go.Proofs.Cd Go.Proofs.St Go.Proofs.Cl Go.Proofs.YtbilafnamckglaaDoor
theorem jown_vc (L:Nat) (f:Nat→Nat→CV) (K:Res→Orc→Prop):runK PG 1000000 (.call 25 [.sv 1 L f] (mkH [])) (.s .z .z) K=(((1=1∧0+L≤L)∧True∧True∧0+L≤140737488355328∧(3*(0+L)+1536)*1≤562949953421312)∧K (.rv (.sv 1 L f) ⟨t0 (t0 .e .e) .e,2,[1,1,0,0]⟩) .z):=by kernel_rfl
theorem jown_con (L:Nat) (f:Nat→Nat→CV) (hL:L≤140737488351232):Con PG 25 [.sv 1 L f] [] (.sv 1 L f) []:=
 con_of_run [] [] ((jown_vc L f _).mpr ⟨⟨⟨rfl,by omega⟩,trivial,trivial,by omega,by omega⟩,_,_,rfl,ret_k (by kernel_rfl)⟩)
def m2 (L:Nat) (i:Nat):Nat:=if i=0 then L else 0
end Go.Proofs.Jn
namespace Go.Proofs.Cd
open Go Go.Sim Go.Proofs Go.Proofs.YtbilafnamckglaaDoor
def rstep (x b k:Nat):Nat:=bif Nat.beq (Nat.land (Nat.shiftRight b k) 1) (Nat.land x 1) then Nat.shiftRight x 1 else Nat.xor (Nat.shiftRight x 1) 2197175160
def rsteps (b:Nat):Nat→Nat→Nat
 | 0,x=>x
 | k+1,x=>rstep (rsteps b k x) b k
theorem land1_or (x:Nat):Nat.land x 1=0∨Nat.land x 1=1:=by have:=land1 x;omega
theorem rstep_step (x b k:Nat):stepN (Nat.xor x (Nat.shiftRight b k))=Nat.xor (rstep x b k) (Nat.shiftRight b (k+1)):=by
 have e1:Nat.shiftRight (Nat.xor x (Nat.shiftRight b k)) 1=Nat.xor (Nat.shiftRight x 1) (Nat.shiftRight b (k+1)):=by
  show (x ^^^ (b >>>k)) >>>1=(x >>>1) ^^^ (b >>>(k+1))
  rw [Nat.shiftRight_xor_distrib,Nat.shiftRight_add]
 have e2:Nat.land (Nat.xor x (Nat.shiftRight b k)) 1=Nat.xor (Nat.land x 1) (Nat.land (Nat.shiftRight b k) 1):=by
  show (x ^^^ (b >>>k)) &&& 1=(x &&& 1) ^^^ ((b >>>k) &&& 1)
  rw [Nat.and_xor_distrib_right]
 unfold stepN rstep
 rw [e1,e2]
 rcases land1_or x with h1 | h1<;>rcases land1_or (Nat.shiftRight b k) with h2 | h2<;>rw [h1,h2]
 · show ((x >>>1) ^^^ (b >>>(k+1))) ^^^ 0=(x >>>1) ^^^ (b >>>(k+1))
   rw [Nat.xor_zero]
 · show ((x >>>1) ^^^ (b >>>(k+1))) ^^^ 2197175160=((x >>>1) ^^^ 2197175160) ^^^ (b >>>(k+1))
   rw [Nat.xor_assoc,Nat.xor_comm (b >>>(k+1)),Nat.xor_assoc]
 · show ((x >>>1) ^^^ (b >>>(k+1))) ^^^ 2197175160=((x >>>1) ^^^ 2197175160) ^^^ (b >>>(k+1))
   rw [Nat.xor_assoc,Nat.xor_comm (b >>>(k+1)),Nat.xor_assoc]
 · show ((x >>>1) ^^^ (b >>>(k+1))) ^^^ 0=(x >>>1) ^^^ (b >>>(k+1))
   rw [Nat.xor_zero]
theorem stepsN_s (r:Nat):∀n,stepsN (n+1) r=stepN (stepsN n r):=fun n=>by
 induction n generalizing r with
 | zero=>rfl
 | succ n ih=>rw [stepsN_add,ih (stepN r)];rfl
theorem rsteps_steps (b x:Nat):∀k,stepsN k (Nat.xor x b)=Nat.xor (rsteps b k x) (Nat.shiftRight b k)
 | 0=>by
   show x ^^^ b=x ^^^ (b >>>0)
   rw [Nat.shiftRight_zero]
 | k+1=>by
   rw [stepsN_s,rsteps_steps b x k,rstep_step];rfl
theorem rsteps8 {b:Nat} (x:Nat) (hb:b<256):rsteps b 8 x=stepsN 8 (Nat.xor x b):=by
 rw [rsteps_steps]
 have e:Nat.shiftRight b 8=0:=by
  show b >>>8=0
  rw [Nat.shiftRight_eq_div_pow];omega
 rw [e]
 show _=rsteps b 8 x ^^^ 0
 rw [Nat.xor_zero]
theorem rstep_lt {x:Nat} (h:x<4294967296) (b k:Nat):rstep x b k<4294967296:=by
 have h1:Nat.shiftRight x 1<4294967296:=by
  show x >>>1<_
  rw [Nat.shiftRight_eq_div_pow];omega
 unfold rstep
 cases Nat.beq (Nat.land (Nat.shiftRight b k) 1) (Nat.land x 1) with
 | true=>exact h1
 | false=>exact Nat.xor_lt_two_pow (n:=32) h1 (by decide)
theorem rsteps_lt {x:Nat} (h:x<4294967296) (b:Nat):∀k,rsteps b k x<4294967296
 | 0=>h
 | k+1=>rstep_lt (rsteps_lt h b k) b k
theorem rsumi_vc (L i k:Nat) (b:Nat→Nat) (x:Nat) (K:Res→Orc→Prop):runK PG 1000000 (.code (loopAt PG 88 1) 38 (mkT [(0,.sv 1 L (byF b)),(3,.i .u32 (ofNat x)),(4,.i .i64 (ofNat i)),(5,.i .i64 (ofNat k))]) (mkH [])) (.s (.s .z .z) .z) K=((fun (q11:AV)=>((fun (q10:AV)=>((fun (q9:AV)=>((fun (q8:AV)=>((fun (q7:AV)=>((fun (q6:AV)=>((fun (q5:AV)=>((fun (q4:Nat)=>((fun (q3:Bool)=>((fun (q2:AV)=>((fun (q1:AV)=>((fun (q0:AV)=>((decide (ofNat k<8)=true→(0≤ofNat i∧ofNat i<↑L)∧True∧True∧True∧0≤wrapA .u64 (ofNat k)∧True∧True∧(0:Int)≤(1:Int)∧(q3=true→True∧rg (ofNat k+1)∧K (.st .nrm (t1 (.sv 1 L (byF b)) (t0 (t1 q5 (t1 q1 (t1 q9 (tl q0) .e) (tn k)) (t0 (t1 (inv i) (tl q5) .e) (tl q7))) (t1 q8 (t0 (t1 q8 (tl q2) .e) (tl (.i .u32 (Int.fdiv (wrapA .u32 (ofNat (b i))) (2 ^ min q4 32))))) (t0 (tl (.i .u8 (ofNat (b i)))) (tl q7)))) (t0 (t1 (inv i) (t0 (t1 (inv k) (tl q1) .e) (tl q11)) (t0 (tl (.pv 1 (byF b i))) (tl q1))) (t1 q0 (t0 (t1 (.sv 1 L (byF b)) (tl q6) .e) (tl q0)) (t1 (inv k) (tl q10) (tl q6))))) ⟨.e,0,[]⟩) .z)∧(q3=false→rg (ofNat k+1)∧K (.st .nrm (t1 (.sv 1 L (byF b)) (t0 (t1 q6 (t1 q1 (t1 q9 (tl q0) .e) (tn k)) (t0 (tn i) (tl q7))) (t1 q8 (t0 (t1 q8 (tl q2) .e) (tl (.i .u32 (Int.fdiv (wrapA .u32 (ofNat (b i))) (2 ^ min q4 32))))) (t0 (tl (.i .u8 (ofNat (b i)))) (tl q7)))) (t0 (t1 (inv i) (t0 (t1 (inv k) (tl
 q1) .e) (tl q11)) (t0 (tl (.pv 1 (byF b i))) (tl q1))) (t1 q0 (t0 (tl (.sv 1 L (byF b))) (tl q0)) (t1 (inv k) (tl q10) (tl q6))))) ⟨.e,0,[]⟩) .z))∧(decide (ofNat k<8)=false→K (.st (.exit 2) (t1 (.sv 1 L (byF b)) (t0 (t1 q7 (t0 (tl q9) .e) .e) (tn k)) (t0 (tn i) (t0 .e (tn k)))) ⟨.e,0,[]⟩) .z))) (.i .u32 (wrapA .u32 ↑(BitVec.toNat (BitVec.ofInt 32 (Int.fdiv (wrapA .u32 (ofNat (b i))) (2 ^ min q4 32)) &&& BitVec.ofInt 32 1)))))) (.i .u32 (wrapA .u32 ↑(BitVec.toNat (BitVec.ofInt 32 (ofNat x) &&& BitVec.ofInt 32 1)))))) (.b !decide (wrapA .u32 ↑(BitVec.toNat (BitVec.ofInt 32 (Int.fdiv (wrapA .u32 (ofNat (b i))) (2 ^ min q4 32)) &&& BitVec.ofInt 32 1))=wrapA .u32 ↑(BitVec.toNat (BitVec.ofInt 32 (ofNat x) &&& BitVec.ofInt 32 1)))))) (!decide (wrapA .u32 ↑(BitVec.toNat (BitVec.ofInt 32 (Int.fdiv (wrapA .u32 (ofNat (b i))) (2 ^ min q4 32)) &&& BitVec.ofInt 32 1))=wrapA .u32 ↑(BitVec.toNat (BitVec.ofInt 32 (ofNat x) &&& BitVec.ofInt 32 1)))))) (Int.toNat (wrapA .u64 (ofNat k))))) (.i .u32 (wrapA .u32 ↑(BitVec.toNat (BitVec.ofInt 32 (Int.fdiv (ofNat x) 2) ^^^ BitVec.ofInt 32 2197175160)))))) (.i .u32 (Int.fdiv (ofNat x) 2)))) (.i .u32 (ofNat x)))) (.i .i64 (ofNat k+1)))) (.b (decide (ofNat k<8))))) (.i .u32 (wrapA .u32 (ofNat (b i)))))) (.i .u64 (wrapA .u64 (ofNat k)))):=by kernel_rfl
theorem rsumo_vc (L i y:Nat) (b:Nat→Nat) (x:Nat) (K:Res→Orc→Prop):runK PG 1000000 (.code (loopAt PG 88 0) 38 (mkT [(0,.sv 1 L (byF b)),(3,.i .u32 (ofNat x)),(4,.i .i64 (ofNat i))]) (mkH [])) (.s (.lop [] [0,3,4,5] 0 (.exit 2) [(0,.sv 1 L (byF b)),(3,.i .u32 (ofNat y)),(4,.i .i64 (ofNat i))] [] .z) .z) K=((decide (ofNat i<ofNat L)=true→LDoes PG (loopAt PG 88 1) 38 0 (mkT [(0,.sv 1 L (byF b)),(3,.i .u32 (ofNat x)),(4,.i .i64 (ofNat i)),(5,.i .i64 0)]) [] (.exit 2) (mkT [(0,.sv 1 L (byF b)),(3,.i .u32 (ofNat y)),(4,.i .i64 (ofNat i))]) []∧rg (ofNat i+1)∧K (.st .nrm (t1 (.sv 1 L (byF b)) (t0 (tl (.i .u32 (ofNat y))) (t0 .e (tl (.i .i64 (ofNat i+1))))) (t0 (t1 (.i .i64 (ofNat i+1)) .e (tn i)) .e)) ⟨.e,0,[]⟩) .z)∧(decide (ofNat i<ofNat L)=false→K (.st (.exit 0) (t1 (.sv 1 L (byF b)) (t0 (t1 (.i .u32 (ofNat x)) .e (tl (.b (decide (ofNat i<ofNat L))))) (t0 (tl (.sv 1 L (byF b))) .e)) (t0 (t1 (inv i) (tn i) .e) (t0 (tn L) .e))) ⟨.e,0,[]⟩) .z)):=by kernel_rfl
theorem rsum_vc (L y:Nat) (b:Nat→Nat) (K:Res→Orc→Prop):runK PG 1000000 (.call 88 [.sv 1 L (byF b)] (mkH [])) (.lop [] [0,3,4] 0 (.exit 0) [(3,.i .u32 (ofNat y))] [] .z) K=(LDoes PG (loopAt PG 88 0) 38 0 (mkT [(0,.sv 1 L (byF b)),(3,.i .u32 4294967295),(4,.i .i64 0)]) [] (.exit 0) (mkT [(3,.i .u32 (ofNat y))]) []∧True∧K (.rv (.i .u32 (wrapA .u32 ↑(BitVec.toNat (BitVec.ofInt 32 (ofNat y) ^^^ BitVec.ofInt 32 4294967295)))) ⟨.e,0,[]⟩) .z):=by kernel_rfl
theorem fdivN (m k:Nat):Int.fdiv (ofNat m) ((2:Int) ^ k)=ofNat (Nat.shiftRight m k):=by
 have e:((2:Int) ^ k)=ofNat (2 ^ k):=by
  show ((2:Int) ^ k)=((2 ^ k:Nat):Int)
  simp
 have h0:(0:Int)≤ofNat (2 ^ k):=Int.natCast_nonneg (2 ^ k)
 rw [e,Int.fdiv_eq_ediv_of_nonneg (ofNat m) h0]
 show ofNat (m / 2 ^ k)=ofNat (m >>>k)
 rw [Nat.shiftRight_eq_div_pow]
theorem bitE {c k:Nat} (hc:c<256) (hk:k<8):wrapA IntKind.u32 ↑(BitVec.toNat (BitVec.ofInt 32 (Int.fdiv (wrapA IntKind.u32 (ofNat c)) ((2:Int) ^ min (Int.toNat (wrapA IntKind.u64 (ofNat k))) 32)) &&& BitVec.ofInt 32 (1:Int)))=ofNat (Nat.land (Nat.shiftRight c k) 1):=by
 have e1:wrapA IntKind.u32 (ofNat c)=ofNat c:=wrap32 (by omega)
 have e2:wrapA IntKind.u64 (ofNat k)=ofNat k:=by
  show ofNat (k % 18446744073709551616)= _
  rw [Nat.mod_eq_of_lt (by omega)]
 have e3:min (Int.toNat (ofNat k)) 32=k:=by simp;omega
 rw [e1,e2,e3,fdivN]
 refine andE (b:=1) ?_ (by omega)
 show c >>>k<_
 rw [Nat.shiftRight_eq_div_pow]
 exact Nat.lt_of_le_of_lt (Nat.div_le_self _ _) (by omega)
theorem lowE {x:Nat} (hx:x<4294967296):wrapA IntKind.u32 ↑(BitVec.toNat (BitVec.ofInt 32 (ofNat x) &&& BitVec.ofInt 32 (1:Int)))=ofNat (Nat.land x 1):=andE (b:=1) hx (by omega)
theorem flipE {x:Nat} (hx:x<4294967296):wrapA IntKind.u32 ↑(BitVec.toNat (BitVec.ofInt 32 (Int.fdiv (ofNat x) (2:Int)) ^^^ BitVec.ofInt 32 (2197175160:Int)))=ofNat (Nat.xor (Nat.shiftRight x 1) 2197175160):=by
 rw [shrE]
 refine xorE (b:=2197175160) ?_ (by decide)
 show x >>>1<_
 rw [Nat.shiftRight_eq_div_pow];omega
theorem rsumi_lp (L i:Nat) (b:Nat→Nat) (x0:Nat) (hb:b i<256) (h0:x0<4294967296) (hi:i<L) :
 LDoes PG (loopAt PG 88 1) 38 0 (mkT [(0,.sv 1 L (byF b)),(3,.i .u32 (ofNat x0)),(4,.i .i64 (ofNat i)),(5,.i .i64 0)]) [] (.exit 2) (mkT [(0,.sv 1 L (byF b)),(3,.i .u32 (ofNat (stepsN 8 (Nat.xor x0 (b i))))),(4,.i .i64 (ofNat i))]) []:=by
 refine loop_ind (D:=Nat) (l':=[(0,.sv 1 L (byF b)),(3,.i .u32 (ofNat (stepsN 8 (Nat.xor x0 (b i))))),(4,.i .i64 (ofNat i))])
  (fun k=>([(0,.sv 1 L (byF b)),(3,.i .u32 (ofNat (rsteps (b i) k x0))),(4,.i .i64 (ofNat i)),(5,.i .i64 (ofNat k))],[])) (fun k=>8-k) (fun k=>k≤8) ?_ 0 (Nat.zero_le 8)
 intro k hk
 have hk:k≤8:=hk
 have hx:=rsteps_lt h0 (b i) k
 have hs:rsteps (b i) (k+1) x0=rstep (rsteps (b i) k x0) (b i) k:=rfl
 generalize hg:rsteps (b i) k x0=x at hx hs
 refine ⟨Nat.le_refl _,1000000,?_⟩
 refine ⟨_,(rsumi_vc L i k b x _).mpr ⟨fun hlt=>?_,fun hge=>?_⟩⟩
 · have hk8:k<8:=by have:=of_decide_eq_true hlt;simp at this;omega
   have rg:(-9223372036854775808:Int)≤ofNat k+(1:Int)∧ofNat k+(1:Int)≤(9223372036854775807:Int):=by simp<;>omega
   have w:(0:Int)≤wrapA IntKind.u64 (ofNat k):=by show (0:Int)≤ofNat (k % 18446744073709551616);exact Int.natCast_nonneg _
   have mu:(fun k=>8-k) (k+1)<(fun k=>8-k) k:=by show 8-(k+1)<8-k;omega
   rw [bitE hb hk8,lowE hx,flipE hx,shrE]
   refine ⟨⟨by simp,by simp;omega⟩,trivial,trivial,trivial,w,trivial,trivial,by decide,fun hne=>⟨trivial,rg,?_⟩,fun he=>⟨rg,?_⟩⟩
   · have e:rsteps (b i) (k+1) x0=Nat.xor (Nat.shiftRight x 1) 2197175160:=by
      rw [hs];unfold rstep
      have hn:Nat.land (Nat.shiftRight (b i) k) 1≠Nat.land x 1:=fun q=>by rw [q] at hne;simp at hne
      rw [show Nat.beq (Nat.land (Nat.shiftRight (b i) k) 1) (Nat.land x 1)=false from Bool.eq_false_iff.2 fun q=>hn (Nat.eq_of_beq_eq_true q)]
      rfl
     exact .inl ⟨k+1,[],[],_,_,hk8,mu,rfl,by simp only [e];exact st_k [] (by kernel_rfl)⟩
   · have e:rsteps (b i) (k+1) x0=Nat.shiftRight x 1:=by
      rw [hs];unfold rstep
      have hn:Nat.land (Nat.shiftRight (b i) k) 1=Nat.land x 1:=by
       rw [Bool.not_eq_false'] at he
       exact Int.ofNat.inj (of_decide_eq_true he)
      rw [hn,Nat.beq_refl];rfl
     exact .inl ⟨k+1,[],[],_,_,hk8,mu,rfl,by simp only [e];exact st_k [] (by kernel_rfl)⟩
 · have:k=8:=by have:=of_decide_eq_false hge;simp at this;omega
   subst this
   have e:rsteps (b i) 8 x0=stepsN 8 (Nat.xor x0 (b i)):=rsteps8 x0 hb
   rw [←hg,e]
   exact .inr ⟨[],[],_,_,rfl,by simp,st_k [] (by kernel_rfl)⟩
theorem rsumo_lp (L:Nat) (b:Nat→Nat) (hL:L<4611686018427387904) (hb:∀k,b k<256):LDoes PG (loopAt PG 88 0) 38 0 (mkT [(0,.sv 1 L (byF b)),(3,.i .u32 4294967295),(4,.i .i64 0)]) [] (.exit 0) (mkT [(3,.i .u32 (ofNat (regN b L 0 4294967295)))]) []:=by
 refine loop_ind (D:=Nat×Nat) (l':=[(3,.i .u32 (ofNat (regN b L 0 4294967295)))])
  (fun d=>([(0,.sv 1 L (byF b)),(3,.i .u32 (ofNat d.2)),(4,.i .i64 (ofNat d.1))],[])) (fun d=>L-d.1)
  (fun d=>d.1≤L∧d.2<4294967296∧regN b (L-d.1) d.1 d.2=regN b L 0 4294967295) ?_ (0,4294967295) ⟨by simp,by simp,rfl⟩
 rintro ⟨k,r⟩ ⟨hk,hr,he⟩
 simp only at hk hr he
 have hx:=Nat.xor_lt_two_pow (n:=32) hr (Nat.lt_trans (hb k) (by decide))
 refine ⟨Nat.le_refl _,_,_,(rsumo_vc L k (stepsN 8 (Nat.xor r (b k))) b r _).mpr ⟨fun hlt=>?_,fun hge=>?_⟩⟩
 · have hlt:k<L:=by simpa using hlt
   refine ⟨rsumi_lp L k b r (hb k) hr hlt,⟨by simp;omega,by simp;omega⟩,.inl ⟨(k+1,stepsN 8 (Nat.xor r (b k))),[],[],_,_,⟨hlt,stepsN_lt 8 hx,?_⟩,by simp only;omega,rfl,st_k [] (by kernel_rfl)⟩⟩
   simp only
   rw [←he,show L-k=(L-(k+1))+1 by omega]
   rfl
 · have:k=L:=by simp at hge;omega
   subst this
   have he':r=regN b k 0 4294967295:=by rw [Nat.sub_self] at he;exact he
   subst he'
   exact .inr ⟨[],[],_,_,rfl,by simp,st_k [] (by kernel_rfl)⟩
theorem rsum_con (L:Nat) (b:Nat→Nat) (hL:L<4611686018427387904) (hb:∀k,b k<256):Con PG 88 [.sv 1 L (byF b)] [] (.i .u32 (ofNat (sumN b L))) []:=by
 refine con_plain rfl ((rsum_vc L (regN b L 0 4294967295) b _).mpr ⟨rsumo_lp L b hL hb,trivial,_,_,rfl,?_⟩)
 have hr:=regN_lt hb L 0 (r:=4294967295) (by decide)
 have e:wrapA IntKind.u32 ↑(BitVec.toNat (BitVec.ofInt 32 (ofNat (regN b L 0 4294967295)) ^^^ BitVec.ofInt 32 (4294967295:Int)))=ofNat (Nat.xor (regN b L 0 4294967295) 4294967295):=xorE (b:=4294967295) hr (by decide)
 rw [e]
 have e2:Nat.xor (regN b L 0 4294967295) 4294967295=Nat.xor 4294967295 (regN b L 0 4294967295):=Nat.xor_comm _ _
 rw [e2,notE hr];rfl
theorem rfour_vc (x:Nat) (K:Res→Orc→Prop):runK PG 1000000 (.call 73 [.i .u32 (ofNat x)] (mkH [])) (.inl (.c (.inl (.c (.inl (.c (.inl (.c (.inl (.c .z)))))))))) K=((256:Int)≠(0:Int)∧True∧((256:Int)≠(0:Int)∧0≤Int.tdiv (ofNat x) 256∧Int.tdiv (ofNat x) (256:Int)≤(4294967295:Int))∧rg (1)∧(256:Int)≠(0:Int)∧True∧((256:Int)≠(0:Int)∧0≤Int.tdiv (Int.tdiv (ofNat x) 256) 256∧Int.tdiv (Int.tdiv (ofNat x) 256) (256:Int)≤(4294967295:Int))∧rg (2)∧(256:Int)≠(0:Int)∧True∧((256:Int)≠(0:Int)∧0≤Int.tdiv (Int.tdiv (Int.tdiv (ofNat x) 256) 256) 256∧Int.tdiv (Int.tdiv (Int.tdiv (ofNat x) 256) 256) (256:Int)≤(4294967295:Int))∧rg (3)∧(256:Int)≠(0:Int)∧True∧((256:Int)≠(0:Int)∧0≤Int.tdiv (Int.tdiv (Int.tdiv (Int.tdiv (ofNat x) 256) 256) 256) 256∧Int.tdiv (Int.tdiv (Int.tdiv (Int.tdiv (ofNat x) 256) 256) 256) (256:Int)≤(4294967295:Int))∧rg (4)∧K (.rv (.l 7 0 4 4 1 false) ⟨t1 (AObj.cells 5 1 [] (tl (.i .u8 (wrapA .u8 (Int.tmod (ofNat x) 256))))) (t0 (t0 (tl (.cells 5 4 [] (t1 (.i .u8 (wrapA .u8 (Int.tmod (ofNat x) 256))) (t1 (.i .u8 (wrapA .u8 (Int.tmod (Int.tdiv (ofNat x) 256) 256))) (tl (.i .u8 (wrapA .u8 (Int.tmod (Int.tdiv (Int.tdiv (Int.tdiv (ofNat x) 256) 256) 256) 256)))) .e) (tl (.i .u8 (wrapA .u8 (Int.tmod (Int.tdiv (Int.tdiv (ofNat x) 256) 256) 256))))))) .e) (t0 .e .e)) (t1 (.cells 5 1 [] (tl (.i .u8
 (wrapA .u8 (Int.tmod (Int.tdiv (ofNat x) 256) 256))))) (tl (.cells 5 1 [] (tl (.i .u8 (wrapA .u8 (Int.tmod (Int.tdiv (Int.tdiv (ofNat x) 256) 256) 256)))))) (tl (.cells 5 1 [] (tl (.i .u8 (wrapA .u8 (Int.tmod (Int.tdiv (Int.tdiv (Int.tdiv (ofNat x) 256) 256) 256) 256))))))),8,[7,5,6,5,3,4,3,1,2,1,0]⟩) .z):=by kernel_rfl
theorem rofFour_vc (L:Nat) (b:Nat→Nat) (hl:decide (ofNat L<4)=false) (K:Res→Orc→Prop):runK PG 1000000 (.call 87 [.sv 1 L (byF b)] (mkH [])) (.f (.inl (.c (.inl (.c (.inl (.c (.inl (.c (.inl (.c .z))))))))))) K=(decide (ofNat L<4)=false∧True∧((0:Int)≤(3:Int)∧(3:Int)<↑L)∧True∧True∧True∧rg (2)∧True∧((0:Int)≤(2:Int)∧(2:Int)<↑L)∧True∧True∧True∧rg (1)∧True∧((0:Int)≤(1:Int)∧(1:Int)<↑L)∧True∧True∧True∧rg (0)∧True∧((0:Int)≤(0:Int)∧(0:Int)<↑L)∧True∧True∧True∧rg ((-1))∧K (.rv (.tup [.i .u32 (wrapA .u32 (wrapA .u32 (wrapA .u32 (wrapA .u32 (wrapA .u32 (wrapA .u32 (wrapA .u32 (0+wrapA .u32 (ofNat (b 3)))*256)+wrapA .u32 (ofNat (b 2)))*256)+wrapA .u32 (ofNat (b 1)))*256)+wrapA .u32 (ofNat (b 0)))),.b true]) ⟨.e,0,[]⟩) .z):=by kernel_rfl
theorem td256 (x:Nat):Int.tdiv (ofNat x) 256=ofNat (x / 256):=rfl
theorem tm256 (x:Nat):wrapA IntKind.u8 (Int.tmod (ofNat x) 256)=ofNat (x % 256):=by
 show ofNat ((x % 256) % 256)=ofNat (x % 256)
 rw [Nat.mod_mod]
theorem le32 {x:Nat} (h:x<4294967296):(0:Int)≤ofNat x∧ofNat x≤(4294967295:Int):=⟨Int.natCast_nonneg x,by simp;omega⟩
theorem rfour_con (x:Nat) (hx:x<4294967296):Con PG 73 [.i .u32 (ofNat x)] [] (.lr 0 1 0 4 false) [.set (.rows 5 1 4 (byF (fourB x)))]:=by
 have h:Con PG 73 [.i .u32 (ofNat x)] [] (.l 0 0 4 4 1 false) [.set (cellsO 5 [.i .u8 (ofNat (fourB x 0)),.i .u8 (ofNat (fourB x 1)),.i .u8 (ofNat (fourB x 2)),.i .u8 (ofNat (fourB x 3))])]:=by
  refine con_of_run [] [7] ((rfour_vc x _).mpr ?_)
  have e1:x / 256 / 256=x / 65536:=by rw [Nat.div_div_eq_div_mul]
  have e2:x / 256 / 256 / 256=x / 16777216:=by rw [Nat.div_div_eq_div_mul,Nat.div_div_eq_div_mul]
  have f0:x % 256=fourB x 0:=by show x % 256=x / 256 ^ 0 % 256;simp
  have f1:x / 256 % 256=fourB x 1:=by show x / 256 % 256=x / 256 ^ 1 % 256;simp
  have f2:x / 256 / 256 % 256=fourB x 2:=by rw [e1];rfl
  have f3:x / 256 / 256 / 256 % 256=fourB x 3:=by rw [e2];rfl
  simp only [td256,tm256,f0,f1,f2,f3]
  have z:(256:Int)≠0:=by decide
  exact ⟨z,trivial,⟨z,le32 (by omega)⟩,by decide,z,trivial,⟨z,le32 (by omega)⟩,by decide,z,trivial,⟨z,le32 (by omega)⟩,by decide,z,trivial,⟨z,le32 (by omega)⟩,by decide,_,_,rfl,ret_k (by kernel_rfl)⟩
 exact h.post .l_lr ⟨.x (OX.cellsRows rfl fun i hi=>by
  have:i=0∨i=1∨i=2∨i=3:=by omega
  rcases this with rfl | rfl | rfl | rfl<;>exact ⟨_,rfl,fun ρ x hx=>by cases hx;exact .i _ _⟩),trivial⟩
theorem wm {a c:Nat} (h:a*256+c<4294967296) (hc:c<256):wrapA IntKind.u32 (wrapA IntKind.u32 (ofNat a*256)+wrapA IntKind.u32 (ofNat c))=ofNat (a*256+c):=by
 have e:ofNat a*256=ofNat (a*256):=rfl
 rw [e,wrap32 (m:=a*256) (by omega),wrap32 (m:=c) (by omega)]
 show wrapA IntKind.u32 (ofNat (a*256+c))= _
 exact wrap32 h
theorem rofFour_con (L:Nat) (b:Nat→Nat) (hL:4≤L) (hb:∀k,k<4→b k<256):Con PG 87 [.sv 1 L (byF b)] [] (.tup [.i .u32 (ofNat (four1 b)),.b true]) []:=by
 have hl:decide (ofNat L<(4:Int))=false:=decide_eq_false (by simp;omega)
 have r:∀k:Nat,k<4→(0:Int)≤ofNat k∧ofNat k<(↑L:Int):=fun k hk=>⟨Int.natCast_nonneg k,by simp;omega⟩
 have b0:=hb 0 (by decide);have b1:=hb 1 (by decide);have b2:=hb 2 (by decide);have b3:=hb 3 (by decide)
 have z:(0:Int)=ofNat 0:=rfl
 refine con_plain rfl ((rofFour_vc L b hl _).mpr ⟨hl,trivial,r 3 (by decide),trivial,trivial,trivial,by decide,trivial,r 2 (by decide),trivial,trivial,trivial,by decide,trivial,r 1 (by decide),trivial,trivial,trivial,by decide,trivial,r 0 (by decide),trivial,trivial,trivial,by decide,_,_,rfl,?_⟩)
 have w0:wrapA IntKind.u32 (0+wrapA IntKind.u32 (ofNat (b 3)))=ofNat (b 3):=by
  rw [wrap32 (m:=b 3) (by omega),Int.zero_add];exact wrap32 (by omega)
 have e:((b 3*256+b 2)*256+b 1)*256+b 0=four1 b:=by unfold four1;omega
 rw [w0,wm (a:=b 3) (c:=b 2) (by omega) b2,wm (a:=b 3*256+b 2) (c:=b 1) (by omega) b1,wm (a:=(b 3*256+b 2)*256+b 1) (c:=b 0) (by omega) b0,e]
theorem rsealR_vc (L k:Nat) (b:Nat→Nat) (ff:Nat→Nat→CV) (K:Res→Orc→Prop):runK PG 1000000 (.code (loopAt PG 74 0) 25 (mkT [(0,.sv 1 L (byF b)),(3,.lr 0 1 0 k false),(4,.i .i64 (ofNat k))]) (mkH [some (.rows 5 1 k ff)])) (.s .z .z) K=((fun (q0:AV)=>((decide (ofNat k<ofNat L)=true→(0≤ofNat k∧ofNat k<↑L)∧True∧(0+k≤k∧True∧k+1≤140737488355328∧(3*(k+1)+1536)*1≤562949953421312)∧rg (ofNat k+1)∧K (.st .nrm (t1 (.sv 1 L (byF b)) (t0 (t1 (.lr 2 1 0 (addN k 1) false) (t1 (.sv 1 L (byF b)) (tl (.pv 1 (byF b k))) .e) (tl (.i .i64 (ofNat k+1)))) (t0 (t1 q0 (tl (.l 1 0 1 1 1 true)) .e) (tl (.sv 1 L (byF b))))) (t0 (t1 (.i .i64 (ofNat k+1)) (t1 (inv L) (tl (.i .u8 (ofNat (b k)))) .e) (tl (.lr 0 1 0 k false))) (t1 (inv k) (t1 (inv k) (tl (.lr 2 1 0 (addN k 1) false)) .e) (tn k)))) ⟨t0 (tl (.cells 5 1 [] (tl (.i .u8 (ofNat (b k)))))) (tl (.rows 5 1 (addN k 1) (appZ k ff fun x j=>List.getD [CV.i .u8 (ofNat (b k))] j CV.p0))),3,[2,0,1]⟩) .z)∧(decide (ofNat k<ofNat L)=false→K (.st (.exit 0) (t1 (.sv 1 L (byF b)) (t0 (t1 (.lr 0 1 0 k false) (tl (.sv 1 L (byF b))) .e) (t0 (tl q0) .e)) (t0 (t1 (inv k) (tn L) .e) (tn k))) ⟨tl (AObj.rows 5 1 k ff),1,[]⟩) .z))) (.b (decide (ofNat k<ofNat L)))):=by kernel_rfl
theorem app_by (b:Nat→Nat) (k:Nat) {i j:Nat} (hi:i<k+1) (hj:j<1) :
 CW (appZ k (byF b) (fun _ j=>List.getD [CV.i .u8 (ofNat (b k))] j .p0) i j) (byF b i j):=by
 have:j=0:=by omega
 subst this
 cases k with
 | zero=>
   have:i=0:=by omega
   subst this
   exact .of (Eq.refl _)
 | succ k=>
   show CW (zipCV (Nat.blt i (k+1)) (byF b i 0) (CV.i .u8 (ofNat (b (k+1))))) (byF b i 0)
   by_cases h:i<k+1
   · rw [show Nat.blt i (k+1)=true by rw [Nat.blt_eq];exact h]
     exact .of (Eq.refl _)
   · have:i=k+1:=by omega
     subst this
     rw [show Nat.blt (k+1) (k+1)=false by rw [Bool.eq_false_iff,ne_eq,Nat.blt_eq];omega]
     exact .of (Eq.refl _)
def slI (L:Nat) (b:Nat→Nat) (k:Nat):List (Nat×AV)×List (Option AObj):=
 ([(0,.sv 1 L (byF b)),(3,.lr 0 1 0 k false),(4,.i .i64 (ofNat k))],[some (.rows 5 1 k (byF b))])
theorem rsealK_lp (L:Nat) (b:Nat→Nat) (hL:L≤1073741824) :
 LDoes PG (loopAt PG 74 0) 25 0 (mkT (slI L b 0).1) (slI L b 0).2 (.exit 0) (mkT [(0,.sv 1 L (byF b)),(3,.lr 0 1 0 L false)]) [some (.rows 5 1 L (byF b))]:=by
 refine loop_indV (D:=Nat) (l':=[(0,.sv 1 L (byF b)),(3,.lr 0 1 0 L false)]) (slI L b) (fun k=>L-k) (fun k=>k≤L) ?_ 0 (Nat.zero_le L)
 intro k hk
 refine ⟨Nat.zero_le _,1000000,?_⟩
 by_cases hlt:k<L
 · have fin:=fun tm1 H1 objs1 (st:StIs 0 [2] [] tm1 H1 (slI L b (k+1)).1 objs1) (ov:OVL objs1 (slI L b (k+1)).2)=>
    (.inl ⟨k+1,[2],[],_,_,_,objs1,hlt,by show L-(k+1)<L-k;omega,rfl,st,.refl _,ov⟩:RoundV 0 (slI L b) (fun k=>L-k) (fun k=>k≤L) (.exit 0) [(0,.sv 1 L (byF b)),(3,.lr 0 1 0 L false)] [some (.rows 5 1 L (byF b))] k (.st .nrm tm1 H1))
   refine ⟨_,(rsealR_vc L k b (byF b) _).mpr ⟨fun _=>⟨⟨by simp,by simp;omega⟩,trivial,⟨by omega,trivial,by omega,by omega⟩,⟨by simp<;>omega,by simp<;>omega⟩,?_⟩,fun h=>absurd (of_decide_eq_false h) (by simp;omega)⟩⟩
   cases k with
   | zero=>exact fin _ _ [some (.rows 5 1 1 (appZ 0 (byF b) (fun _ j=>List.getD [CV.i .u8 (ofNat (b 0))] j .p0)))] (st_k [2] (by kernel_rfl)) ⟨.rowsW fun i j hi hj=>app_by b 0 hi hj,trivial⟩
   | succ k=>exact fin _ _ [some (.rows 5 1 (k+1+1) (appZ (k+1) (byF b) (fun _ j=>List.getD [CV.i .u8 (ofNat (b (k+1)))] j .p0)))] (st_k [2] (by kernel_rfl)) ⟨.rowsW fun i j hi hj=>app_by b (k+1) hi hj,trivial⟩
 · have:k=L:=by omega
   subst this
   exact ⟨_,(rsealR_vc k k b (byF b) _).mpr ⟨fun h=>absurd (of_decide_eq_true h) (by simp),fun _=>.inr ⟨[0],[],_,_,[(0,.sv 1 k (byF b)),(3,.lr 0 1 0 k false)],[some (.rows 5 1 k (byF b))],rfl,by simp,st_k [0] (by kernel_rfl),.refl _,.refl _⟩⟩⟩
theorem rseal_lp (L:Nat) (b:Nat→Nat) (hL:L≤1073741824) :
 LDoes PG (loopAt PG 74 0) 25 0 (mkT [(0,.sv 1 L (byF b)),(3,.l0),(4,.i .i64 0)]) [] (.exit 0) (mkT [(0,.sv 1 L (byF b)),(3,.lr 0 1 0 L false)]) [some (.rows 5 1 L (byF b))]:=by
 refine (rsealK_lp L b hL).weak ⟨rfl,.inl rfl,rfl,.inr ⟨rfl,.inl ⟨0,1,0,false,rfl⟩⟩,rfl,.inl rfl,trivial⟩ ?_
 intro o ho
 rw [List.mem_singleton.1 ho]
 exact ⟨_,rfl,rfl⟩
theorem rseal_vc (b:Nat→Nat) (y:Nat) (y4:Nat→Nat) (K:Res→Orc→Prop):runK PG 1000000 (.call 74 [.sv 1 60 (byF b)] (mkH [])) (.lop [] [0,3,4] 0 (.exit 0) [(0,.sv 1 60 (byF b)),(3,.lr 0 1 0 60 false)] [some (.rows 5 1 60 (byF b))] (.cal [] (.i .u32 (ofNat y)) [] (.cal [] (.lr 0 1 0 4 false) [.set (AObj.rows 5 1 4 (byF y4))] .z))) K=(LDoes PG (loopAt PG 74 0) 25 0 (mkT [(0,.sv 1 60 (byF b)),(3,.l0),(4,.i .i64 0)]) [] (.exit 0) (mkT [(0,.sv 1 60 (byF b)),(3,.lr 0 1 0 60 false)]) [some (.rows 5 1 60 (byF b))]∧Con PG 88 [.sv 1 60 (byF b)] [] (.i .u32 (ofNat y)) []∧Con PG 73 [.i .u32 (ofNat y)] [] (.lr 0 1 0 4 false) [.set (AObj.rows 5 1 4 (byF y4))]∧(60≤60∧4≤4∧64≤140737488355328∧1728≤562949953421312)∧K (.rv (.lr 2 1 0 64 false) ⟨t0 (tl (.rows 5 1 4 (byF y4))) (tl (.rows 5 1 64 (appZ 60 (fun k x=>CV.i .u8 (ofNat (b k))) fun k x=>CV.i .u8 (ofNat (y4 k))))),3,[2,0,1,0]⟩) .z):=by kernel_rfl
def selB (b:Nat→Nat) (k:Nat):Nat:=bif Nat.blt k 60 then b k else fourB (sumN b 60) (k-60)
theorem rseal60_con (b:Nat→Nat) (hb:∀k,b k<256):Con PG 74 [.sv 1 60 (byF b)] [] (.sv 1 64 (byF (selB b))) []:=by
 have h:Con PG 74 [.sv 1 60 (byF b)] [] (.sv 1 64 (shiftF 0 (appZ 60 (byF b) (byF (fourB (sumN b 60)))))) []:=
  con_of_run [2] [] ((rseal_vc b (sumN b 60) (fourB (sumN b 60)) _).mpr ⟨rseal_lp 60 b (by decide),rsum_con 60 b (by decide) hb,rfour_con _ (sumN_lt b 60),⟨by decide,by decide,by decide,by decide⟩,_,_,rfl,
   ret_fz [2] ((1=1∧0+64≤64)∧True) (by kernel_rfl) (by kernel_rfl) ⟨⟨rfl,by omega⟩,trivial⟩ (by kernel_rfl) rfl (by kernel_rfl) (by kernel_rfl) rfl trivial⟩)
 refine h.post (.svW fun i j hi hj=>.of ?_) (OVL.refl _)
 have:j=0:=by omega
 subst this
 have e:appZ 60 (byF b) (byF (fourB (sumN b 60)))=appF 60 (byF b) (byF (fourB (sumN b 60))):=by kernel_rfl
 rw [e]
 unfold shiftF appF
 simp only [Nat.zero_add,Nat.add_zero]
 show zipCV (Nat.blt i 60) (byF b i 0) (byF (fourB (sumN b 60)) (i-60) 0)=CV.i .u8 (ofNat (selB b i))
 unfold selB
 cases Nat.blt i 60<;>rfl
end Go.Proofs.Cd
namespace Go.Proofs.Jn
open Go Go.Sim Go.Proofs Go.Proofs.Cd Go.Proofs.St Go.Proofs.Cl Go.Proofs.YtbilafnamckglaaDoor
theorem rparts_vc (n:Nat) (V:AV):runK PG 1000000 (.call 58 [inv n] (mkH [])) (.z) (fun r _=>rvIs V r)=((fun (q0:Int)=>(rg (ofNat n+47)∧rg (ofNat n+47-1)∧((47:Int)≠(0:Int)∧(-9223372036854775808)≤Int.tdiv q0 47∧Int.tdiv q0 (47:Int)≤(9223372036854775807:Int))∧(AV.i .i64 (if 1>Int.tdiv q0 47 then 1 else Int.tdiv q0 47))=V)) (ofNat n+(47:Int)-(1:Int))):=by kernel_rfl
theorem rlay5_vc (yg ys B S:Nat→Nat) (gg qq idx np m:Nat) (b:Nat→Nat) (V:AV):runK PG 1000000 (.call 45 [.agg [inv gg,inv qq,inv idx,inv np,.sv 1 m (byF b)]] (mkH [])) (.cal [] (AV.lr 0 1 0 4 false) [.set (AObj.rows 5 1 4 (byF yg))] (.cal [] (AV.lr 0 1 0 4 false) [.set (AObj.rows 5 1 4 (byF ys))] (.lop [6] [3] 0 (.exit 0) [(3,AV.sv 1 60 (byF B))] [] (.cal [] (AV.sv 1 64 (byF S)) [] .z)))) (fun r _=>rvIs V r)=(True∧True∧Con PG 73 [AV.i .u32 (wrapA .u32 (ofNat gg))] [] (AV.lr 0 1 0 4 false) [.set (AObj.rows 5 1 4 (byF yg))]∧True∧True∧Con PG 73 [AV.i .u32 (wrapA .u32 (ofNat qq))] [] (AV.lr 0 1 0 4 false) [.set (AObj.rows 5 1 4 (byF ys))]∧(4≤4∧4≤4∧8≤140737488355328∧1560≤562949953421312)∧True∧True∧True∧True∧True∧True∧(8≤8∧True∧11≤140737488355328∧1569≤562949953421312)∧True∧(11≤11∧True∧addN (addN 4 4) 3+m≤140737488355328∧(3*(addN (addN 4 4) 3+m)+1536)*1≤562949953421312)∧LDoes PG (loopAt PG 45 0) 39 0 (mkT [(3,AV.lr 0 1 0 (addN (addN (addN 4 4) 3) m) false)]) [some (AObj.rows 5 1 (addN (addN (addN 4 4) 3) m) (appZ (addN (addN 4 4) 3) (appZ 8 (appZ 4 (byF yg) (byF ys)) (listF 1 [CV.i .u8 (wrapA .u8 (ofNat idx)),CV.i .u8 (wrapA .u8 (ofNat np)),CV.i .u8 (wrapA .u8 (ofNat m))] 3)) (byF b)))] (.exit 0) (mkT [(3,AV.sv 1 60 (byF B))]) []∧Con PG 74 [AV.sv 1 60 (byF B)] [] (AV.sv 1 64 (byF S)) []∧(AV.sv 1 64 (byF S))=V):=by kernel_rfl
theorem rlayL_vc (m:Nat) (ff:Nat→Nat→CV) (K:Res→Orc→Prop):runK PG 1000000 (.code (loopAt PG 45 0) 39 (mkT [(3,.lr 0 1 0 m false)]) (mkH [some (.rows 5 1 m ff)])) (.s .z .z) K=((decide (ofNat m<60)=true→(0+m≤m∧True∧m+1≤140737488355328∧(3*(m+1)+1536)*1≤562949953421312)∧K (.st .nrm (t0 (t0 (t1 (.lr 2 1 0 (addN m 1) false) (t0 (t0 (tl (.lr 0 1 0 m false)) .e) .e) (t0 (t0 (tl (.l 1 0 1 1 1 true)) .e) .e)) (t0 (t0 (t0 (tl (.b (decide (ofNat m<60)))) .e) .e) .e)) (t0 (t0 (t0 (t0 (tn m) .e) .e) (t0 (t0 (tl (.lr 2 1 0 (addN m 1) false)) .e) .e)) (t0 (t0 (t0 (tl (.lr 0 1 0 m false)) .e) .e) .e))) ⟨t0 (tl (.cells 5 1 [] (tl (.i .u8 0)))) (tl (.rows 5 1 (addN m 1) (appZ m ff (listF 1 [CV.i .u8 0] 1)))),3,[2,0,1]⟩) .z)∧(decide (ofNat m<60)=false→K (.st (.exit 0) (t0 (t0 (t1 (.lr 0 1 0 m false) (t0 (t0 (tl (.lr 0 1 0 m false)) .e) .e) .e) (t0 (t0 (t0 (tl (.b (decide (ofNat m<60)))) .e) .e) .e)) (t0 (t0 (t0 (t0 (tn m) .e) .e) .e) .e)) ⟨tl (AObj.rows 5 1 m ff),1,[]⟩) .z)):=by kernel_rfl
theorem rparts_con (n:Nat) (h:n≤1073741824):Con PG 58 [.i .i64 (ofNat n)] [] (.i .i64 (ofNat (npF n))) []:=by
 have e1:ofNat n+(47:Int)-(1:Int)=ofNat (n+46):=by simp;omega
 have e2:Int.tdiv (ofNat n+(47:Int)-(1:Int)) 47=ofNat ((n+46) / 47):=by rw [e1];rfl
 refine con_pureX (rparts_vc n _) rfl ⟨⟨by simp;omega,by simp;omega⟩,⟨by simp;omega,by simp;omega⟩,⟨by decide,?_,?_⟩,?_⟩
 · rw [e2];simp;omega
 · rw [e2];simp;omega
 · rw [e2]
   unfold npF
   by_cases c:(n+46) / 47>1
   · rw [if_pos c,if_neg (by simp;omega)]
   · rw [if_neg c]
     by_cases d:(1:Int)>ofNat ((n+46) / 47)
     · rw [if_pos d];rfl
     · rw [if_neg d]
       have:(n+46) / 47=1:=by simp at d;omega
       rw [this]
theorem bltT' {a b:Nat} (h:a<b):Nat.blt a b=true:=by rw [Nat.blt_eq];exact h
theorem bltF' {a b:Nat} (h:¬a<b):Nat.blt a b=false:=by rw [Bool.eq_false_iff,ne_eq,Nat.blt_eq];exact h
theorem pbodyB_tail (gen num idx np m:Nat) (b:Nat→Nat) {k:Nat} (h:11+m≤k):pbodyB gen num idx np m b k=0:=by
 unfold pbodyB
 rw [bltF' (by omega:¬k<11+m),Bool.and_false,cond_false,
  show Nat.beq k 10=false by rw [Bool.eq_false_iff,ne_eq,Nat.beq_eq];omega,cond_false,
  show Nat.beq k 9=false by rw [Bool.eq_false_iff,ne_eq,Nat.beq_eq];omega,cond_false,
  show Nat.beq k 8=false by rw [Bool.eq_false_iff,ne_eq,Nat.beq_eq];omega,cond_false,
  bltF' (by omega:¬k<8),Bool.and_false,cond_false,bltF' (by omega:¬k<4),Bool.and_false,cond_false]
def layF (gen num idx np m:Nat) (b:Nat→Nat):Nat→Nat→CV:=
 appZ (addN (addN 4 4) 3) (appZ 8 (appZ 4 (byF (fourB (gen % 4294967296))) (byF (fourB (num % 4294967296)))) (listF 1 [CV.i .u8 (wrapA .u8 (ofNat idx)),CV.i .u8 (wrapA .u8 (ofNat np)),CV.i .u8 (wrapA .u8 (ofNat m))] 3)) (byF b)
theorem layF_eq (gen num idx np m:Nat) (b:Nat→Nat) {i:Nat} (hi:i<11+m):layF gen num idx np m b i 0=CV.i .u8 (ofNat (pbodyB gen num idx np m b i)):=by
 have e:layF gen num idx np m b i 0=zipCV (Nat.blt i 11) (zipCV (Nat.blt i 8) (zipCV (Nat.blt i 4) (CV.i .u8 (ofNat (fourB (gen % 4294967296) i))) (CV.i .u8 (ofNat (fourB (num % 4294967296) (i-4)))))
  (listF 1 [CV.i .u8 (wrapA .u8 (ofNat idx)),CV.i .u8 (wrapA .u8 (ofNat np)),CV.i .u8 (wrapA .u8 (ofNat m))] 3 (i-8) 0)) (CV.i .u8 (ofNat (b (i-11)))):=by kernel_rfl
 rw [e]
 unfold pbodyB
 by_cases h11:i<11
 · rw [bltT' h11,show Nat.ble 11 i=false by rw [Bool.eq_false_iff,ne_eq,Nat.ble_eq];omega,Bool.false_and,cond_false]
   by_cases h8:i<8
   · rw [bltT' h8,show Nat.beq i 10=false by rw [Bool.eq_false_iff,ne_eq,Nat.beq_eq];omega,cond_false,show Nat.beq i 9=false by rw [Bool.eq_false_iff,ne_eq,Nat.beq_eq];omega,cond_false,show Nat.beq i 8=false by rw [Bool.eq_false_iff,ne_eq,Nat.beq_eq];omega,cond_false]
     by_cases h4:i<4
     · rw [bltT' h4,show Nat.ble 4 i=false by rw [Bool.eq_false_iff,ne_eq,Nat.ble_eq];omega,Bool.false_and,cond_false,show Nat.ble 0 i=true by rw [Nat.ble_eq];omega]
       rfl
     · rw [bltF' h4,show Nat.ble 4 i=true by rw [Nat.ble_eq];omega]
       rfl
   · have:i=8∨i=9∨i=10:=by omega
     rcases this with rfl | rfl | rfl<;>rfl
 · rw [bltF' h11,show Nat.ble 11 i=true by rw [Nat.ble_eq];omega,bltT' hi]
   rfl
theorem app_z5 {b:Nat→Nat} {k:Nat} (h0:b k=0) {i j:Nat} (hi:i<k+1) (hj:j<1) :
 CW (appZ k (byF b) (listF 1 [CV.i .u8 0] 1) i j) (byF b i j):=by
 have h:=app_by b k hi hj
 rw [h0] at h
 exact h
def ly5 (b:Nat→Nat) (m:Nat):List (Nat×AV)×List (Option AObj):=([(3,.lr 0 1 0 m false)],[some (.rows 5 1 m (byF b))])
theorem rlayK_lp (b:Nat→Nat) (m0:Nat) (h0:1≤m0) (h6:m0≤60) (hz:∀k,m0≤k→b k=0) :
 LDoes PG (loopAt PG 45 0) 39 0 (mkT (ly5 b m0).1) (ly5 b m0).2 (.exit 0) (mkT [(3,.sv 1 60 (byF b))]) []:=by
 refine loop_indV (D:=Nat) (l':=[(3,.sv 1 60 (byF b))]) (ly5 b) (fun m=>60-m) (fun m=>m0≤m∧m≤60) ?_ m0 ⟨Nat.le_refl _,h6⟩
 rintro m ⟨hm,hm6⟩
 refine ⟨Nat.zero_le _,1000000,?_⟩
 by_cases hlt:m<60
 · have fin:=fun tm1 H1 objs1 (st:StIs 0 [2] [] tm1 H1 (ly5 b (m+1)).1 objs1) (ov:OVL objs1 (ly5 b (m+1)).2)=>
    (.inl ⟨m+1,[2],[],_,_,_,objs1,⟨by omega,hlt⟩,by show 60-(m+1)<60-m;omega,rfl,st,.refl _,ov⟩:RoundV 0 (ly5 b) (fun m=>60-m) (fun m=>m0≤m∧m≤60) (.exit 0) [(3,.sv 1 60 (byF b))] [] m (.st .nrm tm1 H1))
   refine ⟨_,(rlayL_vc m (byF b) _).mpr ⟨fun _=>⟨⟨by omega,trivial,by omega,by omega⟩,?_⟩,fun h=>absurd (of_decide_eq_false h) (by simp;omega)⟩⟩
   have hbz:=hz m hm
   cases m with
   | zero=>omega
   | succ k=>exact fin _ _ [some (.rows 5 1 (k+1+1) (appZ (k+1) (byF b) (listF 1 [CV.i .u8 0] 1)))] (st_k [2] (by kernel_rfl)) ⟨.rowsW fun i j hi hj=>app_z5 hbz hi hj,trivial⟩
 · have:m=60:=by omega
   subst this
   exact ⟨_,(rlayL_vc 60 (byF b) _).mpr ⟨fun h=>absurd (of_decide_eq_true h) (by decide),fun _=>.inr ⟨[],[0],_,_,[(3,.sv 1 60 (byF b))],[],rfl,by simp,
    st_fz [] [0] (((1=1∧0+60≤60)∧True)∧True) [.lr 0 1 0 60 false] (by kernel_rfl) (by kernel_rfl) (by kernel_rfl) ⟨⟨⟨rfl,by omega⟩,trivial⟩,trivial⟩ (by kernel_rfl) rfl rfl rfl trivial rfl,.refl _,.refl _⟩⟩⟩
theorem rlay5_con (gen num idx np m:Nat) (b:Nat→Nat) (hm:m≤47) (hb:∀k,k<m→b k<256) :
 Con PG 45 [.agg [.i .i64 (ofNat gen),.i .i64 (ofNat num),.i .i64 (ofNat idx),.i .i64 (ofNat np),.sv 1 m (byF b)]] [] (.sv 1 64 (byF (psecB gen num idx np m b))) []:=by
 have lp:=(rlayK_lp (pbodyB gen num idx np m b) (11+m) (by omega) (by omega) (fun k hk=>pbodyB_tail gen num idx np m b hk)).ovl (objs0:=[some (.rows 5 1 (11+m) (layF gen num idx np m b))]) ⟨.rowsW fun i j hi hj=>(by
  have:j=0:=by omega
  subst this
  exact .of (layF_eq gen num idx np m b hi)),trivial⟩
 have f1:∀g:Nat,Con PG 73 [.i .u32 (wrapA .u32 (ofNat g))] [] (.lr 0 1 0 4 false) [.set (.rows 5 1 4 (byF (fourB (g % 4294967296))))]:=fun g=>rfour_con (g % 4294967296) (Nat.mod_lt _ (by decide))
 have a11:addN (addN 4 4) 3+m=11+m:=rfl
 exact con_pureX (rlay5_vc (fourB (gen % 4294967296)) (fourB (num % 4294967296)) (pbodyB gen num idx np m b) (psecB gen num idx np m b) gen num idx np m b _) rfl
  ⟨trivial,trivial,f1 gen,trivial,trivial,f1 num,⟨by decide,by decide,by decide,by decide⟩,trivial,trivial,trivial,trivial,trivial,trivial,⟨by decide,trivial,by decide,by decide⟩,trivial,
    ⟨by decide,trivial,by rw [a11];omega,by rw [a11];omega⟩,Eq.mp (by kernel_rfl) lp,rseal60_con _ (pbodyB_lt hb),rfl⟩
def rpZ:List AV:=[.i .i64 0,.i .i64 0,.i .i64 0,.i .i64 0,.l0]
def rpR:AObj:=.cells 93 5 rpZ .e
def rpN:AObj:=.cells 93 5 rpZ (setAll .e 0 rpZ)
def rpO (G N I P:Nat) (v:AV):AObj:=.cells 93 5 rpZ (setAll .e 0 [.i .i64 (ofNat G),.i .i64 (ofNat N),.i .i64 (ofNat I),.i .i64 (ofNat P),v])
def rkT (n k:Nat) (b:Nat→Nat):List (Nat×AV):=[(0,.sv 1 64 (byF b)),(2,.p 0 0),(3,.p 1 0),(8,.p 2 0),(9,.i .i64 (ofNat n)),(11,.i .i64 (ofNat k))]
def rkE (b:Nat→Nat):List (Nat×AV):=[(0,.sv 1 64 (byF b)),(2,.p 0 0),(3,.p 1 0),(8,.p 2 0)]
end Go.Proofs.Jn
namespace Go.Sim
theorem LDoes.frz {P:Program} {c:Code} {n b:Nat} {tm tm':T AV} {objs objs' objs1:List (Option AObj)} {x:XO} (h:LDoes P c n b tm objs x tm' objs') (A:Nat) {e:TypeId} {sz m:Nat} {f:Nat→Nat→CV}
 (hA:((objs'[A]?)).join=some (.rows e sz m f)) (hL:FOL A (.rows sz m f) 0 objs' objs1):LDoes P c n b tm objs x tm' objs1:=by
 intro r0 hro ρ a w Q ht hh hoff hQ
 refine h r0 hro ρ a w Q ht hh hoff ?_
 intro a' w' ρ1 t1 t2 t3 t4 t5
 obtain ⟨ρ2,k1,k2,k3,k4⟩:=freezeL b A t3 hA hL
 exact hQ a' w' ρ2 (t1.mono k2) t2 k3 (fun B hB=>by show ρ2.nm B=none;rw [k1];exact t4 B (by rw [hL.length];exact hB)) (t5.trans k4)
end Go.Sim
namespace Go.Proofs.Jn
open Go Go.Sim Go.Proofs Go.Proofs.Cd Go.Proofs.St Go.Proofs.Cl Go.Proofs.YtbilafnamckglaaDoor
theorem rkA_vc (G N I P n:Nat) (b:Nat→Nat) (h:decide (0<ofNat n)=true) (K:Res→Orc→Prop):runK PG 1000000 (.code (loopAt PG 72 0) 130 (mkT (rkT n 0 b)) (mkH [some rpR,some rpN,some (rpO G N I P .l0)])) (.t .z) K=((fun (q1:AV)=>((fun (q0:List AV)=>(decide (0<ofNat n)=true∧True∧rg (11)∧((0:Int)≤(11:Int)∧(11:Int)<(64:Int))∧True∧True∧rg (1)∧K (.st .nrm (t1 (.sv 1 64 (byF b)) (t0 (t1 (.p 1 0) (t0 (t0 .e (t0 .e (tl (.p 2 4)))) (t0 .e (t0 .e (tl (.l 4 0 1 1 1 false))))) (t1 (.i .i64 1) (t0 .e (t0 .e (tl (.i .i64 11)))) (t0 (t0 .e (tn n)) .e))) (t0 (t1 (inv n) (t0 .e (t0 .e (tl (.sv 1 64 (byF b))))) .e) (t0 (t0 .e (t0 .e (tl q1))) (t0 (t0 .e (tl (.i .i64 0))) .e)))) (t1 (.p 0 0) (t0 (t1 (.p 2 0) (t0 .e (t0 .e (tl .l0))) (t0 .e (t0 .e (tl (.p 2 4))))) (t0 (t0 .e (t0 .e (tl (.pv 1 (byF b 11))))) (t0 (t0 .e (tl (.b (decide (0<ofNat n))))) .e))) (t0 (t0 (t0 .e (t0 .e (tl (.i .i64 0)))) (t0 (t0 .e (tl (.i .i64 0))) .e)) (t0 (t0 .e (t0 .e (tl (.l 3 0 1 1 1 true)))) (t0 (t0 .e (tl (.i .i64 1))) .e))))) ⟨t1 (AObj.cells 93 5 q0 .e) (t1 (.cells 93 5 q0 (t1 (.i .i64 0) (t1 (.i .i64 0) (tl (.i .i64 0)) .e) (t1 (.i .i64 0) (tl .l0) .e))) (tl (.cells 5 1 [] (tl q1))) .e) (t1 (.cells 93 5 q0 (t1 (inv G) (t1 (inv N) (tn P) .e) (t1 (inv I) (tl (.l 4 0 1 1 1 false)) .e))) (tl (.cells 5 1 [] (tl q1))) .e),5,[2,4,3]⟩) .z)) [.i .i64 0,.i .i64 0,.i .i64 0,.i .i64 0,.l0])) (.i .u8 (ofNat (b 11)))):=by kernel_rfl
theorem rkB_vc (G N I P n k:Nat) (b c:Nat→Nat) (h:decide (ofNat k<ofNat n)=true) (K:Res→Orc→Prop):runK PG 1000000 (.code (loopAt PG 72 0) 130 (mkT (rkT n k b)) (mkH [some rpR,some rpN,some (rpO G N I P (.lr 3 1 0 k false)),some (.rows 5 1 k (byF c))])) (.t .z) K=((fun (q1:Int)=>((fun (q0:List AV)=>(decide (ofNat k<ofNat n)=true∧True∧rg (11+ofNat k)∧((0:Int)≤(11:Int)+ofNat k∧11+ofNat k<64)∧True∧(0+k≤k∧True∧k+1≤140737488355328∧(3*(k+1)+1536)*1≤562949953421312)∧True∧rg (ofNat k+1)∧K (.st .nrm (t1 (.sv 1 64 (byF b)) (t0 (t1 (.p 1 0) (t0 (t0 .e (t0 .e (tl (.p 2 4)))) (t0 .e (t0 .e (tl (.lr 5 1 0 (addN k 1) false))))) (t1 (.i .i64 (ofNat k+1)) (t0 .e (t0 .e (tl (.i .i64 (11+ofNat k))))) (t0 (t0 .e (tn n)) .e))) (t0 (t1 (inv n) (t0 .e (t0 .e (tl (.sv 1 64 (byF b))))) .e) (t0 (t0 .e (t0 .e (tl (.i .u8 q1)))) (t0 (t0 .e (tn k)) .e)))) (t1 (.p 0 0) (t0 (t1 (.p 2 0) (t0 .e (t0 .e (tl (.lr 3 1 0 k false)))) (t0 .e (t0 .e (tl (.p 2 4))))) (t0 (t0 .e (t0 .e (tl (.pv 1 (byF b (Int.toNat (11+ofNat k))))))) (t0 (t0 .e (tl (.b (decide (ofNat k<ofNat n))))) .e))) (t0 (t0 (t0 .e (t0 .e (tn k))) (t0 (t0 .e (tn k)) .e)) (t0 (t0 .e (t0 .e (tl (.l 4 0 1 1 1 true)))) (t0 (t0 .e (tl (.i .i64 (ofNat k+1)))) .e))))) ⟨t1 (AObj.cells 93 5 q0 .e) (t1 (.cells 93 5 q0 (t1 (.i .i64 0) (t1 (.i .i64 0) (tl (.i .i64 0)) .e) (t1 (.i .i64 0) (tl .l0) .e)))
 (t0 .e .e) (tl (.rows 5 1 (addN k 1) (appZ k (byF c) (listF 1 [CV.i .u8 q1] 1))))) (t1 (.cells 93 5 q0 (t1 (inv G) (t1 (inv N) (tn P) .e) (t1 (inv I) (tl (.lr 5 1 0 (addN k 1) false)) .e))) (tl (.cells 5 1 [] (tl (.i .u8 q1)))) .e),6,[2,5,3,4]⟩) .z)) [.i .i64 0,.i .i64 0,.i .i64 0,.i .i64 0,.l0])) (ofNat (b (Int.toNat (11+ofNat k))))):=by kernel_rfl
theorem rkC_vc (G N I P n:Nat) (b:Nat→Nat) (h:decide (0<ofNat n)=false) (K:Res→Orc→Prop):runK PG 1000000 (.code (loopAt PG 72 0) 130 (mkT (rkT n 0 b)) (mkH [some rpR,some rpN,some (rpO G N I P .l0)])) (.f .z) K=((fun (q0:List AV)=>(decide (0<ofNat n)=false∧K (.st (.exit 0) (t1 (.sv 1 64 (byF b)) (t0 (t1 (.p 1 0) .e (t1 (.i .i64 0) .e (t0 (t0 .e (tn n)) .e))) (t0 (tn n) .e)) (t1 (.p 0 0) (t0 (tl (.p 2 0)) (t0 .e (t0 (t0 .e (tl (.b (decide (0<ofNat n))))) .e))) (t0 (t0 .e (t0 (t0 .e (tl (.i .i64 0))) .e)) .e))) ⟨t1 (AObj.cells 93 5 q0 .e) (tl (.cells 93 5 q0 (t1 (.i .i64 0) (t1 (.i .i64 0) (tl (.i .i64 0)) .e) (t1 (.i .i64 0) (tl .l0) .e)))) (tl (.cells 93 5 q0 (t1 (inv G) (t1 (inv N) (tn P) .e) (t1 (inv I) (tl .l0) .e)))),3,[]⟩) .z)) [.i .i64 0,.i .i64 0,.i .i64 0,.i .i64 0,.l0]):=by kernel_rfl
theorem rkD_vc (G N I P n k:Nat) (b c:Nat→Nat) (h:decide (ofNat k<ofNat n)=false) (K:Res→Orc→Prop):runK PG 1000000 (.code (loopAt PG 72 0) 130 (mkT (rkT n k b)) (mkH [some rpR,some rpN,some (rpO G N I P (.lr 3 1 0 k false)),some (.rows 5 1 k (byF c))])) (.f .z) K=((fun (q0:List AV)=>(decide (ofNat k<ofNat n)=false∧K (.st (.exit 0) (t1 (.sv 1 64 (byF b)) (t0 (t1 (.p 1 0) .e (t1 (inv k) .e (t0 (t0 .e (tn n)) .e))) (t0 (tn n) .e)) (t1 (.p 0 0) (t0 (tl (.p 2 0)) (t0 .e (t0 (t0 .e (tl (.b (decide (ofNat k<ofNat n))))) .e))) (t0 (t0 .e (t0 (t0 .e (tn k)) .e)) .e))) ⟨t1 (AObj.cells 93 5 q0 .e) (t1 (.cells 93 5 q0 (t1 (.i .i64 0) (t1 (.i .i64 0) (tl (.i .i64 0)) .e) (t1 (.i .i64 0) (tl .l0) .e))) (tl (.rows 5 1 k (byF c))) .e) (tl (.cells 93 5 q0 (t1 (inv G) (t1 (inv N) (tn P) .e) (t1 (inv I) (tl (.lr 3 1 0 k false)) .e)))),4,[]⟩) .z)) [.i .i64 0,.i .i64 0,.i .i64 0,.i .i64 0,.l0]):=by kernel_rfl
theorem rpO_ov {G N I P:Nat} {v v':AV} (h:VW v v'):OV (some (rpO G N I P v)) (some (rpO G N I P v')):=
 OV.cellsD (e:=93) (dflt:=rpZ) (l:=[.i .i64 (ofNat G),.i .i64 (ofNat N),.i .i64 (ofNat I),.i .i64 (ofNat P),v]) (l':=[.i .i64 (ofNat G),.i .i64 (ofNat N),.i .i64 (ofNat I),.i .i64 (ofNat P),v']) ⟨.refl _,.refl _,.refl _,.refl _,h,trivial⟩
def pdB (b:Nat→Nat):Nat→Nat:=fun j=>b (11+j)
def rkI (G N I P n:Nat) (b:Nat→Nat):Nat→List (Nat×AV)×List (Option AObj)
 | 0=>(rkT n 0 b,[some rpR,some rpN,some (rpO G N I P .l0)])
 | k+1=>(rkT n (k+1) b,[some rpR,some rpN,some (rpO G N I P (.lr 3 1 0 (k+1) false)),some (.rows 5 1 (k+1) (byF (pdB b)))])
theorem rk0_lp (G N I P n:Nat) (b:Nat→Nat) (h0:n=0):LDoes PG (loopAt PG 72 0) 130 3 (mkT (rkT n 0 b)) [some rpR,some rpN,some (rpO G N I P .l0)] (.exit 0) (mkT (rkE b)) [some rpR,some rpN,some (rpO G N I P (.sv 1 n (byF (pdB b))))]:=by
 subst h0
 refine loop_indV (D:=Unit) (l':=rkE b) (fun _=>(rkT 0 0 b,[some rpR,some rpN,some (rpO G N I P .l0)])) (fun _=>0) (fun _=>True) ?_ () trivial
 rintro _ -
 have h:decide ((0:Int)<ofNat 0)=false:=by decide
 exact ⟨Nat.le_refl _,1000000,_,(rkC_vc G N I P 0 b h _).mpr ⟨h,.inr ⟨[0,1,2],[],_,_,rkE b,[some rpR,some rpN,some (rpO G N I P .l0)],rfl,by simp,st_k [0,1,2] (by kernel_rfl),.refl _,.refl _,.refl _,rpO_ov (.nil _ _),trivial⟩⟩⟩
theorem app_d5 (b:Nat→Nat) (k:Nat) {i j:Nat} (hi:i<addN k 1) (hj:j<1) :
 CW (appZ k (byF (pdB b)) (listF 1 [CV.i .u8 (ofNat (b (Int.toNat ((11:Int)+ofNat k))))] 1) i j) (byF (pdB b) i j):=app_by (pdB b) k (by rw [addN_eq] at hi;exact hi) hj
theorem rk1_lp (G N I P n:Nat) (b:Nat→Nat) (hn:1≤n) (hn':n≤47):LDoes PG (loopAt PG 72 0) 130 3 (mkT (rkT n 0 b)) [some rpR,some rpN,some (rpO G N I P .l0)] (.exit 0) (mkT (rkE b)) [some rpR,some rpN,some (rpO G N I P (.sv 1 n (byF (pdB b)))),none]:=by
 have key:LDoes PG (loopAt PG 72 0) 130 3 (mkT (rkT n 0 b)) [some rpR,some rpN,some (rpO G N I P .l0)] (.exit 0) (mkT (rkE b)) [some rpR,some rpN,some (rpO G N I P (.lr 3 1 0 n false)),some (.rows 5 1 n (byF (pdB b)))]:=by
  refine loop_indV (D:=Nat) (l':=rkE b) (rkI G N I P n b) (fun k=>n-k) (fun k=>k≤n) ?_ 0 (Nat.zero_le _)
  intro k hk
  cases k with
  | zero=>
    have h:decide ((0:Int)<ofNat n)=true:=decide_eq_true (by simp;omega)
    exact ⟨Nat.le_refl _,1000000,_,(rkA_vc G N I P n b h _).mpr ⟨h,trivial,by decide,by decide,trivial,trivial,by decide,
     .inl ⟨1,[0,1,2,4],[],_,_,rkT n 1 b,[some rpR,some rpN,some (rpO G N I P (.l 3 0 1 1 1 false)),some (cellsO 5 [.i .u8 (ofNat (b 11))])],hn,by show n-1<n-0;omega,rfl,st_k [0,1,2,4] (by kernel_rfl),.refl _,.refl _,.refl _,rpO_ov .l_lr,
      .x (OX.cellsRows rfl fun i hi=>by
       have:i=0:=Nat.lt_one_iff.1 hi
       subst this;exact ⟨_,rfl,fun ρ x hx=>by cases hx;exact .i _ _⟩),trivial⟩⟩⟩
  | succ k=>
    by_cases hlt:k+1<n
    · have h:decide (ofNat (k+1)<ofNat n)=true:=decide_eq_true (by simp;omega)
      exact ⟨by show 3≤4;omega,1000000,_,(rkB_vc G N I P n (k+1) b (pdB b) h _).mpr ⟨h,trivial,⟨by simp;omega,by simp;omega⟩,⟨by simp;omega,by simp;omega⟩,trivial,⟨by omega,trivial,by omega,by omega⟩,trivial,⟨by simp;omega,by simp;omega⟩,
       .inl ⟨k+2,[0,1,2,5],[],_,_,rkT n (k+2) b,[some rpR,some rpN,some (rpO G N I P (.lr 3 1 0 (addN (k+1) 1) false)),some (.rows 5 1 (addN (k+1) 1) (appZ (k+1) (byF (pdB b)) (listF 1 [CV.i .u8 (ofNat (b (Int.toNat ((11:Int)+ofNat (k+1)))))] 1)))],hlt,by show n-(k+2)<n-(k+1);omega,rfl,st_k [0,1,2,5] (by kernel_rfl),.refl _,.refl _,.refl _,.refl _,.rowsW fun i j hi hj=>app_d5 b (k+1) hi hj,trivial⟩⟩⟩
    · have e:k+1=n:=by omega
      subst e
      have h:decide (ofNat (k+1)<ofNat (k+1))=false:=decide_eq_false (by simp)
      exact ⟨by show 3≤4;omega,1000000,_,(rkD_vc G N I P (k+1) (k+1) b (pdB b) h _).mpr ⟨h,.inr ⟨[0,1,2,3],[],_,_,rkE b,[some rpR,some rpN,some (rpO G N I P (.lr 3 1 0 (k+1) false)),some (.rows 5 1 (k+1) (byF (pdB b)))],rfl,by simp,st_k [0,1,2,3] (by kernel_rfl),.refl _,.refl _⟩⟩⟩
 have f0:shiftF 0 (byF (pdB b))=byF (pdB b):=by rw [shift_by];simp only [Nat.zero_add]
 have k2:LDoes PG (loopAt PG 72 0) 130 3 (mkT (rkT n 0 b)) [some rpR,some rpN,some (rpO G N I P .l0)] (.exit 0) (mkT (rkE b)) [some rpR,some rpN,some (rpO G N I P (.sv 1 n (shiftF 0 (byF (pdB b))))),none]:=key.frz 3 (e:=5) (sz:=1) (m:=n) (f:=byF (pdB b)) rfl ⟨.inl rfl,.inl rfl,.cellsD (e:=93) (dflt:=rpZ) (l:=[.i .i64 (ofNat G),.i .i64 (ofNat N),.i .i64 (ofNat I),.i .i64 (ofNat P),.lr 3 1 0 n false]) (l':=[.i .i64 (ofNat G),.i .i64 (ofNat N),.i .i64 (ofNat I),.i .i64 (ofNat P),.sv 1 n (shiftF 0 (byF (pdB b)))]) ⟨.inl rfl,.inl rfl,.inl rfl,.inl rfl,.inr ⟨by kernel_rfl,⟨rfl,by omega⟩,rfl⟩,trivial⟩,rfl,trivial⟩
 rw [f0] at k2;exact k2
abbrev dP (b:Nat→Nat):Bool:=decide (ofNat (b 9)<1)
abbrev dL (b:Nat→Nat):Bool:=decide (ofNat (b 8)=ofNat (b 9)-1)
abbrev dN (b:Nat→Nat):Bool:=decide (ofNat (b 10)=47)
abbrev dZ (b:Nat→Nat):Bool:=decide (ofNat (b 10)=0)
abbrev dQ (b:Nat→Nat):Bool:=decide ((1:Int)<ofNat (b 9))
abbrev rkA (b:Nat→Nat) (G1:Nat):Prop:=Con PG 87 [.sv 1 64 (byF b)] [] (.tup [.i .u32 (ofNat G1),.b true]) []
abbrev rkB (b:Nat→Nat) (G2:Nat):Prop:=Con PG 87 [.sv 1 60 (shiftF 4 (byF b))] [] (.tup [.i .u32 (ofNat G2),.b true]) []
abbrev okW (G1 G2:Nat) (b:Nat→Nat):AV:=.agg [.i .i64 (ofNat G1),.i .i64 (ofNat G2),.i .i64 (ofNat (b 8)),.i .i64 (ofNat (b 9)),.sv 1 (b 10) (byF (pdB b))]
abbrev rkC (b sb:Nat→Nat) (G1 G2:Nat):Prop:=Con PG 45 [okW G1 G2 b] [] (.sv 1 64 (byF sb)) []
abbrev rkL (b:Nat→Nat) (G1 G2:Nat) (l:List (Option AObj)):Prop:=LDoes PG (loopAt PG 72 0) 130 3 (mkT (rkT (b 10) 0 b)) [some rpR,some rpN,some (rpO G1 G2 (b 8) (b 9) .l0)] (.exit 0) (mkT (rkE b)) ([some rpR,some rpN,some (rpO G1 G2 (b 8) (b 9) (.sv 1 (b 10) (byF (pdB b))))] ++ l)
abbrev lkV (sb:Nat→Nat) (G1 G2:Nat) (b:Nat→Nat):AV:=bif natsEq (bytesF 64 (byF sb)) (bytesF 64 (byF b)) then okW G1 G2 b else ptZ
theorem lkV_b (sb:Nat→Nat) (G1 G2:Nat) (b:Nat→Nat):below 0 (lkV sb G1 G2 b)=true:=by
 unfold lkV
 cases natsEq (bytesF 64 (byF sb)) (bytesF 64 (byF b))<;>rfl
theorem eqT {e:Bool} {x y:AV} (h:(!e)=true):x=bif e then y else x:=by cases e with | false=>rfl | true=>cases h
theorem eqF {e:Bool} {x y:AV} (h:(!e)=false):y=bif e then y else x:=by cases e with | false=>cases h | true=>rfl
abbrev rlP (b:Nat→Nat) (v:AV):Prop:=Con PG 72 [.sv 1 64 (byF b)] [] v []
theorem rlX {b:Nat→Nat} {v:AV} (o:Orc) (R:Prop) (hb:below 0 v=true:=by rfl) (h:runK PG 1000000 (.call 72 [.sv 1 64 (byF b)] (mkH [])) o (fun r _=>rvIs v r)=R:=by kernel_rfl) (hr:R:=by repeat' first | exact trivial | exact rng _ (by omega) | exact rngm _ (by assumption) | refine And.intro ?_ ?_ | assumption | exact nt (by assumption) | exact nf (by assumption) | exact nnt (by assumption) | exact nnf (by assumption) | (decide;done) | exact fun _ _=>⟨_,rfl⟩ | exact eqT | exact eqF | exact rfl):rlP b v:=con_pureX h hb hr
abbrev w1 (G1 G2:Nat) (b:Nat→Nat) (X:Prop):Prop:=rkA b G1∧((0:Int)≤(4:Int)∧True∧4≤64∧64≤64)∧rkB b G2∧rg (ofNat G1)∧rg (ofNat G2)∧((0:Int)≤(8:Int)∧(8:Int)<(64:Int))∧True∧rg (ofNat (b 8))∧((0:Int)≤(9:Int)∧(9:Int)<(64:Int))∧True∧rg (ofNat (b 9))∧((0:Int)≤(10:Int)∧(10:Int)<(64:Int))∧True∧rg (ofNat (b 10))∧True∧X
abbrev w2 (G1 G2:Nat) (b:Nat→Nat) (X:Prop):Prop:=w1 G1 G2 b (nt1 (dB G1)∧True∧nt1 (dB G1)∧nt1 (dB G1)∧dB G1=false∧X)
abbrev w3 (G1 G2:Nat) (b:Nat→Nat) (X:Prop):Prop:=w2 G1 G2 b (nt1 (dC G1)∧True∧nt1 (dC G1)∧nt1 (dC G1)∧dC G1=false∧X)
abbrev w4 (G1 G2:Nat) (b:Nat→Nat) (X:Prop):Prop:=w3 G1 G2 b (nt1 (dC G2)∧True∧nt1 (dC G2)∧nt1 (dC G2)∧dC G2=false∧X)
abbrev w5 (G1 G2:Nat) (b:Nat→Nat) (X:Prop):Prop:=w4 G1 G2 b (nt1 (dP b)∧True∧nt1 (dP b)∧nt1 (dP b)∧dP b=false∧X)
abbrev w6 (G1 G2:Nat) (b:Nat→Nat) (X:Prop):Prop:=w5 G1 G2 b (nt1 (dE b)∧True∧nt1 (dE b)∧nt1 (dE b)∧True∧nt1 (dE b)∧nt1 (dE b)∧dE b=false∧X)
abbrev w7 (G1 G2:Nat) (b:Nat→Nat) (X:Prop):Prop:=w6 G1 G2 b (nt1 (dF b)∧nt1 (dF b)∧dF b=false∧X)
abbrev w8 (G1 G2:Nat) (b:Nat→Nat) (X:Prop):Prop:=w7 G1 G2 b (dA b=false∧True∧True∧rg (ofNat (b 9)-1)∧True∧X)
abbrev w9 (G1 G2:Nat) (b:Nat→Nat) (X:Prop):Prop:=w8 G1 G2 b (nt1 (dL b)∧nt1 (dL b)∧nt1 (dL b)∧X)
abbrev w10 (G1 G2:Nat) (b:Nat→Nat) (X:Prop):Prop:=w8 G1 G2 b ((!(dL b))=false∧(!(dL b))=false∧(!(dL b))=false∧dL b=true∧dL b=true∧dL b=true∧X)
abbrev w11 (G1 G2:Nat) (b:Nat→Nat) (X:Prop):Prop:=w10 G1 G2 b (dZ b=true∧True∧dZ b=true∧dZ b=true∧dZ b=true∧X)
abbrev oRA (G1 G2:Nat) (x:Orc):Orc:=(Orc.c (Orc.cal [] (AV.tup [AV.i .u32 (ofNat G1),AV.b true]) [] (Orc.cal [] (AV.tup [AV.i .u32 (ofNat G2),AV.b true]) [] x)))
abbrev oRB (G1 G2:Nat) (x:Orc):Orc:=(Orc.c (Orc.cal [] (AV.tup [AV.i .u32 (ofNat G1),AV.b true]) [] (Orc.cal [] (AV.tup [AV.i .u32 (ofNat G2),AV.b true]) [] (Orc.t (Orc.t (Orc.t (Orc.f (Orc.t (Orc.t (Orc.t (Orc.f x)))))))))))
abbrev oRC (G1 G2:Nat) (x:Orc):Orc:=(Orc.c (Orc.cal [] (AV.tup [AV.i .u32 (ofNat G1),AV.b true]) [] (Orc.cal [] (AV.tup [AV.i .u32 (ofNat G2),AV.b true]) [] (Orc.t (Orc.t (Orc.t (Orc.f (Orc.t (Orc.t (Orc.t (Orc.f (Orc.t (Orc.t (Orc.t (Orc.f (Orc.t (Orc.t (Orc.t (Orc.f (Orc.t (Orc.t (Orc.t (Orc.t (Orc.t (Orc.f (Orc.t (Orc.t (Orc.f x))))))))))))))))))))))))))))
theorem rt1 (G1 G2:Nat) (sb b:Nat→Nat) (h8:b 8<256) (h9:b 9<256) (h10:b 10<256) (hG1:G1≤4294967296) (hG2:G2≤4294967296) (hB:dB G1=true) (kA:rkA b G1) (kB:rkB b G2):rlP b (ptZ):=
 rlX (oRA G1 G2 (Orc.f (Orc.f (Orc.f (Orc.t (oc 22 Orc.z)))))) (w1 G1 G2 b ((!(dB G1))=false∧(!(dB G1))=false∧(!(dB G1))=false∧dB G1=true∧(ptZ)=ptZ))
theorem rt2 (G1 G2:Nat) (sb b:Nat→Nat) (h8:b 8<256) (h9:b 9<256) (h10:b 10<256) (hG1:G1≤4294967296) (hG2:G2≤4294967296) (hB:dB G1=false) (hC:dC G1=true) (kA:rkA b G1) (kB:rkB b G2):rlP b (ptZ):=
 rlX (oRA G1 G2 (Orc.t (Orc.t (Orc.t (Orc.f (Orc.f (Orc.f (Orc.f (Orc.t (oc 18 Orc.z)))))))))) (w2 G1 G2 b ((!(dC G1))=false∧(!(dC G1))=false∧(!(dC G1))=false∧dC G1=true∧(ptZ)=ptZ))
theorem rt3 (G1 G2:Nat) (sb b:Nat→Nat) (h8:b 8<256) (h9:b 9<256) (h10:b 10<256) (hG1:G1≤4294967296) (hG2:G2≤4294967296) (hB:dB G1=false) (hC:dC G1=false) (hD:dC G2=true) (kA:rkA b G1) (kB:rkB b G2):rlP b (ptZ):=
 rlX (oRB G1 G2 (Orc.f (Orc.f (Orc.f (Orc.t (oc 14 Orc.z)))))) (w3 G1 G2 b ((!(dC G2))=false∧(!(dC G2))=false∧(!(dC G2))=false∧dC G2=true∧(ptZ)=ptZ))
theorem rt4 (G1 G2:Nat) (sb b:Nat→Nat) (h8:b 8<256) (h9:b 9<256) (h10:b 10<256) (hG1:G1≤4294967296) (hG2:G2≤4294967296) (hB:dB G1=false) (hC:dC G1=false) (hD:dC G2=false) (hP:dP b=true) (kA:rkA b G1) (kB:rkB b G2):rlP b (ptZ):=
 rlX (oRB G1 G2 (Orc.t (Orc.t (Orc.t (Orc.f (Orc.f (Orc.f (Orc.f (Orc.t (oc 10 Orc.z)))))))))) (w4 G1 G2 b ((!(dP b))=false∧(!(dP b))=false∧(!(dP b))=false∧dP b=true∧(ptZ)=ptZ))
theorem rt5 (G1 G2:Nat) (sb b:Nat→Nat) (h8:b 8<256) (h9:b 9<256) (h10:b 10<256) (hG1:G1≤4294967296) (hG2:G2≤4294967296) (hB:dB G1=false) (hC:dC G1=false) (hD:dC G2=false) (hP:dP b=false) (hE:dE b=true) (kA:rkA b G1) (kB:rkB b G2):rlP b (ptZ):=
 rlX (oRB G1 G2 (Orc.t (Orc.t (Orc.t (Orc.f (Orc.t (Orc.t (Orc.t (Orc.f (Orc.f (Orc.f (Orc.f (Orc.f (Orc.f (Orc.t (oc 4 Orc.z)))))))))))))))) (w5 G1 G2 b ((!(dE b))=false∧(!(dE b))=false∧(!(dE b))=false∧(!(dE b))=false∧(!(dE b))=false∧dE b=true∧(ptZ)=ptZ))
theorem rt6 (G1 G2:Nat) (sb b:Nat→Nat) (h8:b 8<256) (h9:b 9<256) (h10:b 10<256) (hG1:G1≤4294967296) (hG2:G2≤4294967296) (hB:dB G1=false) (hC:dC G1=false) (hD:dC G2=false) (hP:dP b=false) (hE:dE b=false) (hF:dF b=true) (kA:rkA b G1) (kB:rkB b G2):rlP b (ptZ):=
 rlX (oRB G1 G2 (Orc.t (Orc.t (Orc.t (Orc.f (Orc.t (Orc.t (Orc.t (Orc.f (Orc.t (Orc.t (Orc.t (Orc.t (Orc.t (Orc.f (Orc.f (Orc.f (Orc.t (Orc.c Orc.z))))))))))))))))))) (w6 G1 G2 b ((!(dF b))=false∧(!(dF b))=false∧dF b=true∧(ptZ)=ptZ))
theorem rt7 (G1 G2:Nat) (sb b:Nat→Nat) (h8:b 8<256) (h9:b 9<256) (h10:b 10<256) (hG1:G1≤4294967296) (hG2:G2≤4294967296) (hB:dB G1=false) (hC:dC G1=false) (hD:dC G2=false) (hP:dP b=false) (hE:dE b=false) (hF:dF b=false) (hA:dA b=true) (kA:rkA b G1) (kB:rkB b G2):rlP b (ptZ):=
 rlX (oRC G1 G2 (Orc.t Orc.z)) (w7 G1 G2 b (dA b=true∧(ptZ)=ptZ))
theorem rt8 (G1 G2:Nat) (sb b:Nat→Nat) (h8:b 8<256) (h9:b 9<256) (h10:b 10<256) (hG1:G1≤4294967296) (hG2:G2≤4294967296) (hB:dB G1=false) (hC:dC G1=false) (hD:dC G2=false) (hP:dP b=false) (hE:dE b=false) (hF:dF b=false) (hA:dA b=false) (hL:dL b=false) (hN:dN b=false) (kA:rkA b G1) (kB:rkB b G2):rlP b (ptZ):=
 rlX (oRC G1 G2 (Orc.f (Orc.t (Orc.t (Orc.t (Orc.f (Orc.f (Orc.f (Orc.f (Orc.f (Orc.t (Orc.c Orc.z)))))))))))) (w9 G1 G2 b ((!!(dN b))=false∧(!!(dN b))=false∧(!!(dN b))=false∧(!!(dN b))=false∧(!!(dN b))=false∧nt1 (dN b)∧(ptZ)=ptZ))
theorem rt9 (G1 G2:Nat) (sb b:Nat→Nat) (h8:b 8<256) (h9:b 9<256) (h10:b 10<256) (hG1:G1≤4294967296) (hG2:G2≤4294967296) (hB:dB G1=false) (hC:dC G1=false) (hD:dC G2=false) (hP:dP b=false) (hE:dE b=false) (hF:dF b=false) (hA:dA b=false) (hL:dL b=false) (hN:dN b=true) (kA:rkA b G1) (kB:rkB b G2) (kL:rkL b G1 G2 [none]) (kC:rkC b sb G1 G2):rlP b (lkV sb G1 G2 b):=
 rlX (oRC G1 G2 (Orc.f (Orc.t (Orc.t (Orc.t (Orc.t (Orc.t (Orc.f (Orc.f (Orc.t (Orc.f (Orc.t (oc 3 (Orc.t (Orc.c (Orc.f (Orc.c (Orc.lop [0,1,2] [0,2,3,8,9,11] 3 (XO.exit 0) (rkE b) [some rpR,some rpN,some (rpO G1 G2 (b 8) (b 9) (AV.sv 1 (b 10) (byF (pdB b)))),none] (Orc.cal [] (AV.sv 1 64 (byF sb)) [] (Orc.s Orc.z Orc.z)))))))))))))))))))) (w9 G1 G2 b ((!!(dN b))=true∧(!!(dN b))=true∧dL b=false∧dL b=false∧(!!(dN b))=true∧dL b=false∧(!!(dN b))=true∧(!!(dN b))=true∧(!(dN b))=false∧rkL b G1 G2 [none]∧rkC b sb G1 G2∧U8s 64 (byF sb)∧U8s 64 (byF b)∧((!natsEq (bytesF 64 (byF sb)) (bytesF 64 (byF b)))=true→(ptZ)=lkV sb G1 G2 b)∧((!natsEq (bytesF 64 (byF sb)) (bytesF 64 (byF b)))=false→(okW G1 G2 b)=lkV sb G1 G2 b))) (hb:=lkV_b sb G1 G2 b)
theorem rt10 (G1 G2:Nat) (sb b:Nat→Nat) (h8:b 8<256) (h9:b 9<256) (h10:b 10<256) (hG1:G1≤4294967296) (hG2:G2≤4294967296) (hB:dB G1=false) (hC:dC G1=false) (hD:dC G2=false) (hP:dP b=false) (hE:dE b=false) (hF:dF b=false) (hA:dA b=false) (hL:dL b=true) (hZ:dZ b=true) (hQ:dQ b=true) (kA:rkA b G1) (kB:rkB b G2):rlP b (ptZ):=
 rlX (oRC G1 G2 (Orc.f (Orc.f (Orc.f (Orc.f (oc 2 (Orc.t (Orc.t (Orc.c (Orc.t (Orc.c (Orc.t (Orc.t (Orc.t (Orc.c (Orc.t (Orc.c (Orc.t Orc.z)))))))))))))))))) (w11 G1 G2 b (dQ b=true∧(ptZ)=ptZ))
theorem rt11 (G1 G2:Nat) (sb b:Nat→Nat) (h8:b 8<256) (h9:b 9<256) (h10:b 10<256) (hG1:G1≤4294967296) (hG2:G2≤4294967296) (hB:dB G1=false) (hC:dC G1=false) (hD:dC G2=false) (hP:dP b=false) (hE:dE b=false) (hF:dF b=false) (hA:dA b=false) (hL:dL b=true) (hZ:dZ b=true) (hQ:dQ b=false) (kA:rkA b G1) (kB:rkB b G2) (kL:rkL b G1 G2 []) (kC:rkC b sb G1 G2):rlP b (lkV sb G1 G2 b):=
 rlX (oRC G1 G2 (Orc.f (Orc.f (Orc.f (Orc.f (oc 2 (Orc.t (Orc.t (Orc.c (Orc.t (Orc.c (Orc.t (Orc.t (Orc.t (Orc.c (Orc.t (Orc.c (Orc.f (Orc.lop [0,1,2] [0,2,3,8,9,11] 3 (XO.exit 0) (rkE b) [some rpR,some rpN,some (rpO G1 G2 (b 8) (b 9) (AV.sv 1 (b 10) (byF (pdB b))))] (Orc.cal [] (AV.sv 1 64 (byF sb)) [] (Orc.s Orc.z Orc.z))))))))))))))))))))) (w11 G1 G2 b (dQ b=false∧rkL b G1 G2 []∧rkC b sb G1 G2∧U8s 64 (byF sb)∧U8s 64 (byF b)∧((!natsEq (bytesF 64 (byF sb)) (bytesF 64 (byF b)))=true→(ptZ)=lkV sb G1 G2 b)∧((!natsEq (bytesF 64 (byF sb)) (bytesF 64 (byF b)))=false→(okW G1 G2 b)=lkV sb G1 G2 b))) (hb:=lkV_b sb G1 G2 b)
theorem rt12 (G1 G2:Nat) (sb b:Nat→Nat) (h8:b 8<256) (h9:b 9<256) (h10:b 10<256) (hG1:G1≤4294967296) (hG2:G2≤4294967296) (hB:dB G1=false) (hC:dC G1=false) (hD:dC G2=false) (hP:dP b=false) (hE:dE b=false) (hF:dF b=false) (hA:dA b=false) (hL:dL b=true) (hZ:dZ b=false) (kA:rkA b G1) (kB:rkB b G2) (kL:rkL b G1 G2 [none]) (kC:rkC b sb G1 G2):rlP b (lkV sb G1 G2 b):=
 rlX (oRC G1 G2 (Orc.f (Orc.f (Orc.f (Orc.f (oc 2 (Orc.t (Orc.t (Orc.c (Orc.t (Orc.c (Orc.f (Orc.f (Orc.f (Orc.c (Orc.f (oc 2 (Orc.lop [0,1,2] [0,2,3,8,9,11] 3 (XO.exit 0) (rkE b) [some rpR,some rpN,some (rpO G1 G2 (b 8) (b 9) (AV.sv 1 (b 10) (byF (pdB b)))),none] (Orc.cal [] (AV.sv 1 64 (byF sb)) [] (Orc.s Orc.z Orc.z)))))))))))))))))))) (w10 G1 G2 b (dZ b=false∧dZ b=false∧dZ b=false∧dZ b=false∧rkL b G1 G2 [none]∧rkC b sb G1 G2∧U8s 64 (byF sb)∧U8s 64 (byF b)∧((!natsEq (bytesF 64 (byF sb)) (bytesF 64 (byF b)))=true→(ptZ)=lkV sb G1 G2 b)∧((!natsEq (bytesF 64 (byF sb)) (bytesF 64 (byF b)))=false→(okW G1 G2 b)=lkV sb G1 G2 b))) (hb:=lkV_b sb G1 G2 b)
theorem nats_64 (b c:Nat→Nat) (hb:∀k,k<64→b k<256) (hc:∀k,k<64→c k<256):natsEq (bytesF 64 (byF b)) (bytesF 64 (byF c))=true↔∀k,k<64→b k=c k:=by
 rw [natsEq_iff]
 unfold bytesF
 constructor
 · intro h k hk
   have:=congrArg (fun l=>l[k]?) h
   simp only [List.getElem?_map,List.getElem?_range hk] at this
   have:b k % 256=c k % 256:=Option.some.inj this
   rwa [Nat.mod_eq_of_lt (hb k hk),Nat.mod_eq_of_lt (hc k hk)] at this
 · intro h
   refine List.map_congr_left fun k hk=>?_
   show b k % 256=c k % 256
   rw [h k (List.mem_range.1 hk)]
theorem PtOk.congr {b c:Nat→Nat} (e:∀k,k<64→b k=c k) (h:PtOk b):PtOk c:=by
 have e8:=e 8 (by omega);have e9:=e 9 (by omega);have e10:=e 10 (by omega)
 have f1:g1 b=g1 c:=four1_congr fun k hk=>by rw [bOf_by,bOf_by,e k (by omega)]
 have f2:g2 b=g2 c:=four1_congr fun k hk=>by rw [bOf_sh,bOf_sh,e (4+k) (by omega)]
 have op:=h.op
 have rs:=h.rest
 have sz:=h.size
 unfold openB at op
 unfold restP at rs
 rw [trN_zero] at rs
 refine ⟨?_,by rw [←e10];exact h.size,by rw [←f1];exact h.gen0,by rw [←f1];exact h.gen1,by rw [←f2];exact h.num,by rw [←e9];exact h.parts,by rw [←e8,←e9];exact h.idx,by rw [←e8,←e9,←e10];exact h.full,by rw [←e8,←e9,←e10];exact h.last,?_⟩
 · unfold openB
   rw [←four1_congr (b:=bOf (shiftF 60 (byF b))) fun k hk=>by rw [bOf_sh,bOf_sh,e (60+k) (by omega)],←sumN_congr (b:=bOf (byF b)) fun k hk=>by rw [bOf_by,bOf_by,e k (by omega)]]
   exact op
 · unfold restP
   rw [trN_zero,←e10]
   intro k hk
   have:=rs k hk
   rw [bOf_sh] at this
   rw [bOf_sh,←e _ (by omega)];exact this
theorem sec_of {b:Nat→Nat} (h:PtOk b) (hb:∀k,k<64→b k<256):∀k,k<64→psecB (g1 b) (g2 b) (b 8) (b 9) (b 10) (pdB b) k=b k:=by
 have sz:=h.size
 have l1:=h.gen1;have l2:=h.num
 have rs:=h.rest
 unfold restP at rs
 rw [trN_zero] at rs
 have body:∀k,k<60→pbodyB (g1 b) (g2 b) (b 8) (b 9) (b 10) (pdB b) k=b k:=by
  intro k hk
  by_cases c4:k<4
  · rw [pb_gen _ _ _ _ _ _ c4,Nat.mod_eq_of_lt (by omega)]
    have:=fourB_four (b:=bOf (byF b)) (fun k hk=>by rw [bOf_by];exact hb k (by omega)) k c4
    rw [bOf_by] at this;exact this
  by_cases c8:k<8
  · rw [pb_num _ _ _ _ _ _ (by omega) c8,Nat.mod_eq_of_lt (by omega)]
    have:=fourB_four (b:=bOf (shiftF 4 (byF b))) (fun k hk=>by rw [bOf_sh];exact hb _ (by omega)) (k-4) (by omega)
    rw [bOf_sh,show 4+(k-4)=k by omega] at this;exact this
  by_cases d8:k=8
  · subst d8;rw [pb_8,Nat.mod_eq_of_lt (hb 8 (by omega))]
  by_cases d9:k=9
  · subst d9;rw [pb_9,Nat.mod_eq_of_lt (hb 9 (by omega))]
  by_cases d10:k=10
  · subst d10;rw [pb_10,Nat.mod_eq_of_lt (hb 10 (by omega))]
  by_cases dt:k<11+b 10
  · obtain ⟨i,rfl⟩:∃i,k=11+i:=⟨k-11,by omega⟩
    rw [pb_txt _ _ _ _ _ _ (by omega)];rfl
  · rw [pb_rest _ _ _ _ _ _ (by omega)]
    have:=rs (k-(11+b 10)) (by omega)
    rw [bOf_sh,show 11+b 10+(k-(11+b 10))=k by omega] at this
    exact this.symm
 intro k hk
 by_cases c:k<60
 · rw [ps_body _ _ _ _ _ _ c];exact body k c
 · obtain ⟨i,rfl⟩:∃i,k=60+i:=⟨k-60,by omega⟩
   rw [ps_sum]
   have op:=h.op
   unfold openB at op
   have op:=of_decide_eq_true op
   have op:four1 (bOf (shiftF 60 (byF b)))=sumN (bOf (byF b)) 60:=Int.ofNat.inj op
   have e2:sumN (pbodyB (g1 b) (g2 b) (b 8) (b 9) (b 10) (pdB b)) 60=sumN (bOf (byF b)) 60:=sumN_congr fun k hk=>by rw [bOf_by];exact body k hk
   rw [e2,←op]
   have:=fourB_four (b:=bOf (shiftF 60 (byF b))) (fun k hk=>by rw [bOf_sh];exact hb _ (by omega)) i (by omega)
   rw [bOf_sh] at this;exact this
theorem rlook5_con (b:Nat→Nat) (hb:∀k,k<64→b k<256):Con PG 72 [.sv 1 64 (byF b)] [] (ptV b) []:=by
 have h8:=hb 8 (by omega);have h9:=hb 9 (by omega);have h10:=hb 10 (by omega)
 have l1:g1 b<4294967296:=four1_lt fun k hk=>by rw [bOf_by];exact hb k (by omega)
 have l2:g2 b<4294967296:=four1_lt fun k hk=>by rw [bOf_sh];exact hb _ (by omega)
 have kA:rkA b (g1 b):=by
  have h:=rofFour_con 64 b (by decide) fun k hk=>hb k (by omega)
  exact h
 have kB:rkB b (g2 b):=by
  have e:four1 (fun k=>b (4+k))=g2 b:=four1_congr fun k hk=>by rw [bOf_sh]
  have h:Con PG 87 [.sv 1 60 (shiftF 4 (byF b))] [] (.tup [.i .u32 (ofNat (four1 fun k=>b (4+k))),.b true]) []:=
   (rofFour_con 60 (fun k=>b (4+k)) (by decide) fun k hk=>hb _ (by omega)).pre ⟨.sv fun k j _ _=>by rw [shiftF_eq];rfl,trivial⟩
  rw [e] at h;exact h
 have q1:=Nat.le_of_lt l1;have q2:=Nat.le_of_lt l2
 let sb:=psecB (g1 b) (g2 b) (b 8) (b 9) (b 10) (pdB b)
 by_cases c1:1≤g1 b
 rotate_left
 · exact zeroPt (fun h=>c1 h.gen0) (rt1 _ _ sb b h8 h9 h10 q1 q2 (decide_eq_true (by simp;omega)) kA kB)
 have d1:dB (g1 b)=false:=decide_eq_false (by simp;omega)
 by_cases c2:g1 b≤1073741824
 rotate_left
 · exact zeroPt (fun h=>c2 h.gen1) (rt2 _ _ sb b h8 h9 h10 q1 q2 d1 (decide_eq_true (by simp;omega)) kA kB)
 have d2:dC (g1 b)=false:=decide_eq_false (by simp;omega)
 by_cases c3:g2 b≤1073741824
 rotate_left
 · exact zeroPt (fun h=>c3 h.num) (rt3 _ _ sb b h8 h9 h10 q1 q2 d1 d2 (decide_eq_true (by simp;omega)) kA kB)
 have d3:dC (g2 b)=false:=decide_eq_false (by simp;omega)
 by_cases c4:1≤b 9
 rotate_left
 · exact zeroPt (fun h=>by have:=h.idx;omega) (rt4 _ _ sb b h8 h9 h10 q1 q2 d1 d2 d3 (decide_eq_true (by simp;omega)) kA kB)
 have d4:dP b=false:=decide_eq_false (by simp;omega)
 by_cases c5:b 9≤24
 rotate_left
 · exact zeroPt (fun h=>c5 h.parts) (rt5 _ _ sb b h8 h9 h10 q1 q2 d1 d2 d3 d4 (decide_eq_true (by simp;omega)) kA kB)
 have d5:dE b=false:=decide_eq_false (by simp;omega)
 by_cases c6:b 8<b 9
 rotate_left
 · exact zeroPt (fun h=>c6 h.idx) (rt6 _ _ sb b h8 h9 h10 q1 q2 d1 d2 d3 d4 d5 (decide_eq_true (by simp;omega)) kA kB)
 have d6:dF b=false:=decide_eq_false (by simp;omega)
 by_cases c7:b 10≤47
 rotate_left
 · exact zeroPt (fun h=>c7 h.size) (rt7 _ _ sb b h8 h9 h10 q1 q2 d1 d2 d3 d4 d5 d6 (decide_eq_true (by simp;omega)) kA kB)
 have d7:dA b=false:=decide_eq_false (by simp;omega)
 have hp:∀k,k<b 10→pdB b k<256:=fun k hk=>hb _ (by omega)
 have kC:rkC b sb (g1 b) (g2 b):=rlay5_con _ _ _ _ _ _ c7 hp
 have fin:(b 8+1<b 9→b 10=47)→(b 9≤b 8+1→0<b 10∨b 9=1)→rlP b (lkV sb (g1 b) (g2 b) b)→rlP b (ptV b):=by
  intro f1 f2 k
  have key:=nats_64 sb b (fun k _=>psecB_lt hp k) hb
  unfold lkV at k
  by_cases ok:PtOk b
  · rw [key.2 (sec_of ok hb),cond_true] at k
    have e:ptV b=okW (g1 b) (g2 b) b:=by
     unfold ptV
     rw [stG_t ok,stN_t ok,stI_t ok,stP_t ok,stL_t ok];rfl
    rw [e];exact k
  · have:natsEq (bytesF 64 (byF sb)) (bytesF 64 (byF b))=false:=by
     rw [Bool.eq_false_iff]
     intro h
     exact ok ((ps_ok _ _ _ _ _ _ c1 c2 c3 c5 c6 c7 f1 f2).congr (key.1 h))
    rw [this,cond_false] at k
    exact zeroPt ok k
 by_cases c8:b 8+1=b 9
 · have d8:dL b=true:=decide_eq_true (by simp;omega)
   by_cases c9:b 10=0
   · have d9:dZ b=true:=decide_eq_true (by simp;omega)
     by_cases ca:1<b 9
     · exact zeroPt (fun h=>by rcases h.last (by omega) with h | h<;>omega) (rt10 _ _ sb b h8 h9 h10 q1 q2 d1 d2 d3 d4 d5 d6 d7 d8 d9 (decide_eq_true (by simp;omega)) kA kB)
     · exact fin (fun h=>by omega) (fun _=>.inr (by omega)) (rt11 _ _ sb b h8 h9 h10 q1 q2 d1 d2 d3 d4 d5 d6 d7 d8 d9 (decide_eq_false (by simp;omega)) kA kB (rk0_lp _ _ _ _ _ b c9) kC)
   · have d9:dZ b=false:=decide_eq_false (by simp;omega)
     exact fin (fun h=>by omega) (fun _=>.inl (by omega)) (rt12 _ _ sb b h8 h9 h10 q1 q2 d1 d2 d3 d4 d5 d6 d7 d8 d9 kA kB (rk1_lp _ _ _ _ _ b (by omega) c7) kC)
 · have d8:dL b=false:=decide_eq_false (by simp;omega)
   by_cases c9:b 10=47
   · have d9:dN b=true:=decide_eq_true (by simp;omega)
     exact fin (fun _=>c9) (fun h=>by omega) (rt9 _ _ sb b h8 h9 h10 q1 q2 d1 d2 d3 d4 d5 d6 d7 d8 d9 kA kB (rk1_lp _ _ _ _ _ b (by omega) c7) kC)
   · have d9:dN b=false:=decide_eq_false (by simp;omega)
     exact zeroPt (fun h=>c9 (h.full (by omega))) (rt8 _ _ sb b h8 h9 h10 q1 q2 d1 d2 d3 d4 d5 d6 d7 d8 d9 kA kB)
end Go.Proofs.Jn
/- Sectors that are handed in. -/
namespace Go.Proofs.St
open Go Go.Sim
def z0 {α:Type} (a b:T α):T α:=T.n none a b
def z1 {α:Type} (v:α) (a b:T α):T α:=T.n (some v) a b
def zl {α:Type} (v:α):T α:=T.n (some v) T.e T.e
def bF (b:Nat→Nat):Nat→Nat→CV:=fun k _=>.i .u8 (ofNat (b k))
def imF (ll:Nat→Nat) (bb:Nat→Nat→Nat):Nat→Nat→CV:=fun i _=>.sv 1 (ll i) fun k _=>.i .u8 (ofNat (bb i k))
end Go.Proofs.St
/- The reference's store, told by the program's state. -/
namespace Go.Proofs.St
open Go Go.Sim Go.Proofs
def SS.am (s:SS):Int:=bif s.armed then ofNat s.left else -1
def rsQ (A n p wr:Nat) (am:Int) (off:Bool):AObj:=.cells 56 5 [] (setAll .e 0 [.lr 1 1 0 n false,.lr A 2 0 p false,.i .i64 (ofNat wr),.i .i64 am,.b off])
def penF (aa:Nat→Nat) (bb:Nat→Nat→Int):Nat→Nat→CV:=fun k j=>match j with
 | 0=>.i .i64 (ofNat (aa k))
 | _=>.sv 1 64 fun q _=>.i .u8 (bb k q)
def iF (b:Nat→Int):Nat→Nat→CV:=fun k _=>.i .u8 (b k)
def rsA (A:Nat) (s:SS):AObj:=rsQ A s.n s.P.length s.wr s.am s.off
def rsR (s:SS):AObj:=.rows 38 1 s.n (imgF s)
def rsP (s:SS):AObj:=.rows 115 2 s.P.length (penF (oA s.P) (oB s.P))
def laidM (s:SS) (m:Nat):SS:=s.laid (oA s.P) (oB s.P) m
end Go.Proofs.St
