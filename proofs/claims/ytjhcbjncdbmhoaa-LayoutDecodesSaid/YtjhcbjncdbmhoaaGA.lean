/- Runs over unknown values, told by the kernel: part GA. -/
import Derived.Test.YtjhcbjncdbmhoaaSymI
import Derived.Shelf.Pu.Clone
import Derived.Test.YtjhcbjncdbmhoaaRows
set_option linter.unusedSimpArgs false
set_option linter.unusedVariables false
set_option maxRecDepth 20000
namespace Go.Proofs.Ly
open Go Go.Sim Go.Proofs Go.Proofs.Ytjhcbjncdbmhoaa
def ren25:Go.Shelf.Ren:=⟨fun _=>85,fun | 0=>0 | 3=>3 | 4=>4 | 5=>5 | 9=>9 | 37=>80 | _=>144,fun x=>x⟩
theorem lays25:LaysPu.n25 Try.prog ren25:=by
 constructor<;>first | kernel_rfl | (intro w;kernel_rfl)
theorem clone85_con (t:List Nat) (ht:t.length<=281474976710656):Con Try.prog 85 [.s t] [] (.s t) []:=by
 intro ρ w args' ha hr hn
 cases ha with
 | cons v l v' l' h1 h2=>
   cases h2
   cases h1 with
   | s _ s hs=>
     have hl:s.size<=281474976710656:=by
      rw [Go.Lib.size_eq]
      have:=congrArg List.length hs
      simp only [List.length_map] at this
      omega
     refine Calls.mono (AnyPu.stringslite_Clone lays25 s w hl) ?_
     rintro e w' ⟨rfl,hb⟩
     have e0:∀A (o:AObj),AH.get (mkH []) A=some o->False:=fun A o h=>by rw [mkH_get] at h;simp at h
     refine ⟨_,ρ,rfl,.s _ s hs,⟨fun A o h=>(e0 A o h).elim,fun A A' o o' x x' h=>(e0 A o h).elim,fun A x hx=>Nat.lt_of_lt_of_le (hr.range A x hx) hb.size,?_,fun B j v hv A o x h=>(e0 A o h).elim⟩,⟨Nat.le_refl _,.refl _,fun A x hx=>.inl hx,hb.size,fun B hB _=>hb.block B hB,fun A o x h=>(e0 A o h).elim,fun B j v hv=>.inl hv,hb.tape,hb.os,hb.output⟩⟩
     intro B j v hv
     obtain ⟨c,e,fr,h1,h2⟩:=hr.ro B j v hv
     exact ⟨c,e,fr,(hb.block B (hr.rolt hv)).trans h1,h2⟩
end Go.Proofs.Ly
namespace Go.Proofs.Cl
open Go Go.Sim Go.Proofs
noncomputable def byF (b:Nat->Nat):Nat->Nat->CV:=fun k _=>.i .u8 (Int.ofNat (b k))
noncomputable def z0 {α:Type} (a b:T α):T α:=T.n none a b
noncomputable def z1 {α:Type} (v:α) (a b:T α):T α:=T.n (some v) a b
noncomputable def zl {α:Type} (v:α):T α:=T.n (some v) T.e T.e
theorem ofInt_nat (w n:Nat):(BitVec.ofInt w (Int.ofNat n)).toNat=n % 2 ^ w:=by
 show (BitVec.ofInt w (n:Int)).toNat= _
 rw [BitVec.ofInt_natCast,BitVec.toNat_ofNat]
end Go.Proofs.Cl
namespace Go.Proofs.Cl
open Go Go.Sim Go.Proofs Go.Proofs.Ytjhcbjncdbmhoaa
theorem numR_vc (L n i:Nat) (b:Nat->Nat) (K:Res->Orc->Prop):runK Try.prog 1000000 (.code (loopAt Try.prog 84 0) 43 (mkT [(0,.sv 1 L (byF b)),(5,.i .i64 (Int.ofNat n)),(7,.i .i64 (Int.ofNat i))]) (mkH [])) (Orc.s (Orc.s Orc.z (Orc.s Orc.z (Orc.s (Orc.t (Orc.t (Orc.s Orc.z Orc.z))) (Orc.f (Orc.f (Orc.c Orc.z)))))) Orc.z) K=((decide (Int.ofNat i<9)=true->(decide (Int.ofNat i=Int.ofNat L)=true->K (Res.st XO.ret (z1 (AV.sv 1 L (byF b)) (z0 (z1 (AV.i .i64 0) (zl (AV.i .i64 (Int.ofNat i))) (zl (AV.sv 1 L (byF b)))) (z1 (AV.i .i64 (Int.ofNat n)) (zl (AV.i .i64 (Int.ofNat i))) (zl (AV.b (decide (Int.ofNat i=Int.ofNat L)))))) (z1 (AV.i .i64 0) (z1 (AV.i .i64 10) (zl (AV.b (decide (Int.ofNat i<9)))) (zl (AV.i .i64 (Int.ofNat L)))) (z1 (AV.i .i64 (Int.ofNat i)) (zl (AV.i .i64 (Int.ofNat i))) T.e))) ⟨T.e,0,[]⟩) Orc.z)/\(decide (Int.ofNat i=Int.ofNat L)=false
 ->(0<=Int.ofNat i/\Int.ofNat i<↑L)/\True/\True/\((-9223372036854775808)<=wrapA .u8 ↑(BitVec.toNat (BitVec.ofInt 8 (Int.ofNat (b i)) &&& ~~~BitVec.ofInt 8 128))/\wrapA .u8 ↑(BitVec.toNat (BitVec.ofInt 8 (Int.ofNat (b i)) &&& ~~~BitVec.ofInt 8 128))<=9223372036854775807)/\((-9223372036854775808:Int)<=(7:Int)*Int.ofNat i/\7*Int.ofNat i<=9223372036854775807)/\(0:Int)<=(7:Int)*Int.ofNat i/\True/\(0<=Int.ofNat i/\Int.ofNat i<↑L)/\True/\(decide (128<=Int.ofNat (b i))=true->((-9223372036854775808)<=Int.ofNat i+1/\Int.ofNat i+(1:Int)<=(9223372036854775807:Int))/\K (Res.st XO.nrm (z1 (AV.sv 1 L (byF b)) (z0 (z0 (z1 (AV.i .i64 (Int.ofNat i+1)) (zl (AV.sv 1 L (byF b))) (zl (AV.i .i64 (wrapA .i64 (wrapA .u8 ↑(BitVec.toNat (BitVec.ofInt 8 (Int.ofNat (b i)) &&& ~~~BitVec.ofInt 8 128))*2 ^ min (Int.toNat (7*Int.ofNat i)) 64))))) (z1 (AV.sv 1 L
 (byF b)) (zl (AV.i .u8 (wrapA .u8 ↑(BitVec.toNat (BitVec.ofInt 8 (Int.ofNat (b i)) &&& ~~~BitVec.ofInt 8 128))))) (zl (AV.pv 1 (byF b i))))) (z1 (AV.i .i64 (wrapA .i64 ↑(BitVec.toNat (BitVec.ofInt 64 (Int.ofNat n) ||| BitVec.ofInt 64 (wrapA .i64 (wrapA .u8 ↑(BitVec.toNat (BitVec.ofInt 8 (Int.ofNat (b i)) &&& ~~~BitVec.ofInt 8 128))*2 ^ min (Int.toNat (7*Int.ofNat i)) 64)))))) (z1 (AV.i .i64 (Int.ofNat i)) (zl (AV.pv 1 (byF b i))) (zl (AV.sv 1 L (byF b)))) (z1 (AV.b (decide (Int.ofNat i=Int.ofNat L))) (zl (AV.i .i64 (Int.ofNat i))) (zl (AV.b (decide (128<=Int.ofNat (b i)))))))) (z0 (z0 (z1 (AV.b (decide (Int.ofNat i<9))) (zl (AV.i .i64 (Int.ofNat i))) (zl (AV.i .i64 (wrapA .i64 ↑(BitVec.toNat (BitVec.ofInt 64 (Int.ofNat n) ||| BitVec.ofInt 64 (wrapA .i64 (wrapA .u8 ↑(BitVec.toNat (BitVec.ofInt 8 (Int.ofNat (b i)) &&& ~~~BitVec.ofInt 8 128))*2 ^ min (Int.toNat (7*Int.ofNat
 i)) 64)))))))) (z1 (AV.i .i64 (Int.ofNat L)) (zl (AV.i .i64 (wrapA .u8 ↑(BitVec.toNat (BitVec.ofInt 8 (Int.ofNat (b i)) &&& ~~~BitVec.ofInt 8 128))))) (zl (AV.i .u8 (Int.ofNat (b i)))))) (z1 (AV.i .i64 (Int.ofNat i)) (z1 (AV.i .i64 (Int.ofNat i)) (zl (AV.i .u8 (Int.ofNat (b i)))) (z1 (AV.i .i64 (Int.ofNat i)) (zl (AV.i .i64 (Int.ofNat i+1))) T.e)) (z1 (AV.i .i64 (Int.ofNat n)) (zl (AV.i .i64 (7*Int.ofNat i))) T.e)))) ⟨T.e,0,[]⟩) Orc.z)/\(decide (128<=Int.ofNat (b i))=false->(0<=Int.ofNat i/\Int.ofNat i<↑L)/\True/\(decide (Int.ofNat (b i)=0)=true->decide (Int.ofNat (b i)=0)=true/\decide (Int.ofNat (b i)=0)=true/\(decide (0<Int.ofNat i)=true->K (Res.st XO.ret (z1 (AV.sv 1 L (byF b)) (z0 (z1 (AV.i .i64 0) (z1 (AV.i .i64 (Int.ofNat i)) (z1 (AV.sv 1 L (byF b)) (zl (AV.i .i64 (Int.ofNat i))) T.e) (zl (AV.i .i64 (wrapA .i64 (wrapA .u8 ↑(BitVec.toNat
 (BitVec.ofInt 8 (Int.ofNat (b i)) &&& ~~~BitVec.ofInt 8 128))*2 ^ min (Int.toNat (7*Int.ofNat i)) 64))))) (z1 (AV.sv 1 L (byF b)) (z1 (AV.i .u8 (wrapA .u8 ↑(BitVec.toNat (BitVec.ofInt 8 (Int.ofNat (b i)) &&& ~~~BitVec.ofInt 8 128)))) (zl (AV.b (decide (Int.ofNat (b i)=0)))) T.e) (zl (AV.pv 1 (byF b i))))) (z1 (AV.i .i64 (wrapA .i64 ↑(BitVec.toNat (BitVec.ofInt 64 (Int.ofNat n) ||| BitVec.ofInt 64 (wrapA .i64 (wrapA .u8 ↑(BitVec.toNat (BitVec.ofInt 8 (Int.ofNat (b i)) &&& ~~~BitVec.ofInt 8 128))*2 ^ min (Int.toNat (7*Int.ofNat i)) 64)))))) (z1 (AV.i .i64 (Int.ofNat i)) (z1 (AV.pv 1 (byF b i)) (zl (AV.i .u8 (Int.ofNat (b i)))) T.e) (zl (AV.sv 1 L (byF b)))) (z1 (AV.b (decide (Int.ofNat i=Int.ofNat L))) (z1 (AV.i .i64 (Int.ofNat i)) (zl (AV.b (decide (0<Int.ofNat i)))) T.e) (zl (AV.b (decide (128<=Int.ofNat (b i)))))))) (z1 (AV.i .i64 0) (z1 (AV.i .i64 11) (z1 (AV.b (decide
 (Int.ofNat i<9))) (z1 (AV.i .i64 (Int.ofNat i)) (zl (AV.pv 1 (byF b i))) T.e) (zl (AV.i .i64 (wrapA .i64 ↑(BitVec.toNat (BitVec.ofInt 64 (Int.ofNat n) ||| BitVec.ofInt 64 (wrapA .i64 (wrapA .u8 ↑(BitVec.toNat (BitVec.ofInt 8 (Int.ofNat (b i)) &&& ~~~BitVec.ofInt 8 128))*2 ^ min (Int.toNat (7*Int.ofNat i)) 64)))))))) (z1 (AV.i .i64 (Int.ofNat L)) (z1 (AV.i .i64 (wrapA .u8 ↑(BitVec.toNat (BitVec.ofInt 8 (Int.ofNat (b i)) &&& ~~~BitVec.ofInt 8 128)))) (zl (AV.i .i64 (Int.ofNat i))) T.e) (zl (AV.i .u8 (Int.ofNat (b i)))))) (z1 (AV.i .i64 (Int.ofNat i)) (z1 (AV.i .i64 (Int.ofNat i)) (z1 (AV.i .u8 (Int.ofNat (b i))) (zl (AV.b (decide (Int.ofNat (b i)=0)))) T.e) (zl (AV.i .i64 (Int.ofNat i)))) (z1 (AV.i .i64 (Int.ofNat n)) (z1 (AV.i .i64 (7*Int.ofNat i)) (zl (AV.b (decide (0<Int.ofNat i)))) T.e) (zl (AV.sv 1 L (byF b))))))) ⟨T.e,0,[]⟩) Orc.z)/\(decide (0<Int.ofNat i)=false->
 ((-9223372036854775808)<=Int.ofNat i+1/\Int.ofNat i+(1:Int)<=(9223372036854775807:Int))/\K (Res.st XO.ret (z1 (AV.sv 1 L (byF b)) (z0 (z1 (AV.i .i64 (Int.ofNat i+1)) (z1 (AV.i .i64 (Int.ofNat i)) (z1 (AV.sv 1 L (byF b)) (zl (AV.i .i64 (Int.ofNat i))) T.e) (z1 (AV.i .i64 (wrapA .i64 (wrapA .u8 ↑(BitVec.toNat (BitVec.ofInt 8 (Int.ofNat (b i)) &&& ~~~BitVec.ofInt 8 128))*2 ^ min (Int.toNat (7*Int.ofNat i)) 64))) (zl (AV.i .i64 (wrapA .i64 ↑(BitVec.toNat (BitVec.ofInt 64 (Int.ofNat n) ||| BitVec.ofInt 64 (wrapA .i64 (wrapA .u8 ↑(BitVec.toNat (BitVec.ofInt 8 (Int.ofNat (b i)) &&& ~~~BitVec.ofInt 8 128))*2 ^ min (Int.toNat (7*Int.ofNat i)) 64))))))) T.e)) (z1 (AV.sv 1 L (byF b)) (z1 (AV.i .u8 (wrapA .u8 ↑(BitVec.toNat (BitVec.ofInt 8 (Int.ofNat (b i)) &&& ~~~BitVec.ofInt 8 128)))) (zl (AV.b (decide (Int.ofNat (b i)=0)))) T.e) (zl (AV.pv 1 (byF b i))))) (z1 (AV.i .i64
 (wrapA .i64 ↑(BitVec.toNat (BitVec.ofInt 64 (Int.ofNat n) ||| BitVec.ofInt 64 (wrapA .i64 (wrapA .u8 ↑(BitVec.toNat (BitVec.ofInt 8 (Int.ofNat (b i)) &&& ~~~BitVec.ofInt 8 128))*2 ^ min (Int.toNat (7*Int.ofNat i)) 64)))))) (z1 (AV.i .i64 (Int.ofNat i)) (z1 (AV.pv 1 (byF b i)) (zl (AV.i .u8 (Int.ofNat (b i)))) T.e) (z1 (AV.sv 1 L (byF b)) (zl (AV.i .i64 (Int.ofNat i+1))) T.e)) (z1 (AV.b (decide (Int.ofNat i=Int.ofNat L))) (z1 (AV.i .i64 (Int.ofNat i)) (zl (AV.b (decide (0<Int.ofNat i)))) T.e) (zl (AV.b (decide (128<=Int.ofNat (b i)))))))) (z1 (AV.i .i64 (wrapA .i64 ↑(BitVec.toNat (BitVec.ofInt 64 (Int.ofNat n) ||| BitVec.ofInt 64 (wrapA .i64 (wrapA .u8 ↑(BitVec.toNat (BitVec.ofInt 8 (Int.ofNat (b i)) &&& ~~~BitVec.ofInt 8 128))*2 ^ min (Int.toNat (7*Int.ofNat i)) 64)))))) (z1 (AV.i .i64 0) (z1 (AV.b (decide (Int.ofNat i<9))) (z1 (AV.i .i64 (Int.ofNat i)) (zl (AV.pv 1
 (byF b i))) T.e) (z1 (AV.i .i64 (wrapA .i64 ↑(BitVec.toNat (BitVec.ofInt 64 (Int.ofNat n) ||| BitVec.ofInt 64 (wrapA .i64 (wrapA .u8 ↑(BitVec.toNat (BitVec.ofInt 8 (Int.ofNat (b i)) &&& ~~~BitVec.ofInt 8 128))*2 ^ min (Int.toNat (7*Int.ofNat i)) 64)))))) (zl (AV.i .i64 (Int.ofNat i))) T.e)) (z1 (AV.i .i64 (Int.ofNat L)) (z1 (AV.i .i64 (wrapA .u8 ↑(BitVec.toNat (BitVec.ofInt 8 (Int.ofNat (b i)) &&& ~~~BitVec.ofInt 8 128)))) (zl (AV.i .i64 (Int.ofNat i))) T.e) (zl (AV.i .u8 (Int.ofNat (b i)))))) (z1 (AV.i .i64 (Int.ofNat i)) (z1 (AV.i .i64 (Int.ofNat i)) (z1 (AV.i .u8 (Int.ofNat (b i))) (zl (AV.b (decide (Int.ofNat (b i)=0)))) T.e) (zl (AV.i .i64 (Int.ofNat i)))) (z1 (AV.i .i64 (Int.ofNat n)) (z1 (AV.i .i64 (7*Int.ofNat i)) (zl (AV.b (decide (0<Int.ofNat i)))) T.e) (zl (AV.sv 1 L (byF b))))))) ⟨T.e,0,[]⟩) Orc.z))/\(decide (Int.ofNat (b i)=0)=false->decide (Int.ofNat (b
 i)=0)=false/\decide (Int.ofNat (b i)=0)=false/\((-9223372036854775808)<=Int.ofNat i+1/\Int.ofNat i+(1:Int)<=(9223372036854775807:Int))/\K (Res.st XO.ret (z1 (AV.sv 1 L (byF b)) (z0 (z1 (AV.i .i64 (Int.ofNat i+1)) (z1 (AV.i .i64 (Int.ofNat i)) (z1 (AV.sv 1 L (byF b)) (zl (AV.i .i64 (Int.ofNat i))) T.e) (z1 (AV.i .i64 (wrapA .i64 (wrapA .u8 ↑(BitVec.toNat (BitVec.ofInt 8 (Int.ofNat (b i)) &&& ~~~BitVec.ofInt 8 128))*2 ^ min (Int.toNat (7*Int.ofNat i)) 64))) (zl (AV.i .i64 (wrapA .i64 ↑(BitVec.toNat (BitVec.ofInt 64 (Int.ofNat n) ||| BitVec.ofInt 64 (wrapA .i64 (wrapA .u8 ↑(BitVec.toNat (BitVec.ofInt 8 (Int.ofNat (b i)) &&& ~~~BitVec.ofInt 8 128))*2 ^ min (Int.toNat (7*Int.ofNat i)) 64))))))) T.e)) (z1 (AV.sv 1 L (byF b)) (z1 (AV.i .u8 (wrapA .u8 ↑(BitVec.toNat (BitVec.ofInt 8 (Int.ofNat (b i)) &&& ~~~BitVec.ofInt 8 128)))) (zl (AV.b (decide (Int.ofNat (b i)
 =0)))) T.e) (zl (AV.pv 1 (byF b i))))) (z1 (AV.i .i64 (wrapA .i64 ↑(BitVec.toNat (BitVec.ofInt 64 (Int.ofNat n) ||| BitVec.ofInt 64 (wrapA .i64 (wrapA .u8 ↑(BitVec.toNat (BitVec.ofInt 8 (Int.ofNat (b i)) &&& ~~~BitVec.ofInt 8 128))*2 ^ min (Int.toNat (7*Int.ofNat i)) 64)))))) (z1 (AV.i .i64 (Int.ofNat i)) (z1 (AV.pv 1 (byF b i)) (zl (AV.i .u8 (Int.ofNat (b i)))) T.e) (z1 (AV.sv 1 L (byF b)) (zl (AV.i .i64 (Int.ofNat i+1))) T.e)) (z1 (AV.b (decide (Int.ofNat i=Int.ofNat L))) (z1 (AV.i .i64 (Int.ofNat i)) (zl (AV.tup [])) T.e) (zl (AV.b (decide (128<=Int.ofNat (b i)))))))) (z1 (AV.i .i64 (wrapA .i64 ↑(BitVec.toNat (BitVec.ofInt 64 (Int.ofNat n) ||| BitVec.ofInt 64 (wrapA .i64 (wrapA .u8 ↑(BitVec.toNat (BitVec.ofInt 8 (Int.ofNat (b i)) &&& ~~~BitVec.ofInt 8 128))*2 ^ min (Int.toNat (7*Int.ofNat i)) 64)))))) (z1 (AV.i .i64 0) (z1 (AV.b (decide (Int.ofNat i<9))) (z1 (AV.i
 .i64 (Int.ofNat i)) (zl (AV.pv 1 (byF b i))) T.e) (z1 (AV.i .i64 (wrapA .i64 ↑(BitVec.toNat (BitVec.ofInt 64 (Int.ofNat n) ||| BitVec.ofInt 64 (wrapA .i64 (wrapA .u8 ↑(BitVec.toNat (BitVec.ofInt 8 (Int.ofNat (b i)) &&& ~~~BitVec.ofInt 8 128))*2 ^ min (Int.toNat (7*Int.ofNat i)) 64)))))) (zl (AV.i .i64 (Int.ofNat i))) T.e)) (z1 (AV.i .i64 (Int.ofNat L)) (z1 (AV.i .i64 (wrapA .u8 ↑(BitVec.toNat (BitVec.ofInt 8 (Int.ofNat (b i)) &&& ~~~BitVec.ofInt 8 128)))) (zl (AV.tup [])) T.e) (zl (AV.i .u8 (Int.ofNat (b i)))))) (z1 (AV.i .i64 (Int.ofNat i)) (z1 (AV.i .i64 (Int.ofNat i)) (z1 (AV.i .u8 (Int.ofNat (b i))) (zl (AV.b (decide (Int.ofNat (b i)=0)))) T.e) (zl (AV.i .i64 (Int.ofNat i)))) (z1 (AV.i .i64 (Int.ofNat n)) (z1 (AV.i .i64 (7*Int.ofNat i)) (zl (AV.b false)) T.e) (zl (AV.sv 1 L (byF b))))))) ⟨T.e,0,[]⟩) Orc.z))))/\(decide (Int.ofNat i<9)=false->K (Res.st (XO.exit 0) (z1
 (AV.sv 1 L (byF b)) (z0 (z0 (zl (AV.i .i64 (Int.ofNat i))) T.e) (zl (AV.i .i64 (Int.ofNat n)))) (z0 (z0 (zl (AV.b (decide (Int.ofNat i<9)))) T.e) T.e)) ⟨T.e,0,[]⟩) Orc.z)):=by kernel_rfl
noncomputable def nV (b:Nat->Nat):Nat->Nat
 | 0=>0
 | i+1=>nV b i+b i % 128*2 ^ (7*i)
theorem nV_lt (b:Nat->Nat):∀i,nV b i<2 ^ (7*i)
 | 0=>(by decide:0<2 ^ (7*0))
 | i+1=>by
   have h:=nV_lt b i
   have h1:b i % 128<=127:=by omega
   have h2:b i % 128*2 ^ (7*i)<=127*2 ^ (7*i):=Nat.mul_le_mul_right _ h1
   have e:2 ^ (7*(i+1))=128*2 ^ (7*i):=by
    rw [show 7*(i+1)=7*i+7 by omega,Nat.pow_add,Nat.mul_comm]
   show nV b i+b i % 128*2 ^ (7*i)<_
   rw [e];omega
theorem low7 (x:Nat) (h:x<256):(BitVec.ofInt 8 (Int.ofNat x) &&& ~~~BitVec.ofInt 8 (128:Int)).toNat=x % 128:=by
 have key:∀x:Fin 256,(BitVec.ofInt 8 (Int.ofNat x.1) &&& ~~~BitVec.ofInt 8 (128:Int)).toNat=x.1 % 128:=by decide
 exact key ⟨x,h⟩
theorem wrap64 {m:Nat} (h:m<9223372036854775808):wrapA .i64 (Int.ofNat m)=Int.ofNat m:=by
 show (match Nat.blt m 9223372036854775808 with | true=>Int.ofNat m | false=>IntKind.i64.wrap (Int.ofNat m))= _
 rw [show Nat.blt m 9223372036854775808=true by rw [Nat.blt_eq];exact h]
noncomputable def nvT (n i x:Nat):Int:=wrapA IntKind.i64 ↑(BitVec.toNat (BitVec.ofInt 64 (Int.ofNat n) ||| BitVec.ofInt 64 (wrapA IntKind.i64 (wrapA IntKind.u8 ↑(BitVec.toNat (BitVec.ofInt 8 (Int.ofNat x) &&& ~~~BitVec.ofInt 8 (128:Int)))*(2:Int) ^ min (Int.toNat ((7:Int)*Int.ofNat i)) 64))))
theorem num_step {n i x:Nat} (hi:i<9) (hn:n<2 ^ (7*i)) (hx:x<256) :
 nvT n i x=Int.ofNat (n+x % 128*2 ^ (7*i)):=by
 unfold nvT
 rw [low7 x hx]
 have e1:wrapA IntKind.u8 (↑(x % 128):Int)=Int.ofNat (x % 128):=by
  show Int.ofNat (x % 128 % 256)= _
  rw [Nat.mod_eq_of_lt (by omega)]
 have e2:min (Int.toNat ((7:Int)*Int.ofNat i)) 64=7*i:=by
  have:Int.toNat ((7:Int)*Int.ofNat i)=7*i:=by simp;omega
  rw [this];omega
 have hp:2 ^ (7*i)<=2 ^ 56:=Nat.pow_le_pow_right (by decide) (by omega)
 have hd:x % 128<=127:=by omega
 have hm:x % 128*2 ^ (7*i)<=127*2 ^ (7*i):=Nat.mul_le_mul_right _ hd
 have h56:(2:Nat) ^ 56=72057594037927936:=by decide
 rw [h56] at hp
 have e3:Int.ofNat (x % 128)*(2:Int) ^ (7*i)=Int.ofNat (x % 128*2 ^ (7*i)):=by
  simp [Int.natCast_mul,Int.natCast_pow]
 rw [e1,e2,e3,wrap64 (m:=x % 128*2 ^ (7*i)) (by omega),BitVec.toNat_or,ofInt_nat,ofInt_nat]
 have n1:n % 2 ^ 64=n:=Nat.mod_eq_of_lt (by omega)
 have n2:x % 128*2 ^ (7*i) % 2 ^ 64=x % 128*2 ^ (7*i):=Nat.mod_eq_of_lt (by omega)
 rw [n1,n2]
 have e4:n ||| x % 128*2 ^ (7*i)=n+x % 128*2 ^ (7*i):=by
  rw [Nat.or_comm,Nat.mul_comm,<-Nat.two_pow_add_eq_or_of_lt hn (x % 128)]
  omega
 rw [e4]
 exact wrap64 (by omega)
noncomputable def nm (b:Nat->Nat) (L:Nat):Nat->Nat->Option (Nat×Nat×Nat)
 | 0,_=>none
 | k+1,i=>match Nat.beq i L with
   | true=>some (0,0,10)
   | false=>match Nat.ble 128 (b i) with
     | true=>nm b L k (i+1)
     | false=>match Nat.beq (b i) 0 && Nat.blt 0 i with
       | true=>some (0,0,11)
       | false=>some (nV b (i+1),i+1,0)
noncomputable def nmv (b:Nat->Nat) (L:Nat):Nat:=((nm b L 9 0).getD (0,0,11)).1
noncomputable def nmz (b:Nat->Nat) (L:Nat):Nat:=((nm b L 9 0).getD (0,0,11)).2.1
noncomputable def nme (b:Nat->Nat) (L:Nat):Nat:=((nm b L 9 0).getD (0,0,11)).2.2
noncomputable def numI (b:Nat->Nat) (L i:Nat):List (Nat×AV)×List (Option AObj):=([(0,.sv 1 L (byF b)),(5,.i .i64 (Int.ofNat (nV b i))),(7,.i .i64 (Int.ofNat i))],[])
theorem numR_lp (b:Nat->Nat) (L:Nat) (hb:∀k,b k<256) (v z e:Nat) (h:nm b L 9 0=some (v,z,e)) :
 LDoes Try.prog (loopAt Try.prog 84 0) 43 0 (mkT [(0,.sv 1 L (byF b)),(5,.i .i64 0),(7,.i .i64 0)]) [] .ret (mkT [(2,.i .i64 (Int.ofNat v)),(3,.i .i64 (Int.ofNat z)),(4,.i .i64 (Int.ofNat e))]) []:=by
 refine loop_indV (D:=Nat) (l':=[(2,.i .i64 (Int.ofNat v)),(3,.i .i64 (Int.ofNat z)),(4,.i .i64 (Int.ofNat e))]) (numI b L) (fun i=>9-i) (fun i=>i<=9/\i<=L/\nm b L (9-i) i=some (v,z,e)) ?_ 0 ⟨by decide,Nat.zero_le _,h⟩
 rintro i ⟨h9,hL,hr⟩
 refine ⟨Nat.zero_le _,1000000,?_⟩
 have hlt:i<9:=by
  rcases Nat.lt_or_ge i 9 with q | q
  · exact q
  · have:i=9:=by omega
    subst this;cases hr
 rw [show 9-i=(9-(i+1))+1 by omega] at hr
 have hr:(match Nat.beq i L with
  | true=>some (0,0,10)
  | false=>match Nat.ble 128 (b i) with
    | true=>nm b L (9-(i+1)) (i+1)
    | false=>match Nat.beq (b i) 0 && Nat.blt 0 i with
      | true=>some (0,0,11)
      | false=>some (nV b (i+1),i+1,0))=some (v,z,e):=hr
 refine ⟨_,(numR_vc L (nV b i) i b _).mpr ⟨fun _=>⟨fun hq=>?_,fun hq=>?_⟩,fun h0=>absurd (of_decide_eq_false h0) (by simp;omega)⟩⟩
 · have:i=L:=Int.ofNat.inj (of_decide_eq_true hq)
   subst this
   rw [Nat.beq_refl] at hr
   cases hr
   exact .inr ⟨[],[],_,_,[(2,.i .i64 0),(3,.i .i64 0),(4,.i .i64 10)],[],rfl,by simp,st_k [] (by kernel_rfl),.refl _,.refl _⟩
 · have hne:i≠L:=fun q=>of_decide_eq_false hq (by rw [q])
   have hil:i<L:=by omega
   have b1:(0:Int)<=Int.ofNat i/\Int.ofNat i<(L:Int):=⟨by simp,by simp;omega⟩
   rw [show Nat.beq i L=false by rw [Bool.eq_false_iff,ne_eq,Nat.beq_eq];exact hne] at hr
   have hx:=hb i
   have b2:(-9223372036854775808:Int)<=wrapA IntKind.u8 ↑(BitVec.toNat (BitVec.ofInt 8 (Int.ofNat (b i)) &&& ~~~BitVec.ofInt 8 (128:Int)))/\wrapA IntKind.u8 ↑(BitVec.toNat (BitVec.ofInt 8 (Int.ofNat (b i)) &&& ~~~BitVec.ofInt 8 (128:Int)))<=(9223372036854775807:Int):=by
    rw [low7 _ hx]
    show (-9223372036854775808:Int)<=Int.ofNat (b i % 128 % 256)/\Int.ofNat (b i % 128 % 256)<=(9223372036854775807:Int)
    constructor<;>simp<;>omega
   have b3:(-9223372036854775808:Int)<=(7:Int)*Int.ofNat i/\(7:Int)*Int.ofNat i<=(9223372036854775807:Int):=⟨by simp;omega,by simp;omega⟩
   have b4:(0:Int)<=(7:Int)*Int.ofNat i:=by simp;omega
   have b5:(-9223372036854775808:Int)<=Int.ofNat i+1/\Int.ofNat i+1<=(9223372036854775807:Int):=⟨by simp;omega,by simp;omega⟩
   have st:=num_step (n:=nV b i) hlt (nV_lt b i) hx
   refine ⟨b1,trivial,trivial,b2,b3,b4,trivial,b1,trivial,fun hg=>?_,fun hg=>⟨b1,trivial,fun hz=>⟨hz,hz,fun hp=>?_,fun hp=>⟨b5,?_⟩⟩,fun hz=>⟨hz,hz,b5,?_⟩⟩⟩
   · have:128<=b i:=by have:=of_decide_eq_true hg;simp at this;omega
     rw [Nat.ble_eq_true_of_le this] at hr
     refine ⟨b5,.inl ⟨i+1,[],[],_,_,[(0,.sv 1 L (byF b)),(5,.i .i64 (nvT (nV b i) i (b i))),(7,.i .i64 (Int.ofNat i+1))],[],⟨by omega,by omega,hr⟩,by show 9-(i+1)<9-i;omega,rfl,st_k [] (by kernel_rfl),?_,.refl _⟩⟩
     rw [st];exact .refl _
   all_goals
    have hlo:¬128<=b i:=by have:=of_decide_eq_false hg;simp at this;omega
    rw [show Nat.ble 128 (b i)=false by rw [Bool.eq_false_iff,ne_eq,Nat.ble_eq];exact hlo] at hr
   · have h0:b i=0:=by have:=of_decide_eq_true hz;simpa using this
     have hp':0<i:=by have:=of_decide_eq_true hp;simpa using this
     rw [h0,show Nat.blt 0 i=true by rw [Nat.blt_eq];exact hp'] at hr
     cases hr
     exact .inr ⟨[],[],_,_,[(2,.i .i64 0),(3,.i .i64 0),(4,.i .i64 11)],[],rfl,by simp,st_k [] (by kernel_rfl),.refl _,.refl _⟩
   · have hp':¬0<i:=by have:=of_decide_eq_false hp;simpa using this
     rw [show Nat.blt 0 i=false by rw [Bool.eq_false_iff,ne_eq,Nat.blt_eq];exact hp',Bool.and_false] at hr
     cases hr
     refine .inr ⟨[],[],_,_,[(2,.i .i64 (nvT (nV b i) i (b i))),(3,.i .i64 (Int.ofNat i+1)),(4,.i .i64 0)],[],rfl,by simp,st_k [] (by kernel_rfl),?_,.refl _⟩
     rw [st];exact .refl _
   · have h0:b i≠0:=by have:=of_decide_eq_false hz;simpa using this
     rw [show Nat.beq (b i) 0=false by rw [Bool.eq_false_iff,ne_eq,Nat.beq_eq];exact h0,Bool.false_and] at hr
     cases hr
     refine .inr ⟨[],[],_,_,[(2,.i .i64 (nvT (nV b i) i (b i))),(3,.i .i64 (Int.ofNat i+1)),(4,.i .i64 0)],[],rfl,by simp,st_k [] (by kernel_rfl),?_,.refl _⟩
     rw [st];exact .refl _
theorem numX_lp (b:Nat->Nat) (L:Nat) (hb:∀k,b k<256) (h:nm b L 9 0=none) :
 LDoes Try.prog (loopAt Try.prog 84 0) 43 0 (mkT [(0,.sv 1 L (byF b)),(5,.i .i64 0),(7,.i .i64 0)]) [] (.exit 0) (mkT []) []:=by
 refine loop_indV (D:=Nat) (l':=[]) (numI b L) (fun i=>9-i) (fun i=>i<=9/\i<=L/\nm b L (9-i) i=none) ?_ 0 ⟨by decide,Nat.zero_le _,h⟩
 rintro i ⟨h9,hL,hr⟩
 refine ⟨Nat.zero_le _,1000000,?_⟩
 by_cases hlt:i<9
 · rw [show 9-i=(9-(i+1))+1 by omega] at hr
   have hr:(match Nat.beq i L with
    | true=>some (0,0,10)
    | false=>match Nat.ble 128 (b i) with
      | true=>nm b L (9-(i+1)) (i+1)
      | false=>match Nat.beq (b i) 0 && Nat.blt 0 i with
        | true=>some (0,0,11)
        | false=>some (nV b (i+1),i+1,0))=none:=hr
   have hne:i≠L:=fun q=>by
    rw [q,Nat.beq_refl] at hr;cases hr
   rw [show Nat.beq i L=false by rw [Bool.eq_false_iff,ne_eq,Nat.beq_eq];exact hne] at hr
   have h128:128<=b i:=by
    rcases Nat.lt_or_ge (b i) 128 with q | q
    · rw [show Nat.ble 128 (b i)=false by rw [Bool.eq_false_iff,ne_eq,Nat.ble_eq];omega] at hr
      cases hz:(Nat.beq (b i) 0 && Nat.blt 0 i)<;>rw [hz] at hr<;>cases hr
    · exact q
   rw [Nat.ble_eq_true_of_le h128] at hr
   have hx:=hb i
   have b1:(0:Int)<=Int.ofNat i/\Int.ofNat i<(L:Int):=⟨by simp,by simp;omega⟩
   have b2:(-9223372036854775808:Int)<=wrapA IntKind.u8 ↑(BitVec.toNat (BitVec.ofInt 8 (Int.ofNat (b i)) &&& ~~~BitVec.ofInt 8 (128:Int)))/\wrapA IntKind.u8 ↑(BitVec.toNat (BitVec.ofInt 8 (Int.ofNat (b i)) &&& ~~~BitVec.ofInt 8 (128:Int)))<=(9223372036854775807:Int):=by
    rw [low7 _ hx]
    show (-9223372036854775808:Int)<=Int.ofNat (b i % 128 % 256)/\Int.ofNat (b i % 128 % 256)<=(9223372036854775807:Int)
    constructor<;>simp<;>omega
   have b3:(-9223372036854775808:Int)<=(7:Int)*Int.ofNat i/\(7:Int)*Int.ofNat i<=(9223372036854775807:Int):=⟨by simp;omega,by simp;omega⟩
   have b4:(0:Int)<=(7:Int)*Int.ofNat i:=by simp;omega
   have b5:(-9223372036854775808:Int)<=Int.ofNat i+1/\Int.ofNat i+1<=(9223372036854775807:Int):=⟨by simp;omega,by simp;omega⟩
   have st:=num_step (n:=nV b i) hlt (nV_lt b i) hx
   refine ⟨_,(numR_vc L (nV b i) i b _).mpr ⟨fun _=>⟨fun hq=>absurd (Int.ofNat.inj (of_decide_eq_true hq)) hne,fun hq=>?_⟩,fun h0=>absurd (of_decide_eq_false h0) (by simp;omega)⟩⟩
   refine ⟨b1,trivial,trivial,b2,b3,b4,trivial,b1,trivial,fun hg=>?_,fun hg=>absurd (of_decide_eq_false hg) (by simp;omega)⟩
   refine ⟨b5,.inl ⟨i+1,[],[],_,_,[(0,.sv 1 L (byF b)),(5,.i .i64 (nvT (nV b i) i (b i))),(7,.i .i64 (Int.ofNat i+1))],[],⟨by omega,by omega,hr⟩,by show 9-(i+1)<9-i;omega,rfl,st_k [] (by kernel_rfl),?_,.refl _⟩⟩
   rw [st];exact .refl _
 · exact ⟨_,(numR_vc L (nV b i) i b _).mpr ⟨fun h0=>absurd (of_decide_eq_true h0) (by simp;omega),fun h0=>.inr ⟨[],[],_,_,[],[],rfl,by simp,st_k [] (by kernel_rfl),.refl _,.refl _⟩⟩⟩
end Go.Proofs.Cl
namespace Go.Proofs.Cl
open Go Go.Sim Go.Proofs
noncomputable def rdO (L:Nat) (b:Nat->Nat) (e:Int):AObj:=.cells 138 2 [] (setAll .e 0 [.sv 1 L (byF b),.i .i64 e])
noncomputable def shB (z:Nat) (b:Nat->Nat):Nat->Nat:=fun k=>b (z+k)
noncomputable def tB (t:List Nat):Nat->Nat:=fun i=>t.getD i 0
end Go.Proofs.Cl
namespace Go.Proofs.Cl
open Go Go.Sim Go.Proofs Go.Proofs.Ytjhcbjncdbmhoaa
theorem numA_vc (L:Nat) (b:Nat->Nat) (K:Res->Orc->Prop):runK Try.prog 1000000 (.call 84 [.sv 1 L (byF b)] (mkH [])) (Orc.lop [] [0,5,7] 0 XO.ret [(2,AV.i .i64 (Int.ofNat (nmv b L))),(3,AV.i .i64 (Int.ofNat (nmz b L))),(4,AV.i .i64 (Int.ofNat (nme b L)))] [] Orc.z) K=(LDoes Try.prog (loopAt Try.prog 84 0) 43 0 (mkT [(0,AV.sv 1 L (byF b)),(5,AV.i .i64 0),(7,AV.i .i64 0)]) [] XO.ret (mkT [(2,AV.i .i64 (Int.ofNat (nmv b L))),(3,AV.i .i64 (Int.ofNat (nmz b L))),(4,AV.i .i64 (Int.ofNat (nme b L)))]) []/\K (Res.rv (AV.tup [AV.i .i64 (Int.ofNat (nmv b L)),AV.i .i64 (Int.ofNat (nmz b L)),AV.i .i64 (Int.ofNat (nme b L))]) ⟨T.e,0,[]⟩) Orc.z):=by kernel_rfl
theorem numB_vc (L:Nat) (b:Nat->Nat) (K:Res->Orc->Prop):runK Try.prog 1000000 (.call 84 [.sv 1 L (byF b)] (mkH [])) (Orc.lop [] [0,5,7] 0 (XO.exit 0) [] [] Orc.z) K=(LDoes Try.prog (loopAt Try.prog 84 0) 43 0 (mkT [(0,AV.sv 1 L (byF b)),(5,AV.i .i64 0),(7,AV.i .i64 0)]) [] (XO.exit 0) (mkT []) []/\K (Res.rv (AV.tup [AV.i .i64 0,AV.i .i64 0,AV.i .i64 11]) ⟨T.e,0,[]⟩) Orc.z):=by kernel_rfl
theorem cloneS_vc (m:Nat) (b:Nat->Nat) (K:Res->Orc->Prop):runK Try.prog 1000000 (.call 81 [.sv 1 (m+1) (byF b)] (mkH [])) (Orc.c (Orc.s Orc.z Orc.z)) K=(True/\((1=1/\0+(m+1)<=m+1)/\True/\True/\0+(m+1)<=140737488355328/\(3*(0+(m+1))+1536)*1<=562949953421312)/\K (Res.rv (AV.sv 1 (m+1) fun k x=>CV.i .u8 (Int.ofNat (b k))) ⟨z0 (z0 T.e T.e) T.e,2,[1,1,0,0]⟩) Orc.z):=by kernel_rfl
theorem clone0_vc (K:Res->Orc->Prop):runK Try.prog 1000000 (.call 81 [.l0] (mkH [])) (Orc.c Orc.z) K=(True/\K (Res.rv AV.l0 ⟨T.e,0,[]⟩) Orc.z):=by kernel_rfl
theorem clonez_vc (K:Res->Orc->Prop):runK Try.prog 1000000 (.call 81 [.lz] (mkH [])) (Orc.c Orc.z) K=(True/\K (Res.rv (AV.l 0 0 0 0 1 true) ⟨zl (AObj.cells 5 0 [] T.e),1,[0,0]⟩) Orc.z):=by kernel_rfl
theorem newRL_vc (L:Nat) (b:Nat->Nat) (K:Res->Orc->Prop):runK Try.prog 1000000 (.call 83 [.lr 0 1 0 L false] (mkH [some (.rows 5 1 L (byF b))])) (Orc.cal [0] (AV.sv 1 L (byF b)) [Upd.gone] Orc.z) K=(Con Try.prog 81 [AV.lr 0 1 0 L false] [some (AObj.rows 5 1 L (byF b))] (AV.sv 1 L (byF b)) [Upd.gone]/\K (Res.rv (AV.p 1 0) ⟨z0 (zl (AObj.cells 138 2 [] (z1 (AV.sv 1 L (byF b)) (zl (AV.i .i64 0)) T.e))) T.e,2,[1,0]⟩) Orc.z):=by kernel_rfl
theorem rdNum_vc (L:Nat) (b:Nat->Nat) (e:Int) (K:Res->Orc->Prop):runK Try.prog 1000000 (.call 55 [.p 0 0] (mkH [some (rdO L b e)])) (Orc.inl (Orc.c (Orc.s Orc.z (Orc.cal [] (AV.tup [AV.i .i64 (Int.ofNat (nmv b L)),AV.i .i64 (Int.ofNat (nmz b L)),AV.i .i64 (Int.ofNat (nme b L))]) [] Orc.z)))) K=(True/\True/\((!decide (e=0))=true->K (Res.rv (AV.i .i64 0) ⟨zl (AObj.cells 138 2 [] (z1 (AV.sv 1 L (byF b)) (zl (AV.i .i64 e)) T.e)),1,[]⟩) Orc.z)/\((!decide (e=0))=false->True/\Con Try.prog 84 [AV.sv 1 L (byF b)] [] (AV.tup [AV.i .i64 (Int.ofNat (nmv b L)),AV.i .i64 (Int.ofNat (nmz b L)),AV.i .i64 (Int.ofNat (nme b L))]) []/\True/\True/\(0<=Int.ofNat (nmz b L)/\True/\nmz b L<=L/\L<=L)/\True/\K (Res.rv (AV.i .i64 (Int.ofNat (nmv b L))) ⟨zl (AObj.cells 138 2 [] (z1 (AV.sv 1 (L-nmz b L) (shiftF (nmz b L) (byF b))) (zl (AV.i .i64 (Int.ofNat (nme b
 L)))) T.e)),1,[0,0]⟩) Orc.z)):=by kernel_rfl
theorem nm_le (b:Nat->Nat) (L:Nat):∀k i v z e,i<=L->nm b L k i=some (v,z,e)->z<=L
 | 0,i,v,z,e,_,h=>by cases h
 | k+1,i,v,z,e,hi,h=>by
   have h:(match Nat.beq i L with
    | true=>some (0,0,10)
    | false=>match Nat.ble 128 (b i) with
      | true=>nm b L k (i+1)
      | false=>match Nat.beq (b i) 0 && Nat.blt 0 i with
        | true=>some (0,0,11)
        | false=>some (nV b (i+1),i+1,0))=some (v,z,e):=h
   cases h1:Nat.beq i L with
   | true=>rw [h1] at h;cases h;exact Nat.zero_le _
   | false=>
     have hne:i≠L:=fun q=>by rw [q,Nat.beq_refl] at h1;cases h1
     rw [h1] at h
     cases h2:Nat.ble 128 (b i) with
     | true=>rw [h2] at h;exact nm_le b L k (i+1) v z e (by omega) h
     | false=>
       rw [h2] at h
       cases h3:(Nat.beq (b i) 0 && Nat.blt 0 i) with
       | true=>rw [h3] at h;cases h;exact Nat.zero_le _
       | false=>rw [h3] at h;cases h;omega
theorem nmz_le (b:Nat->Nat) (L:Nat):nmz b L<=L:=by
 unfold nmz
 cases h:nm b L 9 0 with
 | none=>exact Nat.zero_le _
 | some q=>obtain ⟨v,z,e⟩:=q;exact nm_le b L 9 0 v z e (Nat.zero_le _) h
theorem num_con (b:Nat->Nat) (L:Nat) (hb:∀k,b k<256):Con Try.prog 84 [.sv 1 L (byF b)] [] (.tup [.i .i64 (Int.ofNat (nmv b L)),.i .i64 (Int.ofNat (nmz b L)),.i .i64 (Int.ofNat (nme b L))]) []:=by
 cases h:nm b L 9 0 with
 | none=>
   have e1:nmv b L=0:=by unfold nmv;rw [h];rfl
   have e2:nmz b L=0:=by unfold nmz;rw [h];rfl
   have e3:nme b L=11:=by unfold nme;rw [h];rfl
   rw [e1,e2,e3]
   exact con_plain rfl ((numB_vc L b _).mpr ⟨numX_lp b L hb h,_,_,rfl,rfl⟩)
 | some q=>
   obtain ⟨v,z,e⟩:=q
   have e1:nmv b L=v:=by unfold nmv;rw [h];rfl
   have e2:nmz b L=z:=by unfold nmz;rw [h];rfl
   have e3:nme b L=e:=by unfold nme;rw [h];rfl
   have lp:=numR_lp b L hb v z e h
   rw [<-e1,<-e2,<-e3] at lp
   exact con_plain rfl ((numA_vc L b _).mpr ⟨lp,_,_,rfl,rfl⟩)
theorem cloneB_con (L:Nat) (b:Nat->Nat) (hL:L<=140737488351232):Con Try.prog 81 [.sv 1 L (byF b)] [] (.sv 1 L (byF b)) []:=by
 cases L with
 | succ m=>exact con_of_run [] [] ((cloneS_vc m b _).mpr ⟨trivial,⟨⟨rfl,by omega⟩,trivial,trivial,by omega,by omega⟩,_,_,rfl,ret_k (by kernel_rfl)⟩)
 | zero=>
   have h0:Con Try.prog 81 [.l0] [] (.sv 1 0 (byF b)) []:=by
    have h:=con_of_run (v:=.l0) (us:=[]) [] [] ((clone0_vc _).mpr ⟨trivial,_,_,rfl,ret_k (by kernel_rfl)⟩)
    exact h.post (VW.nil _ _) trivial
   have hz:Con Try.prog 81 [.lz] [] (.sv 1 0 (byF b)) []:=by
    have h:=con_of_run (v:=.sv 1 0 (listF 1 [] 0)) (us:=[]) [0] [] ((clonez_vc _).mpr ⟨trivial,_,_,rfl,ret_fz [0] ((0+0*1<=0)/\True) (by kernel_rfl) (by kernel_rfl) ⟨by omega,trivial⟩ (by kernel_rfl) rfl (by kernel_rfl) (by kernel_rfl) rfl trivial⟩)
    exact h.post (VW.sv fun i j hi=>absurd hi (Nat.not_lt_zero i)) trivial
   intro ρ w args' hv hh hoff
   cases hv with | cons _ _ v' _ h1 h2=>
   cases h1 with | sv _ _ _ _ hc=>
   cases hc with
   | sv0=>exact h0 ρ w _ (.cons _ _ _ _ .l0 h2) hh hoff
   | svz _ _ a c=>exact hz ρ w _ (.cons _ _ _ _ (.lz a c) h2) hh hoff
   | sv _ _ _ B o cap g q1 q2 q3=>exact hz ρ w _ (.cons _ _ _ _ (.lz _ cap) h2) hh hoff
theorem cloneBL_con (L:Nat) (b:Nat->Nat) (hL:L<=140737488351232):Con Try.prog 81 [.lr 0 1 0 L false] [some (.rows 5 1 L (byF b))] (.sv 1 L (byF b)) [.gone]:=
 ((cloneB_con L b hL).slot rfl (by kernel_rfl) (by kernel_rfl)).thaw (us0:=[.gone]) 0 (e:=5) (sz:=1) (n:=L) (f:=byF b) rfl ⟨rfl,trivial⟩ ⟨.inr ⟨by kernel_rfl,⟨rfl,by omega⟩,rfl⟩,trivial⟩ rfl
theorem newRL_con (L:Nat) (b:Nat->Nat) (hL:L<=140737488351232):Con Try.prog 83 [.lr 0 1 0 L false] [some (.rows 5 1 L (byF b))] (.p 1 0) [.gone,.set (rdO L b 0)]:=
 con_of_run [] [1] ((newRL_vc L b _).mpr ⟨cloneBL_con L b hL,_,_,rfl,ret_k (by kernel_rfl)⟩)
theorem rdNum_con (L:Nat) (b:Nat->Nat) (hb:∀k,b k<256):Con Try.prog 55 [.p 0 0] [some (rdO L b 0)] (.i .i64 (Int.ofNat (nmv b L))) [.set (rdO (L-nmz b L) (shB (nmz b L) b) (Int.ofNat (nme b L)))]:=by
 have k:Con Try.prog 55 [.p 0 0] [some (rdO L b 0)] (.i .i64 (Int.ofNat (nmv b L))) [.set (.cells 138 2 [] (setAll .e 0 [.sv 1 (L-nmz b L) (shiftF (nmz b L) (byF b)),.i .i64 (Int.ofNat (nme b L))]))]:=
  con_of_run [] [] ((rdNum_vc L b 0 _).mpr ⟨trivial,trivial,fun h=>(by cases h),fun _=>⟨trivial,num_con b L hb,trivial,trivial,⟨by simp,trivial,nmz_le b L,Nat.le_refl _⟩,trivial,_,_,rfl,ret_k (by kernel_rfl)⟩⟩)
 have e:shiftF (nmz b L) (byF b)=byF (shB (nmz b L) b):=by
  funext i j
  rw [shiftF_eq];rfl
 rw [e] at k
 exact k
theorem rdNumE_con (L:Nat) (b:Nat->Nat) (e:Int) (he:e≠0):Con Try.prog 55 [.p 0 0] [some (rdO L b e)] (.i .i64 0) [.keep]:=by
 have d:(!decide (e=0))=true:=by rw [decide_eq_false he];rfl
 exact con_of_run [] [] ((rdNum_vc L b e _).mpr ⟨trivial,trivial,fun _=>⟨_,_,rfl,ret_k (by kernel_rfl)⟩,fun h=>(by rw [d] at h;cases h)⟩)
theorem tB_lt {t:List Nat} (h:∀x∈t,x<256) (k:Nat):tB t k<256:=by
 unfold tB
 rw [List.getD_eq_getElem?_getD]
 cases hk:t[k]? with
 | none=>decide
 | some x=>exact h x (List.mem_of_getElem? hk)
end Go.Proofs.Cl
namespace Go.Proofs.Cl
open Go Go.Sim Go.Proofs
noncomputable def w0O:AObj:=.cells 89 2 [.p0,.i .i64 0] .e
noncomputable def wO (k:Nat):AObj:=.cells 89 2 [.p0,.i .i64 0] (setAll .e 0 [.p 1 0,.i .i64 (Int.ofNat k)])
noncomputable def shO (A k:Nat):AObj:=.cells 132 1 [] (setAll .e 0 [.lr A 1 0 k false])
noncomputable def lyB (g:Nat->Int) (k:Nat) (x:Int):Nat->Int:=fun i=>bif Nat.blt i k then g i else x
noncomputable def iF (b:Nat->Int):Nat->Nat->CV:=fun k _=>.i .u8 (b k)
end Go.Proofs.Cl
namespace Go.Proofs.Cl
open Go Go.Sim Go.Proofs Go.Proofs.Ytjhcbjncdbmhoaa
theorem lay0_vc (x:Int) (K:Res->Orc->Prop):runK Try.prog 1000000 (.call 80 [.p 0 0,.i .u8 x] (mkH [some w0O])) (oc 15 (Orc.inl (oc 7 Orc.z))) K=(True/\True/\True/\True/\True/\True/\True/\True/\True/\True/\True/\((-9223372036854775808:Int)<=(1:Int)/\(1:Int)<=(9223372036854775807:Int))/\True/\K (Res.rv (AV.tup []) ⟨z1 (AObj.cells 89 2 [AV.p0,AV.i .i64 0] (z1 (AV.p 1 0) (zl (AV.i .i64 1)) T.e)) (z1 (AObj.cells 132 1 [] (zl (AV.l 3 0 1 1 1 false))) (zl (AObj.cells 5 1 [] (zl (AV.i .u8 x)))) T.e) (zl (AObj.cells 5 1 [] (zl (AV.i .u8 x)))),4,[0,1,3,2,0,1]⟩) Orc.z):=by kernel_rfl
theorem layR_vc (x:Int) (k:Nat) (g:Nat->Int) (h:decide (Int.ofNat k<Int.ofNat k)=false) (K:Res->Orc->Prop):runK Try.prog 1000000 (.call 80 [.p 0 0,.i .u8 x] (mkH [some (wO k),some (shO 2 k),some (.rows 5 1 k (Cl.iF g))])) (oc 14 (Orc.f Orc.z)) K=(True/\True/\True/\True/\True/\decide (Int.ofNat k<Int.ofNat k)=false/\True/\True/\True/\(0+k<=k/\True/\k+1<=140737488355328/\(3*(k+1)+1536)*1<=562949953421312)/\True/\True/\((-9223372036854775808)<=Int.ofNat k+1/\Int.ofNat k+(1:Int)<=(9223372036854775807:Int))/\True/\K (Res.rv (AV.tup []) ⟨z1 (AObj.cells 89 2 [AV.p0,AV.i .i64 0] (z1 (AV.p 1 0) (zl (AV.i .i64 (Int.ofNat k+1))) T.e)) (z1 (AObj.cells 132 1 [] (zl (AV.lr 4 1 0 (addN k 1) false))) (zl (AObj.cells 5 1 [] (zl (AV.i .u8 x)))) T.e) (z0 (zl (AObj.rows 5 1 (addN k 1) (appZ k (fun k x=>CV.i .u8 (g k)) fun x_1 j=>
 List.getD [CV.i .u8 x] j CV.p0))) T.e),5,[0,1,4,2,3]⟩) Orc.z):=by kernel_rfl
theorem w0_vc (n:Nat) (K:Res->Orc->Prop):runK Try.prog 1000000 (.code (loopAt Try.prog 46 0) 21 (mkT [(0,.p 0 0),(1,.i .i64 (Int.ofNat n))]) (mkH [some w0O])) (Orc.s (Orc.cal [0] (AV.tup []) [Upd.set (wO 1),Upd.set (shO 2 1),Upd.set (AObj.rows 5 1 1 (iF fun x=>wrapA .u8 ↑(BitVec.toNat (BitVec.ofInt 8 (wrapA .u8 (Int.ofNat n)) ||| BitVec.ofInt 8 128))))] Orc.z) Orc.z) K=((decide (128<=Int.ofNat n)=true->True/\True/\Con Try.prog 80 [AV.p 0 0,AV.i .u8 (wrapA .u8 ↑(BitVec.toNat (BitVec.ofInt 8 (wrapA .u8 (Int.ofNat n)) ||| BitVec.ofInt 8 128)))] [some w0O] (AV.tup []) [Upd.set (wO 1),Upd.set (shO 2 1),Upd.set (AObj.rows 5 1 1 (iF fun x=>wrapA .u8 ↑(BitVec.toNat (BitVec.ofInt 8 (wrapA .u8 (Int.ofNat n)) ||| BitVec.ofInt 8 128))))]/\(0:Int)<=(7:Int)/\K (Res.st XO.nrm (z1 (AV.p 0 0) (z1 (AV.i .i64 (Int.fdiv (Int.ofNat n) 128)) (z0 (z0 (zl (AV.i .u8 (wrapA
 .u8 ↑(BitVec.toNat (BitVec.ofInt 8 (wrapA .u8 (Int.ofNat n)) ||| BitVec.ofInt 8 128))))) T.e) (zl (AV.i .i64 (Int.fdiv (Int.ofNat n) 128)))) (z0 (zl (AV.b (decide (128<=Int.ofNat n)))) (zl (AV.i .i64 (Int.ofNat n))))) (z0 (z0 (z1 (AV.i .i64 (Int.ofNat n)) (zl (AV.tup [])) T.e) (zl (AV.p 0 0))) (z0 (zl (AV.i .i64 (Int.ofNat n))) (zl (AV.i .u8 (wrapA .u8 (Int.ofNat n))))))) ⟨z1 (AObj.cells 89 2 [AV.p0,AV.i .i64 0] (z1 (AV.p 1 0) (zl (AV.i .i64 1)) T.e)) (zl (AObj.cells 132 1 [] (zl (AV.lr 2 1 0 1 false)))) (zl (AObj.rows 5 1 1 (iF fun x=>wrapA .u8 ↑(BitVec.toNat (BitVec.ofInt 8 (wrapA .u8 (Int.ofNat n)) ||| BitVec.ofInt 8 128))))),2+1,[2,1,0]⟩) Orc.z)/\(decide (128<=Int.ofNat n)=false->K (Res.st (XO.exit 0) (z1 (AV.p 0 0) (z1 (AV.i .i64 (Int.ofNat n)) T.e (z0 (zl (AV.b (decide (128<=Int.ofNat n)))) T.e)) (z0 (z0 (zl (AV.i .i64 (Int.ofNat n))) T.e) T.e)) ⟨zl (AObj.cells
 89 2 [AV.p0,AV.i .i64 0] T.e),1,[]⟩) Orc.z)):=by kernel_rfl
theorem wR_vc (n k:Nat) (g:Nat->Int) (K:Res->Orc->Prop):runK Try.prog 1000000 (.code (loopAt Try.prog 46 0) 21 (mkT [(0,.p 0 0),(1,.i .i64 (Int.ofNat n))]) (mkH [some (wO k),some (shO 2 k),some (.rows 5 1 k (Cl.iF g))])) (Orc.s (Orc.cal [0,1,2] (AV.tup []) [Upd.set (wO (k+1)),Upd.set (shO 3 (k+1)),Upd.gone,Upd.set (AObj.rows 5 1 (k+1) (iF (lyB g k (wrapA .u8 ↑(BitVec.toNat (BitVec.ofInt 8 (wrapA .u8 (Int.ofNat n)) ||| BitVec.ofInt 8 128))))))] Orc.z) Orc.z) K=((decide (128<=Int.ofNat n)=true->True/\True/\Con Try.prog 80 [AV.p 0 0,AV.i .u8 (wrapA .u8 ↑(BitVec.toNat (BitVec.ofInt 8 (wrapA .u8 (Int.ofNat n)) ||| BitVec.ofInt 8 128)))] [some (wO k),some (shO 2 k),some (AObj.rows 5 1 k (iF g))] (AV.tup []) [Upd.set (wO (k+1)),Upd.set (shO 3 (k+1)),Upd.gone,Upd.set (AObj.rows 5 1 (k+1) (iF (lyB g k (wrapA .u8 ↑(BitVec.toNat (BitVec.ofInt 8
 (wrapA .u8 (Int.ofNat n)) ||| BitVec.ofInt 8 128))))))]/\(0:Int)<=(7:Int)/\K (Res.st XO.nrm (z1 (AV.p 0 0) (z1 (AV.i .i64 (Int.fdiv (Int.ofNat n) 128)) (z0 (z0 (zl (AV.i .u8 (wrapA .u8 ↑(BitVec.toNat (BitVec.ofInt 8 (wrapA .u8 (Int.ofNat n)) ||| BitVec.ofInt 8 128))))) T.e) (zl (AV.i .i64 (Int.fdiv (Int.ofNat n) 128)))) (z0 (zl (AV.b (decide (128<=Int.ofNat n)))) (zl (AV.i .i64 (Int.ofNat n))))) (z0 (z0 (z1 (AV.i .i64 (Int.ofNat n)) (zl (AV.tup [])) T.e) (zl (AV.p 0 0))) (z0 (zl (AV.i .i64 (Int.ofNat n))) (zl (AV.i .u8 (wrapA .u8 (Int.ofNat n))))))) ⟨z1 (AObj.cells 89 2 [AV.p0,AV.i .i64 0] (z1 (AV.p 1 0) (zl (AV.i .i64 (Int.ofNat (k+1)))) T.e)) (z1 (AObj.cells 132 1 [] (zl (AV.lr 3 1 0 (k+1) false))) (zl (AObj.rows 5 1 (k+1) (iF (lyB g k (wrapA .u8 ↑(BitVec.toNat (BitVec.ofInt 8 (wrapA .u8 (Int.ofNat n)) ||| BitVec.ofInt 8 128))))))) T.e) (z0 T.e T.e),3+1,[3,2,1,
 0]⟩) Orc.z)/\(decide (128<=Int.ofNat n)=false->K (Res.st (XO.exit 0) (z1 (AV.p 0 0) (z1 (AV.i .i64 (Int.ofNat n)) T.e (z0 (zl (AV.b (decide (128<=Int.ofNat n)))) T.e)) (z0 (z0 (zl (AV.i .i64 (Int.ofNat n))) T.e) T.e)) ⟨z1 (AObj.cells 89 2 [AV.p0,AV.i .i64 0] (z1 (AV.p 1 0) (zl (AV.i .i64 (Int.ofNat k))) T.e)) (zl (AObj.cells 132 1 [] (zl (AV.lr 2 1 0 k false)))) (zl (AObj.rows 5 1 k (iF g))),3,[]⟩) Orc.z)):=by kernel_rfl
theorem lay0_con (x:Int):Con Try.prog 80 [.p 0 0,.i .u8 x] [some w0O] (.tup []) [.set (wO 1),.set (shO 2 1),.set (.rows 5 1 1 (Cl.iF fun _=>x))]:=by
 have k:Con Try.prog 80 [.p 0 0,.i .u8 x] [some w0O] (.tup []) [.set (wO 1),.set (.cells 132 1 [] (setAll .e 0 [.l 2 0 1 1 1 false])),.set (cellsO 5 [.i .u8 x])]:=
  con_of_run [] [1,3] ((lay0_vc x _).mpr (by
   repeat' first | exact trivial | apply And.intro | decide | exact ⟨_,_,rfl,ret_is (by kernel_rfl) rfl (by kernel_rfl) (by kernel_rfl) rfl (by refine ⟨?_,?_,?_,?_,?_,?_,trivial⟩<;>kernel_rfl)⟩))
 refine k.post (.refl _) ⟨.refl _,.cellsD (dflt:=[]) (l:=[.l 2 0 1 1 1 false]) (l':=[.lr 2 1 0 1 false]) ⟨⟨fun _=>rfl,fun ρ x h=>h.l_lr⟩,trivial⟩,.x (OX.cellsRows (f:=fun i=>Cl.iF (fun _=>x) i 0) rfl fun i hi=>?_),trivial⟩
 have:i=0:=by omega
 subst this
 exact ⟨_,rfl,fun ρ y h=>by cases h;exact .i _ _⟩
theorem lay_app (g:Nat->Int) (k:Nat) (x:Int) (i j:Nat) (hi:i<k+1) (hj:j<1):CW (appZ k (Cl.iF g) (fun _ j=>List.getD [CV.i .u8 x] j .p0) i j) (Cl.iF (lyB g k x) i j):=by
 have:j=0:=by omega
 subst this
 have h:=appZ_i (n:=k) (f:=Cl.iF g) (g:=fun _ j=>List.getD [CV.i .u8 x] j .p0) (i:=i) (j:=0) (k:=.u8) (a:=g i) (b:=x) rfl rfl
 refine .of ?_
 rw [h]
 unfold Cl.iF lyB
 by_cases q:i<k
 · rw [if_pos q,show Nat.blt i k=true by rw [Nat.blt_eq];exact q];rfl
 · rw [if_neg q,show Nat.blt i k=false by rw [Bool.eq_false_iff,ne_eq,Nat.blt_eq];exact q];rfl
theorem layR_con (x:Int) (k:Nat) (g:Nat->Int) (hk:k<=1073741824):Con Try.prog 80 [.p 0 0,.i .u8 x] [some (wO k),some (shO 2 k),some (.rows 5 1 k (Cl.iF g))] (.tup []) [.set (wO (k+1)),.set (shO 3 (k+1)),.gone,.set (.rows 5 1 (k+1) (Cl.iF (lyB g k x)))]:=by
 have d:decide (Int.ofNat k<Int.ofNat k)=false:=decide_eq_false (by simp)
 have sz:0+k<=k/\True/\k+1<=140737488355328/\(3*(k+1)+1536)*1<=562949953421312:=⟨by omega,trivial,by omega,by omega⟩
 have b:(-9223372036854775808:Int)<=Int.ofNat k+1/\Int.ofNat k+1<=(9223372036854775807:Int):=⟨by simp;omega,by simp;omega⟩
 have q:Con Try.prog 80 [.p 0 0,.i .u8 x] [some (wO k),some (shO 2 k),some (.rows 5 1 k (Cl.iF g))] (.tup []) [.set (wO (k+1)),.set (shO 3 (addN k 1)),.gone,.set (.rows 5 1 (addN k 1) (appZ k (Cl.iF g) fun _ j=>List.getD [CV.i .u8 x] j .p0))]:=
  con_of_run [] [4] ((layR_vc x k g d _).mpr (by
   repeat' first | exact trivial | assumption | apply And.intro | exact ⟨_,_,rfl,ret_is (by kernel_rfl) rfl (by kernel_rfl) (by kernel_rfl) rfl (by refine ⟨?_,?_,?_,?_,?_,?_,trivial⟩<;>kernel_rfl)⟩))
 rw [addN_eq] at q
 exact q.post (.refl _) ⟨.refl _,.refl _,.refl _,.rowsW fun i j hi hj=>lay_app g k x i j hi hj,trivial⟩
noncomputable def chN (n:Nat):Int:=wrapA IntKind.u8 ↑(BitVec.toNat (BitVec.ofInt 8 (wrapA IntKind.u8 (Int.ofNat n)) ||| BitVec.ofInt 8 (128:Int)))
theorem chN_eq (n:Nat):chN n=Int.ofNat (n % 128+128):=by
 have key:∀x:Fin 256,(BitVec.ofInt 8 (Int.ofNat x.1) ||| BitVec.ofInt 8 (128:Int)).toNat=x.1 % 128+128:=by decide
 have e:wrapA IntKind.u8 (Int.ofNat n)=Int.ofNat (n % 256):=rfl
 unfold chN
 rw [e,key ⟨n % 256,Nat.mod_lt _ (by decide)⟩]
 show Int.ofNat ((n % 256 % 128+128) % 256)= _
 congr 1
 omega
theorem fdiv128 (n:Nat):Int.fdiv (Int.ofNat n) (128:Int)=Int.ofNat (n / 128):=by
 cases n<;>rfl
noncomputable def fW (n:Nat):Nat->Int:=fun i=>chN (n / 128 ^ i)
noncomputable def gW (g:Nat->Int) (k n:Nat):Nat->Int:=fun i=>bif Nat.blt i k then g i else chN (n / 128 ^ (i-k))
noncomputable def mRf:Nat->Nat->Nat
 | 0,_=>0
 | f+1,n=>match Nat.blt n 128 with
   | true=>0
   | false=>mRf f (n / 128)+1
noncomputable def mR (n:Nat):Nat:=mRf 10 n
noncomputable def lst (n:Nat):Nat:=n / 128 ^ mR n
theorem mRf_ok:∀(f n:Nat),n<128 ^ (f+1)->mRf f n<=f/\(∀j,j<mRf f n->128<=n / 128 ^ j)/\n / 128 ^ mRf f n<128
 | 0,n,h=>⟨Nat.le_refl _,fun j hj=>absurd hj (Nat.not_lt_zero j),by show n / 1<128;rw [Nat.div_one];simpa using h⟩
 | f+1,n,h=>by
   cases hb:Nat.blt n 128 with
   | true=>
     have e:mRf (f+1) n=0:=by show (match Nat.blt n 128 with | true=>0 | false=>_)=0;rw [hb]
     have:n<128:=by rwa [Nat.blt_eq] at hb
     rw [e]
     exact ⟨Nat.zero_le _,fun j hj=>absurd hj (Nat.not_lt_zero j),by show n / 1<128;rw [Nat.div_one];exact this⟩
   | false=>
     have e:mRf (f+1) n=mRf f (n / 128)+1:=by show (match Nat.blt n 128 with | true=>0 | false=>mRf f (n / 128)+1)= _;rw [hb]
     have hn:¬n<128:=by rw [Bool.eq_false_iff,ne_eq,Nat.blt_eq] at hb;exact hb
     have hd:n / 128<128 ^ (f+1):=by
      rw [Nat.div_lt_iff_lt_mul (by decide),<-Nat.pow_succ];exact h
     obtain ⟨i1,i2,i3⟩:=mRf_ok f (n / 128) hd
     have ed:∀j,n / 128 / 128 ^ j=n / 128 ^ (j+1):=fun j=>by rw [Nat.div_div_eq_div_mul,Nat.pow_succ,Nat.mul_comm]
     rw [e]
     refine ⟨by omega,fun j hj=>?_,?_⟩
     · cases j with
       | zero=>show 128<=n / 1;rw [Nat.div_one];omega
       | succ j=>rw [<-ed];exact i2 j (by omega)
     · rw [<-ed];exact i3
theorem mR_ok {n:Nat} (h:n<9223372036854775808):mR n<=10/\(∀j,j<mR n->128<=n / 128 ^ j)/\n / 128 ^ mR n<128:=mRf_ok 10 n (Nat.lt_of_lt_of_le h (by decide))
theorem le_dec {x:Nat} (h:decide ((128:Int)<=Int.ofNat x)=true):128<=x:=by
 have:=of_decide_eq_true h
 simp at this;omega
theorem lt_dec {x:Nat} (h:decide ((128:Int)<=Int.ofNat x)=false):x<128:=by
 have:=of_decide_eq_false h
 simp at this;omega
theorem div_s (n j:Nat):n / 128 ^ j / 128=n / 128 ^ (j+1):=by rw [Nat.div_div_eq_div_mul,Nat.pow_succ]
noncomputable def wI (n k:Nat) (g:Nat->Int) (j:Nat):List (Nat×AV)×List (Option AObj):=([(0,.p 0 0),(1,.i .i64 (Int.ofNat (n / 128 ^ j)))],[some (wO (k+j)),some (shO 2 (k+j)),some (.rows 5 1 (k+j) (Cl.iF (gW g k n)))])
theorem lpC (n k:Nat) (g:Nat->Int) (hn:n<9223372036854775808) (hk:k<=1073741000) (s:Nat) (hs:s<=mR n) :
 LDoes Try.prog (loopAt Try.prog 46 0) 21 2 (mkT (wI n k g s).1) (wI n k g s).2 (.exit 0) (mkT [(0,.p 0 0),(1,.i .i64 (Int.ofNat (lst n)))]) [some (wO (k+mR n)),some (shO 2 (k+mR n)),some (.rows 5 1 (k+mR n) (Cl.iF (gW g k n)))]:=by
 obtain ⟨m10,mge,mlt⟩:=mR_ok hn
 refine loop_indV (D:=Nat) (l':=[(0,.p 0 0),(1,.i .i64 (Int.ofNat (lst n)))]) (wI n k g) (fun j=>mR n-j) (fun j=>j<=mR n) ?_ s hs
 intro j hj
 refine ⟨by simp [wI],1000000,?_⟩
 refine ⟨_,(wR_vc (n / 128 ^ j) (k+j) (gW g k n) _).mpr ⟨fun h0=>?_,fun h0=>?_⟩⟩
 · have hlt:j<mR n:=by
    rcases Nat.lt_or_ge j (mR n) with q | q
    · exact q
    · have:j=mR n:=by omega
      subst this
      have:=le_dec h0
      omega
   have c:=layR_con (chN (n / 128 ^ j)) (k+j) (gW g k n) (by omega)
   refine ⟨trivial,trivial,c,by decide,.inl ⟨j+1,[0,1,3],[],_,_,[(0,.p 0 0),(1,.i .i64 (Int.fdiv (Int.ofNat (n / 128 ^ j)) 128))],[some (wO (k+j+1)),some (shO 2 (k+j+1)),some (.rows 5 1 (k+j+1) (Cl.iF (lyB (gW g k n) (k+j) (chN (n / 128 ^ j)))))],hlt,by show mR n-(j+1)<mR n-j;omega,rfl,
    st_is [0,1,3] (by kernel_rfl) rfl rfl rfl (by refine ⟨?_,?_,?_,?_,?_,?_,trivial⟩<;>kernel_rfl) rfl,?_,.refl _,.refl _,.rowsW fun i z hi hz=>.of ?_,trivial⟩⟩
   · rw [fdiv128,div_s];exact .refl _
   · show CV.i .u8 (bif Nat.blt i (k+j) then gW g k n i else chN (n / 128 ^ j))=CV.i .u8 (gW g k n i)
     by_cases q:i<k+j
     · rw [show Nat.blt i (k+j)=true by rw [Nat.blt_eq];exact q];rfl
     · have:i=k+j:=by have hi:i<k+j+1:=hi;omega
       subst this
       rw [show Nat.blt (k+j) (k+j)=false by rw [Bool.eq_false_iff,ne_eq,Nat.blt_eq];omega]
       unfold gW
       rw [show Nat.blt (k+j) k=false by rw [Bool.eq_false_iff,ne_eq,Nat.blt_eq];omega,Nat.add_sub_cancel_left]
       rfl
 · have:j=mR n:=by
    have h0:=lt_dec h0
    rcases Nat.lt_or_ge j (mR n) with q | q
    · have:=mge j q
      omega
    · omega
   subst this
   exact .inr ⟨[0,1,2],[],_,_,[(0,.p 0 0),(1,.i .i64 (Int.ofNat (n / 128 ^ mR n)))],[some (wO (k+mR n)),some (shO 2 (k+mR n)),some (.rows 5 1 (k+mR n) (Cl.iF (gW g k n)))],rfl,by simp,
    st_is [0,1,2] (by kernel_rfl) rfl rfl rfl (by refine ⟨?_,?_,?_,?_,?_,?_,trivial⟩<;>kernel_rfl) rfl,.refl _,.refl _⟩
theorem wnA_vc (n:Nat) (K:Res->Orc->Prop):runK Try.prog 1000000 (.call 46 [.p 0 0,.i .i64 (Int.ofNat n)] (mkH [some w0O])) (Orc.c (Orc.lop [0] [0,1] 1 (XO.exit 0) [(0,AV.p 0 0),(1,AV.i .i64 (Int.ofNat (lst n)))] [some (wO (mR n)),some (shO 2 (mR n)),some (AObj.rows 5 1 (mR n) (iF (fW n)))] (Orc.cal [0,1,2] (AV.tup []) [Upd.set (wO (mR n+1)),Upd.set (shO 3 (mR n+1)),Upd.gone,Upd.set (AObj.rows 5 1 (mR n+1) (iF (lyB (fW n) (mR n) (wrapA .u8 (Int.ofNat (lst n))))))] Orc.z))) K=(True/\LDoes Try.prog (loopAt Try.prog 46 0) 21 1 (mkT [(0,AV.p 0 0),(1,AV.i .i64 (if 0>Int.ofNat n then 0 else Int.ofNat n))]) [some w0O] (XO.exit 0) (mkT [(0,AV.p 0 0),(1,AV.i .i64 (Int.ofNat (lst n)))]) [some (wO (mR n)),some (shO 2 (mR n)),some (AObj.rows 5 1 (mR n) (iF (fW n)))]/\True/\Con Try.prog 80 [AV.p 0 0,AV.i .u8 (wrapA .u8 (Int.ofNat (lst n)))] [some (wO (mR
 n)),some (shO 2 (mR n)),some (AObj.rows 5 1 (mR n) (iF (fW n)))] (AV.tup []) [Upd.set (wO (mR n+1)),Upd.set (shO 3 (mR n+1)),Upd.gone,Upd.set (AObj.rows 5 1 (mR n+1) (iF (lyB (fW n) (mR n) (wrapA .u8 (Int.ofNat (lst n))))))]/\K (Res.rv (AV.tup []) ⟨z1 (AObj.cells 89 2 [AV.p0,AV.i .i64 0] (z1 (AV.p 1 0) (zl (AV.i .i64 (Int.ofNat (mR n+1)))) T.e)) (z1 (AObj.cells 132 1 [] (zl (AV.lr 3 1 0 (mR n+1) false))) (zl (AObj.rows 5 1 (mR n+1) (iF (lyB (fW n) (mR n) (wrapA .u8 (Int.ofNat (lst n))))))) T.e) (z0 T.e T.e),4,[3,2,1,0,2,1,0]⟩) Orc.z):=by kernel_rfl
theorem wnB_vc (n:Nat) (K:Res->Orc->Prop):runK Try.prog 1000000 (.call 46 [.p 0 0,.i .i64 (Int.ofNat n)] (mkH [some w0O])) (Orc.c (Orc.lop [0] [0,1] 1 (XO.exit 0) [(0,AV.p 0 0),(1,AV.i .i64 (if 0>Int.ofNat n then 0 else Int.ofNat n))] [some w0O] (Orc.cal [0] (AV.tup []) [Upd.set (wO 1),Upd.set (shO 2 1),Upd.set (AObj.rows 5 1 1 (iF fun x=>wrapA .u8 (if 0>Int.ofNat n then 0 else Int.ofNat n)))] Orc.z))) K=(True/\LDoes Try.prog (loopAt Try.prog 46 0) 21 1 (mkT [(0,AV.p 0 0),(1,AV.i .i64 (if 0>Int.ofNat n then 0 else Int.ofNat n))]) [some w0O] (XO.exit 0) (mkT [(0,AV.p 0 0),(1,AV.i .i64 (if 0>Int.ofNat n then 0 else Int.ofNat n))]) [some w0O]/\True/\Con Try.prog 80 [AV.p 0 0,AV.i .u8 (wrapA .u8 (if 0>Int.ofNat n then 0 else Int.ofNat n))] [some w0O] (AV.tup []) [Upd.set (wO 1),Upd.set (shO 2 1),Upd.set (AObj.rows 5 1 1 (iF fun x=>wrapA .u8 (if
 0>Int.ofNat n then 0 else Int.ofNat n)))]/\K (Res.rv (AV.tup []) ⟨z1 (AObj.cells 89 2 [AV.p0,AV.i .i64 0] (z1 (AV.p 1 0) (zl (AV.i .i64 1)) T.e)) (zl (AObj.cells 132 1 [] (zl (AV.lr 2 1 0 1 false)))) (zl (AObj.rows 5 1 1 (iF fun x=>wrapA .u8 (if 0>Int.ofNat n then 0 else Int.ofNat n)))),3,[2,1,0,0]⟩) Orc.z):=by kernel_rfl
theorem wnC_vc (n k:Nat) (g:Nat->Int) (K:Res->Orc->Prop):runK Try.prog 1000000 (.call 46 [.p 0 0,.i .i64 (Int.ofNat n)] (mkH [some (wO k),some (shO 2 k),some (.rows 5 1 k (Cl.iF g))])) (Orc.c (Orc.lop [0,1,2] [0,1] 2 (XO.exit 0) [(0,AV.p 0 0),(1,AV.i .i64 (Int.ofNat (lst n)))] [some (wO (k+mR n)),some (shO 2 (k+mR n)),some (AObj.rows 5 1 (k+mR n) (iF (gW g k n)))] (Orc.cal [0,1,3] (AV.tup []) [Upd.set (wO (k+mR n+1)),Upd.set (shO 3 (k+mR n+1)),Upd.gone,Upd.set (AObj.rows 5 1 (k+mR n+1) (iF (lyB (gW g k n) (k+mR n) (wrapA .u8 (Int.ofNat (lst n))))))] Orc.z))) K=(True/\LDoes Try.prog (loopAt Try.prog 46 0) 21 2 (mkT [(0,AV.p 0 0),(1,AV.i .i64 (if 0>Int.ofNat n then 0 else Int.ofNat n))]) [some (wO k),some (shO 2 k),some (AObj.rows 5 1 k (iF g))] (XO.exit 0) (mkT [(0,AV.p 0 0),(1,AV.i .i64 (Int.ofNat (lst n)))]) [some (wO (k +
 mR n)),some (shO 2 (k+mR n)),some (AObj.rows 5 1 (k+mR n) (iF (gW g k n)))]/\True/\Con Try.prog 80 [AV.p 0 0,AV.i .u8 (wrapA .u8 (Int.ofNat (lst n)))] [some (wO (k+mR n)),some (shO 2 (k+mR n)),some (AObj.rows 5 1 (k+mR n) (iF (gW g k n)))] (AV.tup []) [Upd.set (wO (k+mR n+1)),Upd.set (shO 3 (k+mR n+1)),Upd.gone,Upd.set (AObj.rows 5 1 (k+mR n+1) (iF (lyB (gW g k n) (k+mR n) (wrapA .u8 (Int.ofNat (lst n))))))]/\K (Res.rv (AV.tup []) ⟨z1 (AObj.cells 89 2 [AV.p0,AV.i .i64 0] (z1 (AV.p 1 0) (zl (AV.i .i64 (Int.ofNat (k+mR n+1)))) T.e)) (z1 (AObj.cells 132 1 [] (zl (AV.lr 4 1 0 (k+mR n+1) false))) (z0 T.e T.e) T.e) (z0 (zl (AObj.rows 5 1 (k+mR n+1) (iF (lyB (gW g k n) (k+mR n) (wrapA .u8 (Int.ofNat (lst n))))))) T.e),5,[4,3,1,0,3,2,1,0]⟩) Orc.z):=by kernel_rfl
noncomputable def aI (n:Nat):Nat->List (Nat×AV)×List (Option AObj)
 | 0=>([(0,.p 0 0),(1,.i .i64 (Int.ofNat n))],[some w0O])
 | j+1=>([(0,.p 0 0),(1,.i .i64 (Int.ofNat (n / 128 ^ (j+1))))],[some (wO (j+1)),some (shO 2 (j+1)),some (.rows 5 1 (j+1) (Cl.iF (fW n)))])
theorem lpA (n:Nat) (hn:n<9223372036854775808) (h128:128<=n) :
 LDoes Try.prog (loopAt Try.prog 46 0) 21 1 (mkT [(0,.p 0 0),(1,.i .i64 (Int.ofNat n))]) [some w0O] (.exit 0) (mkT [(0,.p 0 0),(1,.i .i64 (Int.ofNat (lst n)))]) [some (wO (mR n)),some (shO 2 (mR n)),some (.rows 5 1 (mR n) (Cl.iF (fW n)))]:=by
 obtain ⟨m10,mge,mlt⟩:=mR_ok hn
 have m1:1<=mR n:=by
  rcases Nat.eq_zero_or_pos (mR n) with q | q
  · rw [q] at mlt
    have:n / 128 ^ 0=n:=Nat.div_one n
    omega
  · exact q
 refine loop_indV (D:=Nat) (l':=[(0,.p 0 0),(1,.i .i64 (Int.ofNat (lst n)))]) (aI n) (fun j=>mR n-j) (fun j=>j<=mR n) ?_ 0 (Nat.zero_le _)
 intro j hj
 cases j with
 | zero=>
   refine ⟨by simp [aI],1000000,_,(w0_vc n _).mpr ⟨fun _=>⟨trivial,trivial,lay0_con (chN n),by decide,?_⟩,fun h0=>absurd (lt_dec h0) (by omega)⟩⟩
   refine .inl ⟨1,[0,1,2],[],_,_,[(0,.p 0 0),(1,.i .i64 (Int.fdiv (Int.ofNat n) 128))],[some (wO 1),some (shO 2 1),some (.rows 5 1 1 (Cl.iF fun _=>chN n))],m1,by show mR n-1<mR n-0;omega,rfl,
    st_is [0,1,2] (by kernel_rfl) rfl rfl rfl (by refine ⟨?_,?_,?_,?_,?_,?_,trivial⟩<;>kernel_rfl) rfl,?_,.refl _,.refl _,.rowsW fun i z hi hz=>.of ?_,trivial⟩
   · rw [fdiv128]
     show TVL _ [(0,.p 0 0),(1,.i .i64 (Int.ofNat (n / 128 ^ 1)))]
     rw [Nat.pow_one];exact .refl _
   · have:i=0:=by omega
     subst this
     show CV.i .u8 (chN n)=CV.i .u8 (chN (n / 128 ^ 0))
     rw [show n / 128 ^ 0=n from Nat.div_one n]
 | succ j=>
   refine ⟨by simp [aI],1000000,_,(wR_vc (n / 128 ^ (j+1)) (j+1) (fW n) _).mpr ⟨fun h0=>?_,fun h0=>?_⟩⟩
   · have hlt:j+1<mR n:=by
      rcases Nat.lt_or_ge (j+1) (mR n) with q | q
      · exact q
      · have:j+1=mR n:=by omega
        rw [this] at h0
        have:=le_dec h0
        omega
     have c:=layR_con (chN (n / 128 ^ (j+1))) (j+1) (fW n) (by omega)
     refine ⟨trivial,trivial,c,by decide,.inl ⟨j+1+1,[0,1,3],[],_,_,[(0,.p 0 0),(1,.i .i64 (Int.fdiv (Int.ofNat (n / 128 ^ (j+1))) 128))],[some (wO (j+1+1)),some (shO 2 (j+1+1)),some (.rows 5 1 (j+1+1) (Cl.iF (lyB (fW n) (j+1) (chN (n / 128 ^ (j+1))))))],hlt,by show mR n-(j+1+1)<mR n-(j+1);omega,rfl,
      st_is [0,1,3] (by kernel_rfl) rfl rfl rfl (by refine ⟨?_,?_,?_,?_,?_,?_,trivial⟩<;>kernel_rfl) rfl,?_,.refl _,.refl _,.rowsW fun i z hi hz=>.of ?_,trivial⟩⟩
     · rw [fdiv128,div_s];exact .refl _
     · show CV.i .u8 (bif Nat.blt i (j+1) then fW n i else chN (n / 128 ^ (j+1)))=CV.i .u8 (fW n i)
       by_cases q:i<j+1
       · rw [show Nat.blt i (j+1)=true by rw [Nat.blt_eq];exact q];rfl
       · have:i=j+1:=by have hi:i<j+1+1:=hi;omega
         subst this
         rw [show Nat.blt (j+1) (j+1)=false by rw [Bool.eq_false_iff,ne_eq,Nat.blt_eq];omega];rfl
   · have e:j+1=mR n:=by
      have h0:=lt_dec h0
      rcases Nat.lt_or_ge (j+1) (mR n) with q | q
      · have:=mge (j+1) q
        omega
      · omega
     refine .inr ⟨[0,1,2],[],_,_,[(0,.p 0 0),(1,.i .i64 (Int.ofNat (n / 128 ^ (j+1))))],[some (wO (j+1)),some (shO 2 (j+1)),some (.rows 5 1 (j+1) (Cl.iF (fW n)))],rfl,by simp,
      st_is [0,1,2] (by kernel_rfl) rfl rfl rfl (by refine ⟨?_,?_,?_,?_,?_,?_,trivial⟩<;>kernel_rfl) rfl,?_,?_⟩
     · unfold lst;rw [e];exact .refl _
     · rw [e];exact .refl _
theorem lpB (n:Nat) (h:n<128) (x:Int) (hx:x=Int.ofNat n):LDoes Try.prog (loopAt Try.prog 46 0) 21 1 (mkT [(0,.p 0 0),(1,.i .i64 x)]) [some w0O] (.exit 0) (mkT [(0,.p 0 0),(1,.i .i64 x)]) [some w0O]:=by
 subst hx
 refine loop_indV (D:=Unit) (l':=[(0,.p 0 0),(1,.i .i64 (Int.ofNat n))]) (fun _=>([(0,.p 0 0),(1,.i .i64 (Int.ofNat n))],[some w0O])) (fun _=>0) (fun _=>True) ?_ () trivial
 intro _ _
 exact ⟨by simp,1000000,_,(w0_vc n _).mpr ⟨fun h0=>absurd (le_dec h0) (by omega),fun _=>.inr ⟨[0],[],_,_,[(0,.p 0 0),(1,.i .i64 (Int.ofNat n))],[some w0O],rfl,by simp,st_k [0] (by kernel_rfl),.refl _,.refl _⟩⟩⟩
noncomputable def wl (n:Nat):Nat:=mR n+1
noncomputable def wB (n:Nat):Nat->Int:=fun i=>bif Nat.blt i (mR n) then chN (n / 128 ^ i) else Int.ofNat (lst n)
noncomputable def wG (g:Nat->Int) (k n:Nat):Nat->Int:=fun i=>bif Nat.blt i k then g i else wB n (i-k)
theorem max0 (n:Nat):(if (0:Int)>Int.ofNat n then (0:Int) else Int.ofNat n)=Int.ofNat n:=if_neg (by simp)
theorem u8_lo {n:Nat} (h:n<256):wrapA IntKind.u8 (Int.ofNat n)=Int.ofNat n:=by
 show Int.ofNat (n % 256)= _
 rw [Nat.mod_eq_of_lt h]
theorem wnum0_con (n:Nat) (hn:n<9223372036854775808):Con Try.prog 46 [.p 0 0,.i .i64 (Int.ofNat n)] [some w0O] (.tup []) [.set (wO (wl n)),.set (shO 2 (wl n)),.set (.rows 5 1 (wl n) (Cl.iF (wB n)))]:=by
 obtain ⟨m10,mge,mlt⟩:=mR_ok hn
 by_cases h128:n<128
 · have e0:mR n=0:=by
    rcases Nat.eq_zero_or_pos (mR n) with q | q
    · exact q
    · have:=mge 0 q
      have e:n / 128 ^ 0=n:=Nat.div_one n
      omega
   have k:Con Try.prog 46 [.p 0 0,.i .i64 (Int.ofNat n)] [some w0O] (.tup []) [.set (wO 1),.set (shO 2 1),.set (.rows 5 1 1 (Cl.iF fun _=>wrapA IntKind.u8 (if (0:Int)>Int.ofNat n then (0:Int) else Int.ofNat n)))]:=
    con_of_run [] [1,2] ((wnB_vc n _).mpr ⟨trivial,lpB n h128 _ (max0 n),trivial,lay0_con _,_,_,rfl,ret_is (by kernel_rfl) rfl (by kernel_rfl) (by kernel_rfl) rfl (by refine ⟨?_,?_,?_,?_,?_,?_,trivial⟩<;>kernel_rfl)⟩)
   unfold wl
   rw [e0]
   refine k.post (.refl _) ⟨.refl _,.refl _,.rowsW fun i j hi hj=>.of ?_,trivial⟩
   have:i=0:=by omega
   subst this
   show CV.i .u8 (wrapA IntKind.u8 (if (0:Int)>Int.ofNat n then (0:Int) else Int.ofNat n))=CV.i .u8 (bif Nat.blt 0 (mR n) then chN (n / 128 ^ 0) else Int.ofNat (n / 128 ^ mR n))
   rw [e0,max0,u8_lo (by omega),show n / 128 ^ 0=n from Nat.div_one n];rfl
 · have lp:=lpA n hn (by omega)
   rw [<-max0 n] at lp
   have k:Con Try.prog 46 [.p 0 0,.i .i64 (Int.ofNat n)] [some w0O] (.tup []) [.set (wO (mR n+1)),.set (shO 2 (mR n+1)),.set (.rows 5 1 (mR n+1) (Cl.iF (lyB (fW n) (mR n) (wrapA IntKind.u8 (Int.ofNat (lst n))))))]:=
    con_of_run [] [1,3] ((wnA_vc n _).mpr ⟨trivial,lp,trivial,layR_con _ _ _ (by omega),_,_,rfl,ret_is (by kernel_rfl) rfl (by kernel_rfl) (by kernel_rfl) rfl (by refine ⟨?_,?_,?_,?_,?_,?_,trivial⟩<;>kernel_rfl)⟩)
   refine k.post (.refl _) ⟨.refl _,.refl _,.rowsW fun i j hi hj=>.of ?_,trivial⟩
   show CV.i .u8 (bif Nat.blt i (mR n) then fW n i else wrapA IntKind.u8 (Int.ofNat (lst n)))=CV.i .u8 (bif Nat.blt i (mR n) then chN (n / 128 ^ i) else Int.ofNat (lst n))
   rw [u8_lo (show lst n<256 by unfold lst;omega)];rfl
theorem wnumR_con (n k:Nat) (g:Nat->Int) (hn:n<9223372036854775808) (hk:k<=1073741000):Con Try.prog 46 [.p 0 0,.i .i64 (Int.ofNat n)] [some (wO k),some (shO 2 k),some (.rows 5 1 k (Cl.iF g))] (.tup [])
 [.set (wO (k+wl n)),.set (shO 3 (k+wl n)),.gone,.set (.rows 5 1 (k+wl n) (Cl.iF (wG g k n)))]:=by
 obtain ⟨m10,mge,mlt⟩:=mR_ok hn
 have lp0:LDoes Try.prog (loopAt Try.prog 46 0) 21 2 (mkT [(0,.p 0 0),(1,.i .i64 (Int.ofNat n))]) [some (wO k),some (shO 2 k),some (.rows 5 1 k (Cl.iF g))] (.exit 0) (mkT [(0,.p 0 0),(1,.i .i64 (Int.ofNat (lst n)))]) [some (wO (k+mR n)),some (shO 2 (k+mR n)),some (.rows 5 1 (k+mR n) (Cl.iF (gW g k n)))]:=by
  have h:=lpC n k g hn hk 0 (Nat.zero_le _)
  unfold wI at h
  rw [show n / 128 ^ 0=n from Nat.div_one n] at h
  refine h.ovl ⟨.refl _,.refl _,.rowsW fun i j hi hj=>.of ?_,trivial⟩
  show CV.i .u8 (g i)=CV.i .u8 (bif Nat.blt i k then g i else chN (n / 128 ^ (i-k)))
  rw [show Nat.blt i k=true by rw [Nat.blt_eq];exact hi];rfl
 have lp:=lp0
 rw [<-max0 n] at lp
 have q:Con Try.prog 46 [.p 0 0,.i .i64 (Int.ofNat n)] [some (wO k),some (shO 2 k),some (.rows 5 1 k (Cl.iF g))] (.tup [])
  [.set (wO (k+mR n+1)),.set (shO 3 (k+mR n+1)),.gone,.set (.rows 5 1 (k+mR n+1) (Cl.iF (lyB (gW g k n) (k+mR n) (wrapA IntKind.u8 (Int.ofNat (lst n))))))]:=
  con_of_run [] [4] ((wnC_vc n k g _).mpr ⟨trivial,lp,trivial,layR_con _ _ _ (by omega),_,_,rfl,ret_is (by kernel_rfl) rfl (by kernel_rfl) (by kernel_rfl) rfl (by refine ⟨?_,?_,?_,?_,?_,?_,trivial⟩<;>kernel_rfl)⟩)
 refine q.post (.refl _) ⟨.refl _,.refl _,.refl _,.rowsW fun i j hi hj=>.of ?_,trivial⟩
 show CV.i .u8 (bif Nat.blt i (k+mR n) then (bif Nat.blt i k then g i else chN (n / 128 ^ (i-k))) else wrapA IntKind.u8 (Int.ofNat (lst n)))=CV.i .u8 (bif Nat.blt i k then g i else (bif Nat.blt (i-k) (mR n) then chN (n / 128 ^ (i-k)) else Int.ofNat (lst n)))
 rw [u8_lo (show lst n<256 by unfold lst;omega)]
 by_cases h1:i<k
 · rw [show Nat.blt i k=true by rw [Nat.blt_eq];exact h1,show Nat.blt i (k+mR n)=true by rw [Nat.blt_eq];omega];rfl
 · rw [show Nat.blt i k=false by rw [Bool.eq_false_iff,ne_eq,Nat.blt_eq];exact h1]
   by_cases h2:i<k+mR n
   · rw [show Nat.blt i (k+mR n)=true by rw [Nat.blt_eq];exact h2,show Nat.blt (i-k) (mR n)=true by rw [Nat.blt_eq];omega];rfl
   · rw [show Nat.blt i (k+mR n)=false by rw [Bool.eq_false_iff,ne_eq,Nat.blt_eq];exact h2,show Nat.blt (i-k) (mR n)=false by rw [Bool.eq_false_iff,ne_eq,Nat.blt_eq];omega];rfl
theorem cloneSI_vc (m:Nat) (g:Nat->Int) (K:Res->Orc->Prop):runK Try.prog 1000000 (.call 81 [.sv 1 (m+1) (Cl.iF g)] (mkH [])) (Orc.c (Orc.s Orc.z Orc.z)) K=(True/\((1=1/\0+(m+1)<=m+1)/\True/\True/\0+(m+1)<=140737488355328/\(3*(0+(m+1))+1536)*1<=562949953421312)/\K (Res.rv (AV.sv 1 (m+1) fun k x=>CV.i .u8 (g k)) ⟨z0 (z0 T.e T.e) T.e,2,[1,1,0,0]⟩) Orc.z):=by kernel_rfl
theorem wby_vc (k:Nat) (g:Nat->Int) (K:Res->Orc->Prop):runK Try.prog 1000000 (.call 47 [.p 0 0] (mkH [some (wO k),some (shO 2 k),some (.rows 5 1 k (Cl.iF g))])) (oc 7 (Orc.cal [2] (AV.sv 1 k (iF g)) [Upd.gone] Orc.z)) K=(True/\True/\True/\True/\True/\True/\(True/\0<=Int.ofNat k/\0<=k/\k<=k/\(0=0\/0<k))/\Con Try.prog 81 [AV.lr 0 1 0 k false] [some (AObj.rows 5 1 k (iF g))] (AV.sv 1 k (iF g)) [Upd.gone]/\K (Res.rv (AV.sv 1 k (iF g)) ⟨z1 (AObj.cells 89 2 [AV.p0,AV.i .i64 0] (z1 (AV.p 1 0) (zl (AV.i .i64 (Int.ofNat k))) T.e)) (zl (AObj.cells 132 1 [] (zl (AV.lr 2 1 0 k false)))) (z0 T.e T.e),3,[2]⟩) Orc.z):=by kernel_rfl
theorem cloneI_con (L:Nat) (g:Nat->Int) (hL:L<=1073741824):Con Try.prog 81 [.sv 1 L (Cl.iF g)] [] (.sv 1 L (Cl.iF g)) []:=by
 cases L with
 | succ m=>exact con_of_run [] [] ((cloneSI_vc m g _).mpr ⟨trivial,⟨⟨rfl,by omega⟩,trivial,trivial,by omega,by omega⟩,_,_,rfl,ret_k (by kernel_rfl)⟩)
 | zero=>
   have k:=cloneB_con 0 (fun _=>0) (by decide)
   exact (k.pre (pargs':=[.sv 1 0 (Cl.iF g)]) ⟨.sv fun i j hi=>absurd hi (Nat.not_lt_zero i),trivial⟩).post (.sv fun i j hi=>absurd hi (Nat.not_lt_zero i)) trivial
theorem cloneLI_con (L:Nat) (g:Nat->Int) (hL:L<=1073741824):Con Try.prog 81 [.lr 0 1 0 L false] [some (.rows 5 1 L (Cl.iF g))] (.sv 1 L (Cl.iF g)) [.gone]:=
 ((cloneI_con L g hL).slot rfl (by kernel_rfl) (by kernel_rfl)).thaw (us0:=[.gone]) 0 (e:=5) (sz:=1) (n:=L) (f:=Cl.iF g) rfl ⟨rfl,trivial⟩ ⟨.inr ⟨by kernel_rfl,⟨rfl,by omega⟩,rfl⟩,trivial⟩ rfl
theorem wby_con (k:Nat) (g:Nat->Int) (hk:k<=1073741824):Con Try.prog 47 [.p 0 0] [some (wO k),some (shO 2 k),some (.rows 5 1 k (Cl.iF g))] (.sv 1 k (Cl.iF g)) [.keep,.keep,.gone]:=by
 refine con_of_run [] [] ((wby_vc k g _).mpr ?_)
 have c:=cloneLI_con k g hk
 repeat' first | exact trivial | assumption | exact Nat.zero_le _ | exact Nat.le_refl _ | exact .inl rfl | (simp;done) | apply And.intro | exact ⟨_,_,rfl,ret_is (by kernel_rfl) rfl (by kernel_rfl) (by kernel_rfl) rfl (by refine ⟨?_,?_,?_,?_,trivial⟩<;>kernel_rfl)⟩
theorem wl_le {n:Nat} (hn:n<9223372036854775808):wl n<=11:=by
 have:=(mR_ok hn).1
 unfold wl;omega
theorem iF_u8 {L:Nat} {g:Nat->Int} (h:∀i,∃m:Nat,g i=Int.ofNat m):U8s L (Cl.iF g):=fun i hi=>by
 obtain ⟨m,e⟩:=h i
 exact ⟨m,by show CV.i .u8 (g i)= _;rw [e]⟩
theorem txR_lq (k:Nat) (g:Nat->Int) (t:List Nat) (i:Nat) (h:decide (Int.ofNat i<Int.ofNat t.length)=true):LD Try.prog (loopAt Try.prog 79 0) 16 2 [(0,.s t),
 (1,.fn (.func 80) [.p 0 0] []),(6,.i .i64 (Int.ofNat t.length)),(7,.i .i64 (Int.ofNat i))] [some (wO k),some (shO 2 k),some (.rows 5 1 k (Cl.iF g))] (Orc.t (Orc.cal
 [0,1,2] (.tup []) [.set (wO (k+1)),.set (shO 3 (k+1)),.gone,.set (AObj.rows 5 1 (k+1) (iF (lyB g k (Int.ofNat (List.getD t i 0)))))] Orc.z)) .nrm [0,1,3] [(0,.s
 t),(1,.fn (.func 80) [.p 0 0] []),(6,.i .i64 (Int.ofNat t.length)),(7,.i .i64 (Int.ofNat i+1))] [some (wO (k+1)),some (shO 2 (k+1)),some (.rows 5 1 (k+1)
 (Cl.iF (lyB g k (Int.ofNat (List.getD t i 0)))))] 4 (fun Lf=>decide (Int.ofNat i<Int.ofNat (List.length t))=true/\(0<=Int.ofNat i/\Int.ofNat i<↑(List.length t))/\
 Con Try.prog 80 [.p 0 0,.i .u8 (Int.ofNat (List.getD t i 0))] [some (wO k),some (shO 2 k),some (AObj.rows 5 1 k (iF g))] (.tup []) [.set (wO (k+1)),.set (shO 3 (k +
 1)),.gone,.set (AObj.rows 5 1 (k+1) (iF (lyB g k (Int.ofNat (List.getD t i 0)))))]/\rg (Int.ofNat i+1)/\Lf):=by unfold LD LQ;kernel_rfl
theorem txE_lq (k:Nat) (g:Nat->Int) (t:List Nat) (i:Nat) (h:decide (Int.ofNat i<Int.ofNat t.length)=false):LD Try.prog (loopAt Try.prog 79 0) 16 2 [(0,.s
 t),(1,.fn (.func 80) [.p 0 0] []),(6,.i .i64 (Int.ofNat t.length)),(7,.i .i64 (Int.ofNat i))] [some (wO k),some (shO 2 k),some (.rows 5 1 k (Cl.iF g))] (Orc.f Orc.z)
 (.exit 0) [0,1,2] [] [some (wO k),some (shO 2 k),some (.rows 5 1 k (Cl.iF g))] 3 (fun Lf=>decide (Int.ofNat i<Int.ofNat (List.length t))=false/\Lf)
 :=by unfold LD LQ;kernel_rfl
theorem tx_vq (k:Nat) (g:Nat->Int) (t:List Nat) (KK:Nat) (G:Nat->Int) (H:Nat->Int):VD Try.prog 45 [.p 0 0,.s t] [some (wO k),some (shO 2 k),some (.rows 5 1
 k (Cl.iF g))] (Orc.c (Orc.cal [0,1,2] (.tup []) [.set (wO KK),.set (shO 3 KK),.gone,.set (AObj.rows 5 1 KK (iF G))] (Orc.inl (Orc.lop [0,1,3] [0,1,6,7] 2 (XO.exit
 0) [] [some (wO (KK+List.length t)),some (shO 2 (KK+List.length t)),some (AObj.rows 5 1 (KK+List.length t) (iF H))] Orc.z)))) (.tup []) [.set (wO (KK+t.length)),
 .set (shO 3 (KK+t.length)),.gone,.set (.rows 5 1 (KK+t.length) (Cl.iF H))] [4] 5 (fun Lf=>True/\Con Try.prog 46 [.p 0 0,.i .i64 (Int.ofNat (List.length t))] [some
 (wO k),some (shO 2 k),some (AObj.rows 5 1 k (iF g))] (.tup []) [.set (wO KK),.set (shO 3 KK),.gone,.set (AObj.rows 5 1 KK (iF G))]/\LDoes Try.prog (loopAt Try.prog 79
 0) 16 2 (mkT [(0,.s t),(1,AV.fn (Fn.func 80) [.p 0 0] []),(6,.i .i64 (Int.ofNat (List.length t))),(7,.i .i64 0)]) [some (wO KK),some (shO 2 KK),some (AObj.rows 5 1
 KK (iF G))] (XO.exit 0) (mkT []) [some (wO (KK+List.length t)),some (shO 2 (KK+List.length t)),some (AObj.rows 5 1 (KK+List.length t) (iF H))]/\Lf)
 :=by unfold VD VQ;kernel_rfl
noncomputable def txG (g:Nat->Int) (K:Nat) (t:List Nat):Nat->Int:=fun j=>bif Nat.blt j K then g j else Int.ofNat (t.getD (j-K) 0)
theorem txG_lo {g:Nat->Int} {K:Nat} {t:List Nat} {j:Nat} (h:j<K):txG g K t j=g j:=by
 unfold txG;rw [show Nat.blt j K=true by rw [Nat.blt_eq];exact h];rfl
theorem txG_hi {g:Nat->Int} {K:Nat} {t:List Nat} (j:Nat):txG g K t (K+j)=Int.ofNat (t.getD j 0):=by
 unfold txG;rw [show Nat.blt (K+j) K=false by rw [Bool.eq_false_iff,ne_eq,Nat.blt_eq];omega,cond_false,Nat.add_sub_cancel_left]
theorem tx_lp (K:Nat) (g:Nat->Int) (t:List Nat) (hk:K+t.length<=1073741000):LDoes Try.prog (loopAt Try.prog 79 0) 16 2 (mkT [(0,.s t),(1,.fn (.func 80) [.p 0 0] []),(6,.i .i64 (Int.ofNat t.length)),(7,.i .i64 0)]) [some (wO K),some (shO 2 K),some (.rows 5 1 K (Cl.iF g))] (.exit 0) (mkT []) [some (wO (K+t.length)),some (shO 2 (K+t.length)),some (.rows 5 1 (K+t.length) (Cl.iF (txG g K t)))]:=by
 refine LDoes.ovl (objs:=[some (wO K),some (shO 2 K),some (.rows 5 1 K (Cl.iF (txG g K t)))]) ?_ ⟨.refl _,.refl _,.rowsW fun i j hi hj=>.of (by show CV.i .u8 _=CV.i .u8 _;rw [txG_lo hi]),trivial⟩
 refine loop_q (fun i:Nat=>([(0,.s t),(1,.fn (.func 80) [.p 0 0] []),(6,.i .i64 (Int.ofNat t.length)),(7,.i .i64 (Int.ofNat i))],[some (wO (K+i)),some (shO 2 (K+i)),some (.rows 5 1 (K+i) (Cl.iF (txG g K t)))])) (fun i=>t.length-i) (fun i=>i<=t.length) (fun _=>by show 2<=3;decide) ?_ 0 (Nat.zero_le _)
 intro i hi
 rcases Nat.lt_or_ge i t.length with hlt | q
 · have h1:decide (Int.ofNat i<Int.ofNat t.length)=true:=decide_eq_true (by simp;omega)
   have bi:(0:Int)<=Int.ofNat i/\Int.ofNat i<(↑t.length:Int):=⟨by simp,by simp;omega⟩
   have ri:rg (Int.ofNat i+1):=⟨by simp<;>omega,by simp<;>omega⟩
   have ly:=layR_con (Int.ofNat (List.getD t i 0)) (K+i) (txG g K t) (by omega)
   refine rd_nrm (txR_lq (K+i) (txG g K t) t i h1) ⟨h1,bi,ly,ri,rfl⟩ (i+1) hlt (by show t.length-(i+1)<t.length-i;omega) rfl (.refl _) ⟨.refl _,.refl _,.rowsW fun j z hj hz=>.of ?_,trivial⟩
   show CV.i .u8 (lyB (txG g K t) (K+i) (Int.ofNat (List.getD t i 0)) j)=CV.i .u8 (txG g K t j)
   unfold lyB
   cases e:Nat.blt j (K+i) with
   | true=>rfl
   | false=>
     have:¬j<K+i:=by rw [<-Nat.blt_eq,e];decide
     obtain rfl:j=K+i:=by omega
     rw [cond_false,txG_hi]
 · obtain rfl:i=t.length:=Nat.le_antisymm hi q
   exact rd_out (txE_lq (K+t.length) (txG g K t) t t.length (decide_eq_false (by simp))) ⟨decide_eq_false (by simp),rfl⟩ rfl rfl (.refl _) (.refl _)
noncomputable def wtG (g:Nat->Int) (k:Nat) (t:List Nat):Nat->Int:=txG (wG g k t.length) (k+wl t.length) t
theorem wtext_con (k:Nat) (g:Nat->Int) (t:List Nat) (ht:t.length<=1000000) (hk:k<=1000000):Con Try.prog 45 [.p 0 0,.s t] [some (wO k),some (shO 2 k),some (.rows 5 1 k (Cl.iF g))] (.tup [])
 [.set (wO (k+wl t.length+t.length)),.set (shO 3 (k+wl t.length+t.length)),.gone,.set (.rows 5 1 (k+wl t.length+t.length) (Cl.iF (wtG g k t)))]:=by
 have w:=wl_le (n:=t.length) (by omega)
 exact con_d (tx_vq k g t (k+wl t.length) (wG g k t.length) (wtG g k t)) ⟨trivial,wnumR_con t.length k g (by omega) (by omega),tx_lp _ _ _ (by omega),rfl⟩
theorem mR8 {n:Nat} (hn:n<9223372036854775808):mR n<=8:=by
 obtain ⟨_,mge,_⟩:=mR_ok hn
 rcases Nat.lt_or_ge 8 (mR n) with q | q
 · have h:=mge 8 q
   have:128*128 ^ 8<=n:=(Nat.le_div_iff_mul_le (by decide)).1 h
   have e:128*128 ^ 8=9223372036854775808:=by decide
   omega
 · exact q
def Form (n:Nat) (b:Nat->Nat):Prop:=∀i,i<wl n->Int.ofNat (b i)=wB n i
theorem Form.lo {n:Nat} {b:Nat->Nat} (h:Form n b) {i:Nat} (hi:i<mR n):b i=n / 128 ^ i % 128+128:=by
 have e:=h i (by unfold wl;omega)
 unfold wB at e
 rw [show Nat.blt i (mR n)=true by rw [Nat.blt_eq];exact hi,cond_true,chN_eq] at e
 exact Int.ofNat.inj e
theorem Form.hi {n:Nat} {b:Nat->Nat} (h:Form n b):b (mR n)=lst n:=by
 have e:=h (mR n) (by unfold wl;omega)
 unfold wB at e
 rw [show Nat.blt (mR n) (mR n)=false by rw [Bool.eq_false_iff,ne_eq,Nat.blt_eq];omega,cond_false] at e
 exact Int.ofNat.inj e
theorem pow128 (i:Nat):2 ^ (7*i)=128 ^ i:=by rw [Nat.pow_mul]
theorem Form.nV {n:Nat} {b:Nat->Nat} (h:Form n b):∀i,i<=mR n->nV b i=n % 128 ^ i
 | 0,_=>by show 0=n % 1;omega
 | i+1,hi=>by
   have ih:=h.nV i (by omega)
   show Cl.nV b i+b i % 128*2 ^ (7*i)= _
   rw [ih,h.lo (by omega),pow128,Nat.pow_succ,Nat.mod_mul]
   have:(n / 128 ^ i % 128+128) % 128=n / 128 ^ i % 128:=by omega
   rw [this,Nat.mul_comm]
theorem Form.nm {n:Nat} {b:Nat->Nat} {L:Nat} (h:Form n b) (hn:n<9223372036854775808) (hL:wl n<=L):∀k i,i+k=9->i<=mR n->nm b L k i=some (n,wl n,0):=by
 obtain ⟨_,mge,mlt⟩:=mR_ok hn
 have m8:=mR8 hn
 intro k
 induction k with
 | zero=>intro i h1 h2;omega
 | succ k ih=>
   intro i h1 h2
   show (match Nat.beq i L with
    | true=>some (0,0,10)
    | false=>match Nat.ble 128 (b i) with
      | true=>Cl.nm b L k (i+1)
      | false=>match Nat.beq (b i) 0 && Nat.blt 0 i with
        | true=>some (0,0,11)
        | false=>some (Cl.nV b (i+1),i+1,0))=some (n,wl n,0)
   rw [show Nat.beq i L=false by rw [Bool.eq_false_iff,ne_eq,Nat.beq_eq];unfold wl at hL;omega]
   rcases Nat.lt_or_ge i (mR n) with q | q
   · rw [Nat.ble_eq_true_of_le (show 128<=b i by rw [h.lo q];omega)]
     exact ih (i+1) (by omega) (by omega)
   · have e:i=mR n:=by omega
     subst e
     have hb:=h.hi
     have hl:lst n<128:=mlt
     rw [show Nat.ble 128 (b (mR n))=false by rw [Bool.eq_false_iff,ne_eq,Nat.ble_eq,hb];omega]
     have hz:(Nat.beq (b (mR n)) 0 && Nat.blt 0 (mR n))=false:=by
      cases hp:Nat.blt 0 (mR n) with
      | false=>simp
      | true=>
        have hp:0<mR n:=by rwa [Nat.blt_eq] at hp
        have h3:=mge (mR n-1) (by omega)
        have h4:n / 128 ^ (mR n-1) / 128=n / 128 ^ mR n:=by
         rw [div_s,show mR n-1+1=mR n by omega]
        have h5:lst n≠0:=by
         show n / 128 ^ mR n≠0
         rw [<-h4];omega
        rw [hb,show Nat.beq (lst n) 0=false by rw [Bool.eq_false_iff,ne_eq,Nat.beq_eq];exact h5];rfl
     rw [hz]
     have hv:Cl.nV b (mR n+1)=n:=by
      show Cl.nV b (mR n)+b (mR n) % 128*2 ^ (7*mR n)=n
      rw [h.nV _ (Nat.le_refl _),hb,pow128,Nat.mod_eq_of_lt hl]
      show n % 128 ^ mR n+n / 128 ^ mR n*128 ^ mR n=n
      rw [Nat.mul_comm];exact Nat.mod_add_div n (128 ^ mR n)
     rw [hv];rfl
theorem Form.reads {n:Nat} {b:Nat->Nat} {L:Nat} (h:Form n b) (hn:n<9223372036854775808) (hL:wl n<=L):nmv b L=n/\nmz b L=wl n/\nme b L=0:=by
 have k:=h.nm hn hL 9 0 rfl (Nat.zero_le _)
 refine ⟨?_,?_,?_⟩
 · unfold nmv;rw [k];rfl
 · unfold nmz;rw [k];rfl
 · unfold nme;rw [k];rfl
theorem wG_left {g:Nat->Int} {k n i:Nat} (h:i<k):wG g k n i=g i:=by
 unfold wG
 rw [show Nat.blt i k=true by rw [Nat.blt_eq];exact h];rfl
theorem wG_right {g:Nat->Int} {k n:Nat} (i:Nat):wG g k n (k+i)=wB n i:=by
 unfold wG
 rw [show Nat.blt (k+i) k=false by rw [Bool.eq_false_iff,ne_eq,Nat.blt_eq];omega,cond_false,Nat.add_sub_cancel_left]
theorem shift_by (z:Nat) (b:Nat->Nat):shiftF z (byF b)=byF (shB z b):=by
 funext i j
 rw [shiftF_eq];rfl
theorem bytesF_eq {t:List Nat} {f:Nat->Nat->CV} {n:Nat} (hn:n=t.length) (ht:∀x∈t,x<256) (h:∀i,i<n->f i 0=.i .u8 (Int.ofNat (t.getD i 0))):bytesF n f=t:=by
 subst hn
 refine List.ext_getElem? fun i=>?_
 unfold bytesF
 rw [List.getElem?_map]
 by_cases h2:i<t.length
 · rw [List.getElem?_range h2,List.getElem?_eq_getElem h2]
   have e:t.getD i 0=t[i]:=by rw [List.getD_eq_getElem?_getD,List.getElem?_eq_getElem h2];rfl
   show some (Go.Sim.byteOf (f i 0))= _
   rw [h i h2]
   show some ((t.getD i 0) % 256)=some t[i]
   rw [e,Nat.mod_eq_of_lt (ht _ (List.getElem_mem h2))]
 · rw [List.getElem?_eq_none (by simpa using h2),List.getElem?_eq_none (by omega)];rfl
theorem tkS_lq (L n w i:Nat) (b:Nat->Nat) (h1:decide (Int.ofNat i<9)=true) (h2:decide (Int.ofNat L<=Int.ofNat i)=true):LD Try.prog (loopAt Try.prog 58 0)
 47 0 [(0,.sv 1 L (byF b)),(5,.i .i64 (Int.ofNat n)),(6,.i .i64 (Int.ofNat w)),(7,.i .i64 (Int.ofNat i))] [] (Orc.t (Orc.t Orc.z)) .ret [] [(2,.i .i64 0),(3,.i .i64
 0),(4,.i .i64 10)] [] 0 (fun Lf=>decide (Int.ofNat i<9)=true/\decide (Int.ofNat L<=Int.ofNat i)=true/\Lf):=by unfold LD LQ;kernel_rfl
theorem tkZ_lq (L n w i:Nat) (b:Nat->Nat) (h1:decide (Int.ofNat i<9)=true) (h2:decide (Int.ofNat L<=Int.ofNat i)=false) (h3:decide (Int.ofNat (b i)<128) =
 true) (h4:decide (Int.ofNat (b i)=0)=true) (h5:decide (0<Int.ofNat i)=true):LD Try.prog (loopAt Try.prog 58 0) 47 0 [(0,.sv 1 L (byF b)),(5,.i .i64
 (Int.ofNat n)),(6,.i .i64 (Int.ofNat w)),(7,.i .i64 (Int.ofNat i))] [] (Orc.t (Orc.f (Orc.t (Orc.t (Orc.t (Orc.t (Orc.t Orc.z))))))) .ret [] [(2,.i .i64 0),(3,.i .i64
 0),(4,.i .i64 11)] [] 0 (fun Lf=>decide (Int.ofNat i<9)=true/\decide (Int.ofNat L<=Int.ofNat i)=false/\(0<=Int.ofNat i/\Int.ofNat i<↑L)/\True/\rg
 (Int.ofNat (b i))/\decide (Int.ofNat (b i)<128)=true/\decide (Int.ofNat (b i)=0)=true/\decide (Int.ofNat (b i)=0)=true/\decide (Int.ofNat (b i)=0)=true/\
 decide (0<Int.ofNat i)=true/\Lf):=by unfold LD LQ;kernel_rfl
theorem tkO_lq (L n w i:Nat) (b:Nat->Nat) (h1:decide (Int.ofNat i<9)=true) (h2:decide (Int.ofNat L<=Int.ofNat i)=false) (h3:decide (Int.ofNat (b i)<128) =
 true) (h4:decide (Int.ofNat (b i)=0)=true) (h5:decide (0<Int.ofNat i)=false):LD Try.prog (loopAt Try.prog 58 0) 47 0 [(0,.sv 1 L (byF b)),(5,.i .i64
 (Int.ofNat n)),(6,.i .i64 (Int.ofNat w)),(7,.i .i64 (Int.ofNat i))] [] (Orc.t (Orc.f (Orc.t (Orc.t (Orc.t (Orc.t (Orc.f Orc.z))))))) .ret [] [(2,.i .i64 (Int.ofNat n +
 Int.ofNat (b i)*Int.ofNat w)),(3,.i .i64 (Int.ofNat i+1)),(4,.i .i64 0)] [] 0 (fun Lf=>decide (Int.ofNat i<9)=true/\decide (Int.ofNat L<=Int.ofNat i)=false
 /\(0<=Int.ofNat i/\Int.ofNat i<↑L)/\True/\rg (Int.ofNat (b i))/\decide (Int.ofNat (b i)<128)=true/\decide (Int.ofNat (b i)=0)=true/\decide (Int.ofNat (b i) =
 0)=true/\decide (Int.ofNat (b i)=0)=true/\decide (0<Int.ofNat i)=false/\rg (Int.ofNat (b i)*Int.ofNat w)/\rg (Int.ofNat n+Int.ofNat (b i)*Int.ofNat w)/\
 rg (Int.ofNat i+1)/\Lf):=by unfold LD LQ;kernel_rfl
theorem tkV_lq (L n w i:Nat) (b:Nat->Nat) (h1:decide (Int.ofNat i<9)=true) (h2:decide (Int.ofNat L<=Int.ofNat i)=false) (h3:decide (Int.ofNat (b i)<128) =
 true) (h4:decide (Int.ofNat (b i)=0)=false):LD Try.prog (loopAt Try.prog 58 0) 47 0 [(0,.sv 1 L (byF b)),(5,.i .i64 (Int.ofNat n)),(6,.i .i64 (Int.ofNat w)),
 (7,.i .i64 (Int.ofNat i))] [] (Orc.t (Orc.f (Orc.t (Orc.f (Orc.f (Orc.f (Orc.c Orc.z))))))) .ret [] [(2,.i .i64 (Int.ofNat n+Int.ofNat (b i)*Int.ofNat w)),(3,.i .i64
 (Int.ofNat i+1)),(4,.i .i64 0)] [] 0 (fun Lf=>decide (Int.ofNat i<9)=true/\decide (Int.ofNat L<=Int.ofNat i)=false/\(0<=Int.ofNat i/\Int.ofNat i<↑L)/\True
 /\rg (Int.ofNat (b i))/\decide (Int.ofNat (b i)<128)=true/\decide (Int.ofNat (b i)=0)=false/\decide (Int.ofNat (b i)=0)=false/\decide (Int.ofNat (b i)=0) =
 false/\rg (Int.ofNat (b i)*Int.ofNat w)/\rg (Int.ofNat n+Int.ofNat (b i)*Int.ofNat w)/\rg (Int.ofNat i+1)/\Lf):=by unfold LD LQ;kernel_rfl
theorem tkL_lq (L n w i:Nat) (b:Nat->Nat) (h1:decide (Int.ofNat i<9)=true) (h2:decide (Int.ofNat L<=Int.ofNat i)=false) (h3:decide (Int.ofNat (b i)<128) =
 false) (h4:decide (Int.ofNat i=8)=true):LD Try.prog (loopAt Try.prog 58 0) 47 0 [(0,.sv 1 L (byF b)),(5,.i .i64 (Int.ofNat n)),(6,.i .i64 (Int.ofNat w)),(7,
 .i .i64 (Int.ofNat i))] [] (Orc.t (Orc.f (Orc.f (Orc.t Orc.z)))) .ret [] [(2,.i .i64 0),(3,.i .i64 0),(4,.i .i64 11)] [] 0 (fun Lf=>decide (Int.ofNat i<9)=true/\
 decide (Int.ofNat L<=Int.ofNat i)=false/\(0<=Int.ofNat i/\Int.ofNat i<↑L)/\True/\rg (Int.ofNat (b i))/\decide (Int.ofNat (b i)<128)=false/\decide (Int.ofNat i
 =8)=true/\Lf):=by unfold LD LQ;kernel_rfl
theorem tkR_lq (L n w i:Nat) (b:Nat->Nat) (h1:decide (Int.ofNat i<9)=true) (h2:decide (Int.ofNat L<=Int.ofNat i)=false) (h3:decide (Int.ofNat (b i)<128) =
 false) (h4:decide (Int.ofNat i=8)=false):LD Try.prog (loopAt Try.prog 58 0) 47 0 [(0,.sv 1 L (byF b)),(5,.i .i64 (Int.ofNat n)),(6,.i .i64 (Int.ofNat w)),(7,
 .i .i64 (Int.ofNat i))] [] (Orc.t (Orc.f (Orc.f (Orc.f Orc.z)))) .nrm [] [(0,.sv 1 L (byF b)),(5,.i .i64 (Int.ofNat n+(Int.ofNat (b i)-128)*Int.ofNat w)),(6,.i
 .i64 (Int.ofNat w*128)),(7,.i .i64 (Int.ofNat i+1))] [] 0 (fun Lf=>decide (Int.ofNat i<9)=true/\decide (Int.ofNat L<=Int.ofNat i)=false/\(0<=Int.ofNat i/\
 Int.ofNat i<↑L)/\True/\rg (Int.ofNat (b i))/\decide (Int.ofNat (b i)<128)=false/\decide (Int.ofNat i=8)=false/\rg (Int.ofNat (b i)-128)/\rg ((Int.ofNat (b
 i)-128)*Int.ofNat w)/\rg (Int.ofNat n+(Int.ofNat (b i)-128)*Int.ofNat w)/\rg (Int.ofNat w*128)/\rg (Int.ofNat i+1)/\Lf):=by unfold LD LQ;kernel_rfl
noncomputable abbrev tkT (b:Nat->Nat) (L i:Nat):List (Nat×AV):=[(0,.sv 1 L (byF b)),(5,.i .i64 (Int.ofNat (nV b i))),(6,.i .i64 (Int.ofNat (2 ^ (7*i)))),(7,.i .i64 (Int.ofNat i))]
theorem tk_lp (b:Nat->Nat) (L:Nat) (hb:∀k,b k<256) (v z e:Nat) (h:(nm b L 9 0).getD (0,0,11)=(v,z,e)) :
 LDoes Try.prog (loopAt Try.prog 58 0) 47 0 (mkT (tkT b L 0)) [] .ret (mkT [(2,.i .i64 (Int.ofNat v)),(3,.i .i64 (Int.ofNat z)),(4,.i .i64 (Int.ofNat e))]) []:=by
 refine loop_q (fun i=>(tkT b L i,[])) (fun i=>9-i) (fun i=>i<=8/\i<=L/\(nm b L (9-i) i).getD (0,0,11)=(v,z,e)) (fun _=>Nat.zero_le _) ?_ 0 ⟨Nat.zero_le _,Nat.zero_le _,h⟩
 rintro i ⟨h8,hL,hr⟩
 have h1:decide (Int.ofNat i<(9:Int))=true:=decide_eq_true (by simp;omega)
 rw [show 9-i=(8-i)+1 by omega] at hr
 have hr:(match Nat.beq i L with
  | true=>some (0,0,10)
  | false=>match Nat.ble 128 (b i) with
    | true=>nm b L (8-i) (i+1)
    | false=>match Nat.beq (b i) 0 && Nat.blt 0 i with
      | true=>some (0,0,11)
      | false=>some (nV b (i+1),i+1,0)).getD (0,0,11)=(v,z,e):=hr
 have hn:=nV_lt b i
 have hp:2 ^ (7*i)<=2 ^ 56:=Nat.pow_le_pow_right (by decide) (by omega)
 rw [show (2:Nat) ^ 56=72057594037927936 by decide] at hp
 have hx:=hb i
 have rb:rg (Int.ofNat (b i)):=⟨by simp<;>omega,by simp<;>omega⟩
 have ri:rg (Int.ofNat i+1):=⟨by simp<;>omega,by simp<;>omega⟩
 have ez:Int.ofNat i+1=Int.ofNat (i+1):=rfl
 by_cases hE:i=L
 · subst hE
   rw [Nat.beq_refl] at hr
   cases hr
   have h2:decide (Int.ofNat i<=Int.ofNat i)=true:=decide_eq_true (Int.le_refl _)
   exact rd_out (tkS_lq i (nV b i) (2 ^ (7*i)) i b h1 h2) ⟨h1,h2,rfl⟩ rfl rfl (.refl _) (.refl _)
 have hil:i<L:=by omega
 have h2:decide (Int.ofNat L<=Int.ofNat i)=false:=decide_eq_false (by simp;omega)
 have bi:(0:Int)<=Int.ofNat i/\Int.ofNat i<(↑L:Int):=⟨by simp,by simp;omega⟩
 rw [show Nat.beq i L=false by rw [Bool.eq_false_iff,ne_eq,Nat.beq_eq];exact hE] at hr
 by_cases hlo:b i<128
 · have h3:decide (Int.ofNat (b i)<(128:Int))=true:=decide_eq_true (by simp;omega)
   rw [show Nat.ble 128 (b i)=false by rw [Bool.eq_false_iff,ne_eq,Nat.ble_eq];omega] at hr
   have hm:b i*2 ^ (7*i)<=127*2 ^ (7*i):=Nat.mul_le_mul_right _ (by omega)
   have ev:Int.ofNat (nV b i)+Int.ofNat (b i)*Int.ofNat (2 ^ (7*i))=Int.ofNat (nV b (i+1)):=by
    show Int.ofNat (nV b i+b i*2 ^ (7*i))=Int.ofNat (nV b i+b i % 128*2 ^ (7*i))
    rw [Nat.mod_eq_of_lt hlo]
   have r1:rg (Int.ofNat (b i)*Int.ofNat (2 ^ (7*i))):=by
    show rg (Int.ofNat (b i*2 ^ (7*i)))
    generalize b i*2 ^ (7*i)=q at *
    exact ⟨by simp<;>omega,by simp<;>omega⟩
   have r2:rg (Int.ofNat (nV b i)+Int.ofNat (b i)*Int.ofNat (2 ^ (7*i))):=by
    show rg (Int.ofNat (nV b i+b i*2 ^ (7*i)))
    generalize b i*2 ^ (7*i)=q at *
    exact ⟨by simp<;>omega,by simp<;>omega⟩
   by_cases hz:b i=0
   · have h4:decide (Int.ofNat (b i)=(0:Int))=true:=decide_eq_true (by rw [hz];rfl)
     by_cases hpos:0<i
     · have h5:decide ((0:Int)<Int.ofNat i)=true:=decide_eq_true (by simp;omega)
       rw [show Nat.beq (b i) 0=true by rw [hz];rfl,show Nat.blt 0 i=true by rw [Nat.blt_eq];exact hpos] at hr
       cases hr
       exact rd_out (tkZ_lq L (nV b i) (2 ^ (7*i)) i b h1 h2 h3 h4 h5) ⟨h1,h2,bi,trivial,rb,h3,h4,h4,h4,h5,rfl⟩ rfl rfl (.refl _) (.refl _)
     · have h5:decide ((0:Int)<Int.ofNat i)=false:=decide_eq_false (by simp;omega)
       rw [show Nat.blt 0 i=false by rw [Bool.eq_false_iff,ne_eq,Nat.blt_eq];exact hpos,Bool.and_false] at hr
       cases hr
       have q:=tkO_lq L (nV b i) (2 ^ (7*i)) i b h1 h2 h3 h4 h5
       rw [ev] at q r2
       exact rd_out q ⟨h1,h2,bi,trivial,rb,h3,h4,h4,h4,h5,r1,r2,ri,rfl⟩ rfl rfl (.refl _) (.refl _)
   · have h4:decide (Int.ofNat (b i)=(0:Int))=false:=decide_eq_false (by simp;omega)
     rw [show Nat.beq (b i) 0=false by rw [Bool.eq_false_iff,ne_eq,Nat.beq_eq];exact hz,Bool.false_and] at hr
     cases hr
     have q:=tkV_lq L (nV b i) (2 ^ (7*i)) i b h1 h2 h3 h4
     rw [ev] at q r2
     exact rd_out q ⟨h1,h2,bi,trivial,rb,h3,h4,h4,h4,r1,r2,ri,rfl⟩ rfl rfl (.refl _) (.refl _)
 · have h3:decide (Int.ofNat (b i)<(128:Int))=false:=decide_eq_false (by simp;omega)
   rw [show Nat.ble 128 (b i)=true by rw [Nat.ble_eq];omega] at hr
   by_cases h88:i=8
   · subst h88
     have h4:decide (Int.ofNat 8=(8:Int))=true:=rfl
     cases hr
     exact rd_out (tkL_lq L (nV b 8) (2 ^ (7*8)) 8 b h1 h2 h3 h4) ⟨h1,h2,bi,trivial,rb,h3,h4,rfl⟩ rfl rfl (.refl _) (.refl _)
   · have h4:decide (Int.ofNat i=(8:Int))=false:=decide_eq_false (by simp;omega)
     have hp7:2 ^ (7*i)<=2 ^ 49:=Nat.pow_le_pow_right (by decide) (by omega)
     rw [show (2:Nat) ^ 49=562949953421312 by decide] at hp7
     have e1:Int.ofNat (b i)-128=Int.ofNat (b i % 128):=by simp;omega
     have hm:b i % 128*2 ^ (7*i)<=127*2 ^ (7*i):=Nat.mul_le_mul_right _ (by omega)
     have q:=tkR_lq L (nV b i) (2 ^ (7*i)) i b h1 h2 h3 h4
     rw [e1] at q
     have e2:Int.ofNat (2 ^ (7*i))*128=Int.ofNat (2 ^ (7*(i+1))):=by
      show Int.ofNat (2 ^ (7*i)*128)= _
      rw [show 7*(i+1)=7*i+7 by omega,Nat.pow_add]
     have r0:rg (Int.ofNat (b i % 128)):=⟨by simp<;>omega,by simp<;>omega⟩
     have r1:rg (Int.ofNat (b i % 128)*Int.ofNat (2 ^ (7*i))):=by
      show rg (Int.ofNat (b i % 128*2 ^ (7*i)))
      generalize b i % 128*2 ^ (7*i)=y at *
      exact ⟨by simp<;>omega,by simp<;>omega⟩
     have r2:rg (Int.ofNat (nV b i)+Int.ofNat (b i % 128)*Int.ofNat (2 ^ (7*i))):=by
      show rg (Int.ofNat (nV b i+b i % 128*2 ^ (7*i)))
      generalize b i % 128*2 ^ (7*i)=y at *
      exact ⟨by simp<;>omega,by simp<;>omega⟩
     have r3:rg (Int.ofNat (2 ^ (7*i))*128):=by
      show rg (Int.ofNat (2 ^ (7*i)*128))
      generalize 2 ^ (7*i)=y at *
      exact ⟨by simp<;>omega,by simp<;>omega⟩
     rw [e2] at q r3
     refine rd_nrm q ⟨h1,h2,bi,trivial,rb,h3,h4,r0,r1,r2,r3,ri,rfl⟩ (i+1) ⟨by omega,by omega,?_⟩ (by omega) rfl (.refl _) (.refl _)
     rw [show 9-(i+1)=8-i by omega]
     exact hr
theorem tk_vq (L:Nat) (b:Nat->Nat) (v:Nat) (z:Nat) (e:Nat):VD Try.prog 58 [.sv 1 L (byF b)] [] (Orc.lop [] [0,5,6,7] 0 XO.ret [(2,.i .i64 (Int.ofNat v)),(3,
 .i .i64 (Int.ofNat z)),(4,.i .i64 (Int.ofNat e))] [] Orc.z) (.tup [.i .i64 (Int.ofNat v),.i .i64 (Int.ofNat z),.i .i64 (Int.ofNat e)]) [] [] 0 (fun Lf=>LDoes Try.prog
 (loopAt Try.prog 58 0) 47 0 (mkT [(0,.sv 1 L (byF b)),(5,.i .i64 0),(6,.i .i64 1),(7,.i .i64 0)]) [] XO.ret (mkT [(2,.i .i64 (Int.ofNat v)),(3,.i .i64 (Int.ofNat
 z)),(4,.i .i64 (Int.ofNat e))]) []/\Lf):=by unfold VD VQ;kernel_rfl
theorem rnE_vq (L:Nat) (b:Nat->Nat) (E:Int) (h0:decide (E=0)=false):VD Try.prog 70 [.agg [.sv 1 L (byF b),.i .i64 E]] [] (Orc.t Orc.z) (.tup [.i .i64 0,.agg
 [.sv 1 L (byF b),.i .i64 E]]) [] [] 2 (fun Lf=>True/\(!decide (E=0))=true/\Lf):=by unfold VD VQ;kernel_rfl
theorem rnB_vq (L:Nat) (b:Nat->Nat) (v:Nat) (z:Nat) (e:Nat) (h1:decide (Int.ofNat e=0)=false):VD Try.prog 70 [.agg [.sv 1 L (byF b),.i .i64 0]] [] (Orc.c
 (Orc.cal [] (.tup [.i .i64 (Int.ofNat v),.i .i64 (Int.ofNat z),.i .i64 (Int.ofNat e)]) [] (Orc.t Orc.z))) (.tup [.i .i64 0,.agg [.sv 1 L (byF b),.i .i64 (Int.ofNat e)]])
 [] [] 2 (fun Lf=>True/\True/\Con Try.prog 58 [.sv 1 L (byF b)] [] (.tup [.i .i64 (Int.ofNat v),.i .i64 (Int.ofNat z),.i .i64 (Int.ofNat e)]) []/\(!decide (Int.ofNat
 e=0))=true/\True/\Lf):=by unfold VD VQ;kernel_rfl
theorem rnO_vq (L:Nat) (b:Nat->Nat) (v:Nat) (z:Nat) (e:Nat) (h1:decide (Int.ofNat e=0)=true):VD Try.prog 70 [.agg [.sv 1 L (byF b),.i .i64 0]] [] (Orc.c
 (Orc.cal [] (.tup [.i .i64 (Int.ofNat v),.i .i64 (Int.ofNat z),.i .i64 (Int.ofNat e)]) [] (Orc.f Orc.z))) (.tup [.i .i64 (Int.ofNat v),.agg [.sv 1 (L-z) (shiftF z (byF
 b)),.i .i64 0]]) [] [] 2 (fun Lf=>True/\True/\Con Try.prog 58 [.sv 1 L (byF b)] [] (.tup [.i .i64 (Int.ofNat v),.i .i64 (Int.ofNat z),.i .i64 (Int.ofNat e)]) []/\
 (!decide (Int.ofNat e=0))=false/\True/\(0<=Int.ofNat z/\True/\z<=L/\L<=L)/\Lf):=by unfold VD VQ;kernel_rfl
theorem tk_con (b:Nat->Nat) (L:Nat) (hb:∀k,b k<256):Con Try.prog 58 [.sv 1 L (byF b)] [] (.tup [.i .i64 (Int.ofNat (nmv b L)),.i .i64 (Int.ofNat (nmz b L)),.i .i64 (Int.ofNat (nme b L))]) []:=
 con_d (tk_vq L b (nmv b L) (nmz b L) (nme b L)) ⟨tk_lp b L hb (nmv b L) (nmz b L) (nme b L) rfl,rfl⟩
theorem rnE_con (b:Nat->Nat) (L:Nat) (E:Int) (h:E≠0):Con Try.prog 70 [.agg [.sv 1 L (byF b),.i .i64 E]] [] (.tup [.i .i64 0,.agg [.sv 1 L (byF b),.i .i64 E]]) []:=
 have d:decide (E=0)=false:=decide_eq_false h
 con_d (rnE_vq L b E d) ⟨trivial,by rw [d];rfl,rfl⟩
theorem rnB_con (b:Nat->Nat) (L:Nat) (hb:∀k,b k<256) (h:nme b L≠0):Con Try.prog 70 [.agg [.sv 1 L (byF b),.i .i64 0]] [] (.tup [.i .i64 0,.agg [.sv 1 L (byF b),.i .i64 (Int.ofNat (nme b L))]]) []:=
 have d:decide (Int.ofNat (nme b L)=0)=false:=decide_eq_false fun q=>h (Int.ofNat.inj q)
 con_d (rnB_vq L b (nmv b L) (nmz b L) (nme b L) d) ⟨trivial,trivial,tk_con b L hb,by rw [d];rfl,trivial,rfl⟩
theorem rnO_con (b:Nat->Nat) (L:Nat) (hb:∀k,b k<256) (h:nme b L=0) (hz:nmz b L<=L):Con Try.prog 70 [.agg [.sv 1 L (byF b),.i .i64 0]] [] (.tup [.i .i64 (Int.ofNat (nmv b L)),.agg [.sv 1 (L-nmz b L) (shiftF (nmz b L) (byF b)),.i .i64 0]]) []:=
 have d:decide (Int.ofNat (nme b L)=0)=true:=decide_eq_true (by rw [h];rfl)
 con_d (rnO_vq L b (nmv b L) (nmz b L) (nme b L) d) ⟨trivial,trivial,tk_con b L hb,by rw [d];rfl,trivial,⟨Int.natCast_nonneg _,trivial,hz,Nat.le_refl _⟩,rfl⟩
end Go.Proofs.Cl
namespace Go.Proofs.Ly
open Go Go.Sim Go.Proofs Go.Proofs.Cl Go.Proofs.Ytjhcbjncdbmhoaa
theorem nT {b:Bool} (h:b=true):(!b)=false:=by rw [h];rfl
theorem nF {b:Bool} (h:b=false):(!b)=true:=by rw [h];rfl
def wi (n a b:Int):Bool:=decide (a<=n) && decide (n<=b)
def ofB (c:Int):Bool:=wi c 97 122 || (wi c 48 57 || decide (c=46))
def ipB (c:Int):Bool:=decide (c=0) || wi c 32 79
theorem w510_vq (n a b:Int) (h0:decide (a<=n)=true):VD Try.prog 51 [.i .i64 n,.i .i64 a,.i .i64 b] [] (Orc.t (Orc.t (Orc.t (Orc.t Orc.z)))) (.b (decide (n<=b))) []
 [] 0 (fun Lf=>decide (a<=n)=true/\decide (a<=n)=true/\decide (a<=n)=true/\decide (a<=n)=true/\Lf):=by unfold VD VQ;kernel_rfl
theorem w511_vq (n a b:Int) (h0:decide (a<=n)=false):VD Try.prog 51 [.i .i64 n,.i .i64 a,.i .i64 b] [] (Orc.f (Orc.f (Orc.f (Orc.f Orc.z)))) (.b false) [] [] 0 (fun
 Lf=>decide (a<=n)=false/\decide (a<=n)=false/\decide (a<=n)=false/\decide (a<=n)=false/\Lf):=by unfold VD VQ;kernel_rfl
theorem w51_con (n a b:Int):Con Try.prog 51 [.i .i64 n,.i .i64 a,.i .i64 b] [] (.b (wi n a b)) []:=by
 unfold wi
 cases h0:decide (a<=n) with
 | true=>
   exact con_d (w510_vq (n:=n) (a:=a) (b:=b) (h0:=h0)) (by repeat' first | exact trivial | assumption | exact rfl | exact nT (by assumption) | exact nF (by assumption) | apply And.intro)
 | false=>
   exact con_d (w511_vq (n:=n) (a:=a) (b:=b) (h0:=h0)) (by repeat' first | exact trivial | assumption | exact rfl | exact nT (by assumption) | exact nF (by assumption) | apply And.intro)
theorem w820_vq (n a b:Int) (h0:decide (a<=n)=true):VD Try.prog 82 [.i .u8 n,.i .u8 a,.i .u8 b] [] (Orc.t (Orc.t (Orc.t (Orc.t Orc.z)))) (.b (decide (n<=b))) [] []
 0 (fun Lf=>decide (a<=n)=true/\decide (a<=n)=true/\decide (a<=n)=true/\decide (a<=n)=true/\Lf):=by unfold VD VQ;kernel_rfl
theorem w821_vq (n a b:Int) (h0:decide (a<=n)=false):VD Try.prog 82 [.i .u8 n,.i .u8 a,.i .u8 b] [] (Orc.f (Orc.f (Orc.f (Orc.f Orc.z)))) (.b false) [] [] 0 (fun Lf
 =>decide (a<=n)=false/\decide (a<=n)=false/\decide (a<=n)=false/\decide (a<=n)=false/\Lf):=by unfold VD VQ;kernel_rfl
theorem w82_con (n a b:Int):Con Try.prog 82 [.i .u8 n,.i .u8 a,.i .u8 b] [] (.b (wi n a b)) []:=by
 unfold wi
 cases h0:decide (a<=n) with
 | true=>
   exact con_d (w820_vq (n:=n) (a:=a) (b:=b) (h0:=h0)) (by repeat' first | exact trivial | assumption | exact rfl | exact nT (by assumption) | exact nF (by assumption) | apply And.intro)
 | false=>
   exact con_d (w821_vq (n:=n) (a:=a) (b:=b) (h0:=h0)) (by repeat' first | exact trivial | assumption | exact rfl | exact nT (by assumption) | exact nF (by assumption) | apply And.intro)
theorem c520_vq (w:Int->Int->Int->Bool) (c:Int) (h0:w c 97 122=true):VD Try.prog 52 [.i .u8 c] [] (Orc.cal [] (.b (w c 97 122)) [] (Orc.f (Orc.f (Orc.t (oc 3
 Orc.z))))) (.b true) [] [] 0 (fun Lf=>Con Try.prog 82 [.i .u8 c,.i .u8 97,.i .u8 122] [] (.b (w c 97 122)) []/\(!w c 97 122)=false/\(!w c 97 122)=false/\w c 97 122
 =true/\Lf):=by unfold VD VQ;kernel_rfl
theorem c521_vq (w:Int->Int->Int->Bool) (c:Int) (h0:w c 97 122=false) (h1:w c 48 57=true):VD Try.prog 52 [.i .u8 c] [] (Orc.cal [] (.b (w c 97 122)) [] (Orc.t
 (Orc.t (Orc.cal [] (.b (w c 48 57)) [] (Orc.f (Orc.f (Orc.f (Orc.t Orc.z)))))))) (.b true) [] [] 0 (fun Lf=>Con Try.prog 82 [.i .u8 c,.i .u8 97,.i .u8 122] [] (.b (w c 97
 122)) []/\(!w c 97 122)=true/\(!w c 97 122)=true/\Con Try.prog 82 [.i .u8 c,.i .u8 48,.i .u8 57] [] (.b (w c 48 57)) []/\w c 97 122=false/\(!w c 48 57)=false/\
 (!w c 48 57)=false/\w c 48 57=true/\Lf):=by unfold VD VQ;kernel_rfl
theorem c522_vq (w:Int->Int->Int->Bool) (c:Int) (h0:w c 97 122=false) (h1:w c 48 57=false):VD Try.prog 52 [.i .u8 c] [] (Orc.cal [] (.b (w c 97 122)) [] (Orc.t
 (Orc.t (Orc.cal [] (.b (w c 48 57)) [] (Orc.f (Orc.t (Orc.t (Orc.f Orc.z)))))))) (.b (decide (c=46))) [] [] 0 (fun Lf=>Con Try.prog 82 [.i .u8 c,.i .u8 97,.i .u8 122]
 [] (.b (w c 97 122)) []/\(!w c 97 122)=true/\(!w c 97 122)=true/\Con Try.prog 82 [.i .u8 c,.i .u8 48,.i .u8 57] [] (.b (w c 48 57)) []/\w c 97 122=false/\(!w c
 48 57)=true/\(!w c 48 57)=true/\w c 48 57=false/\Lf):=by unfold VD VQ;kernel_rfl
theorem c52_con (c:Int):Con Try.prog 52 [.i .u8 c] [] (.b (ofB c)) []:=by
 unfold ofB
 cases h0:wi c 97 122 with
 | true=>
   exact con_d (c520_vq (w:=wi) (c:=c) (h0:=h0)) (by repeat' first | exact trivial | assumption | exact rfl | exact nT (by assumption) | exact nF (by assumption) | exact w82_con _ _ _ | apply And.intro)
 | false=>
   cases h1:wi c 48 57 with
   | true=>
     exact con_d (c521_vq (w:=wi) (c:=c) (h0:=h0) (h1:=h1)) (by repeat' first | exact trivial | assumption | exact rfl | exact nT (by assumption) | exact nF (by assumption) | exact w82_con _ _ _ | apply And.intro)
   | false=>
     exact con_d (c522_vq (w:=wi) (c:=c) (h0:=h0) (h1:=h1)) (by repeat' first | exact trivial | assumption | exact rfl | exact nT (by assumption) | exact nF (by assumption) | exact w82_con _ _ _ | apply And.intro)
theorem c750_vq (c:Int) (h0:decide (c=0)=true):VD Try.prog 75 [.i .i64 c] [] (Orc.f (Orc.f (Orc.t Orc.z))) (.b true) [] [] 0 (fun Lf=>(!decide (c=0))=false/\
 (!decide (c=0))=false/\decide (c=0)=true/\Lf):=by unfold VD VQ;kernel_rfl
theorem c751_vq (w:Int->Int->Int->Bool) (c:Int) (h0:decide (c=0)=false):VD Try.prog 75 [.i .i64 c] [] (Orc.t (Orc.t (Orc.inl (Orc.cal [] (.b (w c 32 79)) []
 (Orc.f Orc.z))))) (.b (w c 32 79)) [] [] 0 (fun Lf=>(!decide (c=0))=true/\(!decide (c=0))=true/\Con Try.prog 51 [.i .i64 c,.i .i64 32,.i .i64 79] [] (.b (w c 32
 79)) []/\decide (c=0)=false/\Lf):=by unfold VD VQ;kernel_rfl
theorem c75_con (c:Int):Con Try.prog 75 [.i .i64 c] [] (.b (ipB c)) []:=by
 unfold ipB
 cases h0:decide (c=0) with
 | true=>
   exact con_d (c750_vq (c:=c) (h0:=h0)) (by repeat' first | exact trivial | assumption | exact rfl | exact nT (by assumption) | exact nF (by assumption) | exact w51_con _ _ _ | apply And.intro)
 | false=>
   exact con_d (c751_vq (w:=wi) (c:=c) (h0:=h0)) (by repeat' first | exact trivial | assumption | exact rfl | exact nT (by assumption) | exact nF (by assumption) | exact w51_con _ _ _ | apply And.intro)
theorem c760_vq (w:Int->Int->Int->Bool) (c:Int):VD Try.prog 76 [.i .i64 c] [] (Orc.cal [] (.b (w c 0 15)) [] Orc.z) (.b (w c 0 15)) [] [] 0 (fun Lf=>Con Try.prog 51
 [.i .i64 c,.i .i64 0,.i .i64 15] [] (.b (w c 0 15)) []/\Lf):=by unfold VD VQ;kernel_rfl
theorem c76_con (c:Int):Con Try.prog 76 [.i .i64 c] [] (.b (wi c 0 15)) []:=by
 exact con_d (c760_vq (w:=wi) (c:=c)) (by repeat' first | exact trivial | assumption | exact rfl | exact nT (by assumption) | exact nF (by assumption) | exact w51_con _ _ _ | apply And.intro)
theorem c240_vq (c:Int) (h0:decide (32<=c)=true):VD Try.prog 24 [.i .i64 c] [] (Orc.t (Orc.t (Orc.t Orc.z))) (.b (decide (c<=79))) [] [] 0 (fun Lf=>decide (32<=c)
 =true/\decide (32<=c)=true/\decide (32<=c)=true/\Lf):=by unfold VD VQ;kernel_rfl
theorem c241_vq (c:Int) (h0:decide (32<=c)=false):VD Try.prog 24 [.i .i64 c] [] (Orc.f (Orc.f (Orc.f Orc.z))) (.b false) [] [] 0 (fun Lf=>decide (32<=c)=false/\
 decide (32<=c)=false/\decide (32<=c)=false/\Lf):=by unfold VD VQ;kernel_rfl
theorem c24_con (c:Int):Con Try.prog 24 [.i .i64 c] [] (.b (wi c 32 79)) []:=by
 unfold wi
 cases h0:decide (32<=c) with
 | true=>
   exact con_d (c240_vq (c:=c) (h0:=h0)) (by repeat' first | exact trivial | assumption | exact rfl | exact nT (by assumption) | exact nF (by assumption) | apply And.intro)
 | false=>
   exact con_d (c241_vq (c:=c) (h0:=h0)) (by repeat' first | exact trivial | assumption | exact rfl | exact nT (by assumption) | exact nF (by assumption) | apply And.intro)
theorem c780_vq (ip:Int->Bool) (c:Int):VD Try.prog 78 [.i .i64 c] [] (Orc.cal [] (.b (ip c)) [] Orc.z) (.b !ip c) [] [] 0 (fun Lf=>Con Try.prog 75 [.i .i64 c] [] (.b
 (ip c)) []/\True/\Lf):=by unfold VD VQ;kernel_rfl
theorem c78_con (c:Int):Con Try.prog 78 [.i .i64 c] [] (.b (!ipB c)) []:=by
 exact con_d (c780_vq (ip:=ipB) (c:=c)) (by repeat' first | exact trivial | assumption | exact rfl | exact nT (by assumption) | exact nF (by assumption) | exact c75_con _ | apply And.intro)
theorem nmR_lq (of:Int->Bool) (t:List Nat) (i:Nat) (h0:decide (Int.ofNat i<Int.ofNat t.length)=true) (h1:of (Int.ofNat (List.getD t i 0))=true):LD Try.prog
 (loopAt Try.prog 21 0) 19 0 [(0,.s t),(9,.i .i64 (Int.ofNat t.length)),(10,.i .i64 (Int.ofNat i))] [] (Orc.t (Orc.cal [] (.b (of (Int.ofNat (List.getD t i 0)))) []
 (Orc.f Orc.z))) .nrm [] [(0,.s t),(9,.i .i64 (Int.ofNat t.length)),(10,.i .i64 (Int.ofNat i+1))] [] 0 (fun Lf=>decide (Int.ofNat i<Int.ofNat (List.length t)) =
 true/\(0<=Int.ofNat i/\Int.ofNat i<↑(List.length t))/\Con Try.prog 52 [.i .u8 (Int.ofNat (List.getD t i 0))] [] (.b (of (Int.ofNat (List.getD t i 0)))) []/\True/\(!of
 (Int.ofNat (List.getD t i 0)))=false/\rg (Int.ofNat i+1)/\Lf):=by unfold LD LQ;kernel_rfl
theorem nmX_lq (of:Int->Bool) (t:List Nat) (i:Nat) (h0:decide (Int.ofNat i<Int.ofNat t.length)=true) (h1:of (Int.ofNat (List.getD t i 0))=false):LD Try.prog
 (loopAt Try.prog 21 0) 19 0 [(0,.s t),(9,.i .i64 (Int.ofNat t.length)),(10,.i .i64 (Int.ofNat i))] [] (Orc.t (Orc.cal [] (.b (of (Int.ofNat (List.getD t i 0)))) []
 (Orc.t Orc.z))) .ret [] [(2,.b false)] [] 0 (fun Lf=>decide (Int.ofNat i<Int.ofNat (List.length t))=true/\(0<=Int.ofNat i/\Int.ofNat i<↑(List.length t))/\Con
 Try.prog 52 [.i .u8 (Int.ofNat (List.getD t i 0))] [] (.b (of (Int.ofNat (List.getD t i 0)))) []/\True/\(!of (Int.ofNat (List.getD t i 0)))=true/\Lf)
 :=by unfold LD LQ;kernel_rfl
theorem nmE_lq (t:List Nat) (i:Nat) (h0:decide (Int.ofNat i<Int.ofNat t.length)=false):LD Try.prog (loopAt Try.prog 21 0) 19 0 [(0,.s t),(9,.i .i64 (Int.ofNat
 t.length)),(10,.i .i64 (Int.ofNat i))] [] (Orc.f Orc.z) (.exit 0) [] [] [] 0 (fun Lf=>decide (Int.ofNat i<Int.ofNat (List.length t))=false/\Lf)
 :=by unfold LD LQ;kernel_rfl
theorem rn0_lq (t:List Nat) (i:Nat) (h0:decide (Int.ofNat i<Int.ofNat t.length)=true) (h1:decide (97<=Int.ofNat (List.getD t i 0))=true) (h2:decide (Int.ofNat
 (List.getD t i 0)<=122)=true):LD Try.prog (loopAt Try.prog 22 0) 41 0 [(0,.s t),(3,.i .i64 (Int.ofNat i))] [] (Orc.t (Orc.t (Orc.t (Orc.t (Orc.f (Orc.f (Orc.f (Orc.f
 (Orc.t (oc 4 Orc.z)))))))))) .nrm [] [(0,.s t),(3,.i .i64 (Int.ofNat i+1))] [] 0 (fun Lf=>decide (Int.ofNat i<Int.ofNat (List.length t))=true/\(0<=Int.ofNat i/\
 Int.ofNat i<↑(List.length t))/\decide (97<=Int.ofNat (List.getD t i 0))=true/\decide (97<=Int.ofNat (List.getD t i 0))=true/\decide (97<=Int.ofNat (List.getD t i
 0))=true/\(!decide (Int.ofNat (List.getD t i 0)<=122))=false/\(!decide (Int.ofNat (List.getD t i 0)<=122))=false/\(!decide (Int.ofNat (List.getD t i 0)<=122)) =
 false/\(!decide (Int.ofNat (List.getD t i 0)<=122))=false/\decide (Int.ofNat (List.getD t i 0)<=122)=true/\True/\rg (Int.ofNat i+1)/\Lf)
 :=by unfold LD LQ;kernel_rfl
theorem rn1_lq (t:List Nat) (i:Nat) (h0:decide (Int.ofNat i<Int.ofNat t.length)=true) (h1:decide (97<=Int.ofNat (List.getD t i 0))=true) (h2:decide (Int.ofNat
 (List.getD t i 0)<=122)=false) (h3:decide (48<=Int.ofNat (List.getD t i 0))=true) (h4:decide (Int.ofNat (List.getD t i 0)<=57)=true):LD Try.prog (loopAt
 Try.prog 22 0) 41 0 [(0,.s t),(3,.i .i64 (Int.ofNat i))] [] (Orc.t (Orc.t (Orc.t (Orc.t (Orc.t (Orc.t (Orc.t (Orc.t (Orc.t (Orc.t (Orc.t (Orc.f (Orc.f (Orc.f (Orc.t (Orc.c
 Orc.z)))))))))))))))) .nrm [] [(0,.s t),(3,.i .i64 (Int.ofNat i+1))] [] 0 (fun Lf=>decide (Int.ofNat i<Int.ofNat (List.length t))=true/\(0<=Int.ofNat i/\
 Int.ofNat i<↑(List.length t))/\decide (97<=Int.ofNat (List.getD t i 0))=true/\decide (97<=Int.ofNat (List.getD t i 0))=true/\decide (97<=Int.ofNat (List.getD t i
 0))=true/\(!decide (Int.ofNat (List.getD t i 0)<=122))=true/\(!decide (Int.ofNat (List.getD t i 0)<=122))=true/\(!decide (Int.ofNat (List.getD t i 0)<=122)) =
 true/\decide (48<=Int.ofNat (List.getD t i 0))=true/\decide (48<=Int.ofNat (List.getD t i 0))=true/\(!decide (Int.ofNat (List.getD t i 0)<=122))=true/\decide (48
 <=Int.ofNat (List.getD t i 0))=true/\decide (Int.ofNat (List.getD t i 0)<=122)=false/\(!decide (Int.ofNat (List.getD t i 0)<=57))=false/\(!decide (Int.ofNat
 (List.getD t i 0)<=57))=false/\decide (Int.ofNat (List.getD t i 0)<=57)=true/\True/\rg (Int.ofNat i+1)/\Lf):=by unfold LD LQ;kernel_rfl
theorem rn2_lq (t:List Nat) (i:Nat) (h0:decide (Int.ofNat i<Int.ofNat t.length)=true) (h1:decide (97<=Int.ofNat (List.getD t i 0))=true) (h2:decide (Int.ofNat
 (List.getD t i 0)<=122)=false) (h3:decide (48<=Int.ofNat (List.getD t i 0))=true) (h4:decide (Int.ofNat (List.getD t i 0)<=57)=false) (h5:decide (Int.ofNat
 (List.getD t i 0)=46)=true):LD Try.prog (loopAt Try.prog 22 0) 41 0 [(0,.s t),(3,.i .i64 (Int.ofNat i))] [] (Orc.t (Orc.t (Orc.t (Orc.t (Orc.t (Orc.t (Orc.t (Orc.t
 (Orc.t (Orc.t (Orc.t (Orc.f (Orc.t (Orc.t (Orc.f (Orc.f Orc.z)))))))))))))))) .nrm [] [(0,.s t),(3,.i .i64 (Int.ofNat i+1))] [] 0 (fun Lf=>decide (Int.ofNat i <
 Int.ofNat (List.length t))=true/\(0<=Int.ofNat i/\Int.ofNat i<↑(List.length t))/\decide (97<=Int.ofNat (List.getD t i 0))=true/\decide (97<=Int.ofNat (List.getD
 t i 0))=true/\decide (97<=Int.ofNat (List.getD t i 0))=true/\(!decide (Int.ofNat (List.getD t i 0)<=122))=true/\(!decide (Int.ofNat (List.getD t i 0)<=122)) =
 true/\(!decide (Int.ofNat (List.getD t i 0)<=122))=true/\decide (48<=Int.ofNat (List.getD t i 0))=true/\decide (48<=Int.ofNat (List.getD t i 0))=true/\(!decide
 (Int.ofNat (List.getD t i 0)<=122))=true/\decide (48<=Int.ofNat (List.getD t i 0))=true/\decide (Int.ofNat (List.getD t i 0)<=122)=false/\(!decide (Int.ofNat
 (List.getD t i 0)<=57))=true/\(!decide (Int.ofNat (List.getD t i 0)<=57))=true/\decide (Int.ofNat (List.getD t i 0)<=57)=false/\True/\(!decide (Int.ofNat
 (List.getD t i 0)=46))=false/\rg (Int.ofNat i+1)/\Lf):=by unfold LD LQ;kernel_rfl
theorem rn3_lq (t:List Nat) (i:Nat) (h0:decide (Int.ofNat i<Int.ofNat t.length)=true) (h1:decide (97<=Int.ofNat (List.getD t i 0))=true) (h2:decide (Int.ofNat
 (List.getD t i 0)<=122)=false) (h3:decide (48<=Int.ofNat (List.getD t i 0))=true) (h4:decide (Int.ofNat (List.getD t i 0)<=57)=false) (h5:decide (Int.ofNat
 (List.getD t i 0)=46)=false):LD Try.prog (loopAt Try.prog 22 0) 41 0 [(0,.s t),(3,.i .i64 (Int.ofNat i))] [] (Orc.t (Orc.t (Orc.t (Orc.t (Orc.t (Orc.t (Orc.t (Orc.t
 (Orc.t (Orc.t (Orc.t (Orc.f (Orc.t (Orc.t (Orc.f (Orc.t Orc.z)))))))))))))))) .ret [] [(2,.b false)] [] 0 (fun Lf=>decide (Int.ofNat i<Int.ofNat (List.length t))=true
 /\(0<=Int.ofNat i/\Int.ofNat i<↑(List.length t))/\decide (97<=Int.ofNat (List.getD t i 0))=true/\decide (97<=Int.ofNat (List.getD t i 0))=true/\decide (97<=
 Int.ofNat (List.getD t i 0))=true/\(!decide (Int.ofNat (List.getD t i 0)<=122))=true/\(!decide (Int.ofNat (List.getD t i 0)<=122))=true/\(!decide (Int.ofNat
 (List.getD t i 0)<=122))=true/\decide (48<=Int.ofNat (List.getD t i 0))=true/\decide (48<=Int.ofNat (List.getD t i 0))=true/\(!decide (Int.ofNat (List.getD t i 0)
 <=122))=true/\decide (48<=Int.ofNat (List.getD t i 0))=true/\decide (Int.ofNat (List.getD t i 0)<=122)=false/\(!decide (Int.ofNat (List.getD t i 0)<=57))=true/\
 (!decide (Int.ofNat (List.getD t i 0)<=57))=true/\decide (Int.ofNat (List.getD t i 0)<=57)=false/\True/\(!decide (Int.ofNat (List.getD t i 0)=46))=true/\Lf)
 :=by unfold LD LQ;kernel_rfl
theorem rn4_lq (t:List Nat) (i:Nat) (h0:decide (Int.ofNat i<Int.ofNat t.length)=true) (h1:decide (97<=Int.ofNat (List.getD t i 0))=true) (h2:decide (Int.ofNat
 (List.getD t i 0)<=122)=false) (h3:decide (48<=Int.ofNat (List.getD t i 0))=false) (h4:decide (Int.ofNat (List.getD t i 0)=46)=true):LD Try.prog (loopAt
 Try.prog 22 0) 41 0 [(0,.s t),(3,.i .i64 (Int.ofNat i))] [] (Orc.t (Orc.t (Orc.t (Orc.t (Orc.t (Orc.t (Orc.t (Orc.f (Orc.f (Orc.t (Orc.f (Orc.f (oc 3 (Orc.f
 Orc.z)))))))))))))) .nrm [] [(0,.s t),(3,.i .i64 (Int.ofNat i+1))] [] 0 (fun Lf=>decide (Int.ofNat i<Int.ofNat (List.length t))=true/\(0<=Int.ofNat i/\Int.ofNat
 i<↑(List.length t))/\decide (97<=Int.ofNat (List.getD t i 0))=true/\decide (97<=Int.ofNat (List.getD t i 0))=true/\decide (97<=Int.ofNat (List.getD t i 0))=true
 /\(!decide (Int.ofNat (List.getD t i 0)<=122))=true/\(!decide (Int.ofNat (List.getD t i 0)<=122))=true/\(!decide (Int.ofNat (List.getD t i 0)<=122))=true/\decide
 (48<=Int.ofNat (List.getD t i 0))=false/\decide (48<=Int.ofNat (List.getD t i 0))=false/\(!decide (Int.ofNat (List.getD t i 0)<=122))=true/\decide (48<=Int.ofNat
 (List.getD t i 0))=false/\decide (Int.ofNat (List.getD t i 0)<=122)=false/\True/\(!decide (Int.ofNat (List.getD t i 0)=46))=false/\rg (Int.ofNat i+1)/\Lf)
 :=by unfold LD LQ;kernel_rfl
theorem rn5_lq (t:List Nat) (i:Nat) (h0:decide (Int.ofNat i<Int.ofNat t.length)=true) (h1:decide (97<=Int.ofNat (List.getD t i 0))=true) (h2:decide (Int.ofNat
 (List.getD t i 0)<=122)=false) (h3:decide (48<=Int.ofNat (List.getD t i 0))=false) (h4:decide (Int.ofNat (List.getD t i 0)=46)=false):LD Try.prog (loopAt
 Try.prog 22 0) 41 0 [(0,.s t),(3,.i .i64 (Int.ofNat i))] [] (Orc.t (Orc.t (Orc.t (Orc.t (Orc.t (Orc.t (Orc.t (Orc.f (Orc.f (Orc.t (Orc.f (Orc.f (oc 3 (Orc.t
 Orc.z)))))))))))))) .ret [] [(2,.b false)] [] 0 (fun Lf=>decide (Int.ofNat i<Int.ofNat (List.length t))=true/\(0<=Int.ofNat i/\Int.ofNat i<↑(List.length t))/\
 decide (97<=Int.ofNat (List.getD t i 0))=true/\decide (97<=Int.ofNat (List.getD t i 0))=true/\decide (97<=Int.ofNat (List.getD t i 0))=true/\(!decide (Int.ofNat
 (List.getD t i 0)<=122))=true/\(!decide (Int.ofNat (List.getD t i 0)<=122))=true/\(!decide (Int.ofNat (List.getD t i 0)<=122))=true/\decide (48<=Int.ofNat
 (List.getD t i 0))=false/\decide (48<=Int.ofNat (List.getD t i 0))=false/\(!decide (Int.ofNat (List.getD t i 0)<=122))=true/\decide (48<=Int.ofNat (List.getD t i
 0))=false/\decide (Int.ofNat (List.getD t i 0)<=122)=false/\True/\(!decide (Int.ofNat (List.getD t i 0)=46))=true/\Lf):=by unfold LD LQ;kernel_rfl
theorem rn6_lq (t:List Nat) (i:Nat) (h0:decide (Int.ofNat i<Int.ofNat t.length)=true) (h1:decide (97<=Int.ofNat (List.getD t i 0))=false) (h2:decide (48<=
 Int.ofNat (List.getD t i 0))=true) (h3:decide (Int.ofNat (List.getD t i 0)<=57)=true):LD Try.prog (loopAt Try.prog 22 0) 41 0 [(0,.s t),(3,.i .i64 (Int.ofNat i))]
 [] (Orc.t (Orc.f (Orc.f (Orc.f (oc 3 (Orc.t (Orc.t (Orc.c (Orc.t (Orc.c (Orc.f (Orc.f (Orc.t (Orc.c Orc.z)))))))))))))) .nrm [] [(0,.s t),(3,.i .i64 (Int.ofNat i+1))] []
 0 (fun Lf=>decide (Int.ofNat i<Int.ofNat (List.length t))=true/\(0<=Int.ofNat i/\Int.ofNat i<↑(List.length t))/\decide (97<=Int.ofNat (List.getD t i 0))=false
 /\decide (97<=Int.ofNat (List.getD t i 0))=false/\decide (97<=Int.ofNat (List.getD t i 0))=false/\decide (48<=Int.ofNat (List.getD t i 0))=true/\decide (48<=
 Int.ofNat (List.getD t i 0))=true/\decide (48<=Int.ofNat (List.getD t i 0))=true/\(!decide (Int.ofNat (List.getD t i 0)<=57))=false/\(!decide (Int.ofNat (List.getD
 t i 0)<=57))=false/\decide (Int.ofNat (List.getD t i 0)<=57)=true/\True/\rg (Int.ofNat i+1)/\Lf):=by unfold LD LQ;kernel_rfl
theorem rn7_lq (t:List Nat) (i:Nat) (h0:decide (Int.ofNat i<Int.ofNat t.length)=true) (h1:decide (97<=Int.ofNat (List.getD t i 0))=false) (h2:decide (48<=
 Int.ofNat (List.getD t i 0))=true) (h3:decide (Int.ofNat (List.getD t i 0)<=57)=false) (h4:decide (Int.ofNat (List.getD t i 0)=46)=true):LD Try.prog (loopAt
 Try.prog 22 0) 41 0 [(0,.s t),(3,.i .i64 (Int.ofNat i))] [] (Orc.t (Orc.f (Orc.f (Orc.f (oc 3 (Orc.t (Orc.t (Orc.c (Orc.t (Orc.c (Orc.t (Orc.t (Orc.f (Orc.f
 Orc.z)))))))))))))) .nrm [] [(0,.s t),(3,.i .i64 (Int.ofNat i+1))] [] 0 (fun Lf=>decide (Int.ofNat i<Int.ofNat (List.length t))=true/\(0<=Int.ofNat i/\Int.ofNat
 i<↑(List.length t))/\decide (97<=Int.ofNat (List.getD t i 0))=false/\decide (97<=Int.ofNat (List.getD t i 0))=false/\decide (97<=Int.ofNat (List.getD t i 0)) =
 false/\decide (48<=Int.ofNat (List.getD t i 0))=true/\decide (48<=Int.ofNat (List.getD t i 0))=true/\decide (48<=Int.ofNat (List.getD t i 0))=true/\(!decide
 (Int.ofNat (List.getD t i 0)<=57))=true/\(!decide (Int.ofNat (List.getD t i 0)<=57))=true/\decide (Int.ofNat (List.getD t i 0)<=57)=false/\True/\(!decide
 (Int.ofNat (List.getD t i 0)=46))=false/\rg (Int.ofNat i+1)/\Lf):=by unfold LD LQ;kernel_rfl
theorem rn8_lq (t:List Nat) (i:Nat) (h0:decide (Int.ofNat i<Int.ofNat t.length)=true) (h1:decide (97<=Int.ofNat (List.getD t i 0))=false) (h2:decide (48<=
 Int.ofNat (List.getD t i 0))=true) (h3:decide (Int.ofNat (List.getD t i 0)<=57)=false) (h4:decide (Int.ofNat (List.getD t i 0)=46)=false):LD Try.prog (loopAt
 Try.prog 22 0) 41 0 [(0,.s t),(3,.i .i64 (Int.ofNat i))] [] (Orc.t (Orc.f (Orc.f (Orc.f (oc 3 (Orc.t (Orc.t (Orc.c (Orc.t (Orc.c (Orc.t (Orc.t (Orc.f (Orc.t
 Orc.z)))))))))))))) .ret [] [(2,.b false)] [] 0 (fun Lf=>decide (Int.ofNat i<Int.ofNat (List.length t))=true/\(0<=Int.ofNat i/\Int.ofNat i<↑(List.length t))/\
 decide (97<=Int.ofNat (List.getD t i 0))=false/\decide (97<=Int.ofNat (List.getD t i 0))=false/\decide (97<=Int.ofNat (List.getD t i 0))=false/\decide (48<=
 Int.ofNat (List.getD t i 0))=true/\decide (48<=Int.ofNat (List.getD t i 0))=true/\decide (48<=Int.ofNat (List.getD t i 0))=true/\(!decide (Int.ofNat (List.getD t i
 0)<=57))=true/\(!decide (Int.ofNat (List.getD t i 0)<=57))=true/\decide (Int.ofNat (List.getD t i 0)<=57)=false/\True/\(!decide (Int.ofNat (List.getD t i 0) =
 46))=true/\Lf):=by unfold LD LQ;kernel_rfl
theorem rn9_lq (t:List Nat) (i:Nat) (h0:decide (Int.ofNat i<Int.ofNat t.length)=true) (h1:decide (97<=Int.ofNat (List.getD t i 0))=false) (h2:decide (48<=
 Int.ofNat (List.getD t i 0))=false) (h3:decide (Int.ofNat (List.getD t i 0)=46)=true):LD Try.prog (loopAt Try.prog 22 0) 41 0 [(0,.s t),(3,.i .i64 (Int.ofNat
 i))] [] (Orc.t (Orc.f (Orc.f (Orc.f (oc 3 (Orc.f (Orc.f (Orc.c (Orc.f (oc 4 (Orc.f Orc.z))))))))))) .nrm [] [(0,.s t),(3,.i .i64 (Int.ofNat i+1))] [] 0 (fun Lf=>decide
 (Int.ofNat i<Int.ofNat (List.length t))=true/\(0<=Int.ofNat i/\Int.ofNat i<↑(List.length t))/\decide (97<=Int.ofNat (List.getD t i 0))=false/\decide (97<=
 Int.ofNat (List.getD t i 0))=false/\decide (97<=Int.ofNat (List.getD t i 0))=false/\decide (48<=Int.ofNat (List.getD t i 0))=false/\decide (48<=Int.ofNat
 (List.getD t i 0))=false/\decide (48<=Int.ofNat (List.getD t i 0))=false/\True/\(!decide (Int.ofNat (List.getD t i 0)=46))=false/\rg (Int.ofNat i+1)/\Lf)
 :=by unfold LD LQ;kernel_rfl
theorem rn10_lq (t:List Nat) (i:Nat) (h0:decide (Int.ofNat i<Int.ofNat t.length)=true) (h1:decide (97<=Int.ofNat (List.getD t i 0))=false) (h2:decide (48<=
 Int.ofNat (List.getD t i 0))=false) (h3:decide (Int.ofNat (List.getD t i 0)=46)=false):LD Try.prog (loopAt Try.prog 22 0) 41 0 [(0,.s t),(3,.i .i64 (Int.ofNat
 i))] [] (Orc.t (Orc.f (Orc.f (Orc.f (oc 3 (Orc.f (Orc.f (Orc.c (Orc.f (oc 4 (Orc.t Orc.z))))))))))) .ret [] [(2,.b false)] [] 0 (fun Lf=>decide (Int.ofNat i<Int.ofNat
 (List.length t))=true/\(0<=Int.ofNat i/\Int.ofNat i<↑(List.length t))/\decide (97<=Int.ofNat (List.getD t i 0))=false/\decide (97<=Int.ofNat (List.getD t i 0)) =
 false/\decide (97<=Int.ofNat (List.getD t i 0))=false/\decide (48<=Int.ofNat (List.getD t i 0))=false/\decide (48<=Int.ofNat (List.getD t i 0))=false/\decide (48
 <=Int.ofNat (List.getD t i 0))=false/\True/\(!decide (Int.ofNat (List.getD t i 0)=46))=true/\Lf):=by unfold LD LQ;kernel_rfl
theorem rnE_lq (t:List Nat) (i:Nat) (h0:decide (Int.ofNat i<Int.ofNat t.length)=false):LD Try.prog (loopAt Try.prog 22 0) 41 0 [(0,.s t),(3,.i .i64 (Int.ofNat
 i))] [] (Orc.f Orc.z) (.exit 0) [] [(0,.s t)] [] 0 (fun Lf=>decide (Int.ofNat i<Int.ofNat (List.length t))=false/\Lf):=by unfold LD LQ;kernel_rfl
theorem ixR_lq (ip:Int->Bool) (n i:Nat) (f:Nat->Int) (h0:decide (Int.ofNat i<Int.ofNat n)=true) (h1:ip (f i)=true):LD Try.prog (loopAt Try.prog 88 0) 19 0
 [(0,.sv 1 n (fun i _=>.i .i64 (f i))),(1,.fn (.func 78) [] []),(7,.i .i64 (Int.ofNat n)),(8,.i .i64 (Int.ofNat i))] [] (Orc.t (Orc.cal [] (.b !ip (f i)) [] (Orc.f
 Orc.z))) .nrm [] [(0,.sv 1 n (fun i _=>.i .i64 (f i))),(1,.fn (.func 78) [] []),(7,.i .i64 (Int.ofNat n)),(8,.i .i64 (Int.ofNat i+1))] [] 0 (fun Lf=>decide
 (Int.ofNat i<Int.ofNat n)=true/\(0<=Int.ofNat i/\Int.ofNat i<↑n)/\True/\Con Try.prog 78 [.i .i64 (f i)] [] (.b !ip (f i)) []/\(!ip (f i))=false/\rg (Int.ofNat
 i+1)/\Lf):=by unfold LD LQ;kernel_rfl
theorem ixX_lq (ip:Int->Bool) (n i:Nat) (f:Nat->Int) (h0:decide (Int.ofNat i<Int.ofNat n)=true) (h1:ip (f i)=false):LD Try.prog (loopAt Try.prog 88 0) 19 0
 [(0,.sv 1 n (fun i _=>.i .i64 (f i))),(1,.fn (.func 78) [] []),(7,.i .i64 (Int.ofNat n)),(8,.i .i64 (Int.ofNat i))] [] (Orc.t (Orc.cal [] (.b !ip (f i)) [] (Orc.t
 Orc.z))) .ret [] [(4,.i .i64 (Int.ofNat i))] [] 0 (fun Lf=>decide (Int.ofNat i<Int.ofNat n)=true/\(0<=Int.ofNat i/\Int.ofNat i<↑n)/\True/\Con Try.prog 78 [.i
 .i64 (f i)] [] (.b !ip (f i)) []/\(!ip (f i))=true/\Lf):=by unfold LD LQ;kernel_rfl
theorem ixE_lq (n i:Nat) (f:Nat->Int) (h0:decide (Int.ofNat i<Int.ofNat n)=false):LD Try.prog (loopAt Try.prog 88 0) 19 0 [(0,.sv 1 n (fun i _=>.i .i64 (f i))),
 (1,.fn (.func 78) [] []),(7,.i .i64 (Int.ofNat n)),(8,.i .i64 (Int.ofNat i))] [] (Orc.f Orc.z) (.exit 0) [] [] [] 0 (fun Lf=>decide (Int.ofNat i<Int.ofNat n)=false
 /\Lf):=by unfold LD LQ;kernel_rfl
end Go.Proofs.Ly
