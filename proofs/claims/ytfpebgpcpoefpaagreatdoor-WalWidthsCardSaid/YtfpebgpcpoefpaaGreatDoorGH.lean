/- Runs over unknown values, told by the kernel: part GH. -/
import Derived.Test.YtfpebgpcpoefpaaGreatDoorGG
set_option linter.unusedSimpArgs false
set_option linter.unusedVariables false
set_option maxRecDepth 20000
set_option maxHeartbeats 4000000
namespace Go.Proofs.Ly
open Go Go.Sim Go.Proofs Go.Proofs.Cd Go.Proofs.St Go.Proofs.Cl Go.Proofs.YtfpebgpcpoefpaaGreatDoor
noncomputable def fxT (L0:Nat) (B0:Nat->Nat) (rl:Int->Nat) (rf:Int->Nat->Nat) (L:Nat) (cnt:Int) (b:Nat->Nat) (i:Nat):List Nat:=
 bytesF (addN (addN (addN L0 (rl (Int.ofNat i))) (rl cnt)) (Int.toNat (if Int.ofNat L<(Int.ofNat i+1)*36 then Int.ofNat L else (Int.ofNat i+1)*36)-Int.toNat (Int.ofNat i*36))) (appZ (addN (addN L0 (rl (Int.ofNat i))) (rl cnt)) (appZ (addN L0 (rl (Int.ofNat i))) (appZ L0 (byF B0) (byF (rf (Int.ofNat i)))) (byF (rf cnt))) (shiftF (Int.toNat (Int.ofNat i*36)) (byF b)))
noncomputable def rlI (v:Int):Nat:=(fN v.toNat).length
noncomputable def rfI (v:Int):Nat->Nat:=tB (fN v.toNat)
noncomputable def tlT (t:List Nat):Nat:=(tN t).length
noncomputable def tfT (t:List Nat):Nat->Nat:=tB (tN t)
def rvIs (v:AV):Res->Prop
 | .rv v1 _=>v1=v
 | _=>False
def VP (P:Program) (g:FuncId) (pargs:List AV) (o:Orc) (v:AV) (C:Prop->Prop):Prop:=runK P 1000000 (.call g pargs (mkH [])) o (fun r _=>rvIs v r)=C (v=v)
theorem con_p {P:Program} {g:FuncId} {pargs:List AV} {o:Orc} {v:AV} {C:Prop->Prop} (hb:below 0 v=true) (h:VP P g pargs o v C) (hc:C (v=v)):Con P g pargs [] v []:=by
 refine con_plain (f:=1000000) (o:=o) hb ?_
 have e:(fun (r:Res) (_:Orc)=>rvIs v r)=fun r _=>∃v1 H1,r=.rv v1 H1/\v1=v:=by
  funext r _
  refine propext ⟨fun q=>?_,fun q=>?_⟩
  · cases r with
    | rv v1 H1=>exact ⟨v1,H1,rfl,q⟩
    | _=>exact q.elim
  · obtain ⟨v1,H1,rfl,q⟩:=q
    exact q
 rw [<-e]
 exact Eq.mpr h hc
theorem tdN_eq (L:Nat):Int.tdiv (Int.ofNat L+36-1) 36=Int.ofNat ((L+35) / 36):=by
 rw [show Int.ofNat L+(36:Int)-(1:Int)=Int.ofNat (L+35) from by simp;omega];exact Eq.refl _
theorem tdN_bd {L:Nat} (h:L<=1000000):0<=Int.tdiv (Int.ofNat L+36-1) 36/\Int.tdiv (Int.ofNat L+36-1) 36<=1000036:=by
 rw [tdN_eq]
 have h2:(L+35) / 36<=1000036:=Nat.le_trans (Nat.div_le_self (L+35) 36) (by omega)
 exact ⟨Int.natCast_nonneg _,Int.ofNat_le.2 h2⟩
theorem ls_natI (i:Nat):Int.toNat (Int.ofNat (i+1)-1)=i:=by simp
theorem qR0_lq (n i:Nat) (B V:Nat->Int) (D:Nat->List Nat) (h0:decide (Int.ofNat i<Int.ofNat n)=true) (h1:decide (B i<1)=false) (h2:decide (79<B i) =
 false) (h3:decide (V i<1)=false) (h4:decide (1099511627776<V i)=false) (h5:decide (38<Int.ofNat (List.length (D i)))=false) (h6:decide (0<Int.ofNat i) =
 false):LD Tryz.prog (loopAt Tryz.prog 35 0) 76 0 [(0,.sv 3 n (uF B V D)),(3,.i .i64 (Int.ofNat i))] [] (Orc.t (Orc.t (Orc.t (Orc.t (Orc.t (Orc.t (Orc.t (Orc.f (Orc.t
 (Orc.t (Orc.t (Orc.t (Orc.t (Orc.t (Orc.f (Orc.t (Orc.t (Orc.t (Orc.t (Orc.t (Orc.t (Orc.f (Orc.t (Orc.t (Orc.t (Orc.t (Orc.t (Orc.t (Orc.t (Orc.f (Orc.t (Orc.t (Orc.t (Orc.f
 (Orc.f (Orc.f (Orc.f (Orc.f (Orc.f (Orc.f (Orc.f (Orc.f (Orc.f (Orc.f (Orc.f (Orc.t (Orc.f (Orc.f (Orc.c Orc.z))))))))))))))))))))))))))))))))))))))))))))))))) .nrm [] [(0,
 .sv 3 n (uF B V D)),(3,.i .i64 (Int.ofNat i+1))] [] 0 (fun Lf=>decide (Int.ofNat i<Int.ofNat n)=true/\(0<=Int.ofNat i/\Int.ofNat i<↑n)/\True/\True/\(!decide
 (B i<1))=true/\(!decide (B i<1))=true/\(!decide (B i<1))=true/\(0<=Int.ofNat i/\Int.ofNat i<↑n)/\(!decide (B i<1))=true/\True/\(!decide (B i<1)) =
 true/\True/\(!decide (B i<1))=true/\decide (B i<1)=false/\(!decide (79<B i))=true/\(!decide (79<B i))=true/\(!decide (79<B i))=true/\(0<=Int.ofNat
 i/\Int.ofNat i<↑n)/\(!decide (79<B i))=true/\True/\(!decide (79<B i))=true/\True/\(!decide (79<B i))=true/\decide (79<B i)=false/\(!decide (V i <
 1))=true/\(!decide (V i<1))=true/\(!decide (V i<1))=true/\(0<=Int.ofNat i/\Int.ofNat i<↑n)/\(!decide (V i<1))=true/\True/\(!decide (V i<1))=true/\
 True/\(!decide (V i<1))=true/\decide (V i<1)=false/\(!decide (1099511627776<V i))=true/\(!decide (1099511627776<V i))=true/\(!decide (1099511627776<V
 i))=true/\(0<=Int.ofNat i/\Int.ofNat i<↑n)/\(!decide (1099511627776<V i))=true/\True/\(!decide (1099511627776<V i))=true/\True/\(!decide (1099511627776 <
 V i))=true/\(!decide (1099511627776<V i))=true/\decide (1099511627776<V i)=false/\(!decide (38<Int.ofNat (List.length (D i))))=true/\(!decide (38 <
 Int.ofNat (List.length (D i))))=true/\(!decide (38<Int.ofNat (List.length (D i))))=true/\decide (0<Int.ofNat i)=false/\decide (0<Int.ofNat i)=false/\decide
 (0<Int.ofNat i)=false/\decide (0<Int.ofNat i)=false/\decide (0<Int.ofNat i)=false/\decide (0<Int.ofNat i)=false/\decide (0<Int.ofNat i)=false/\decide
 (0<Int.ofNat i)=false/\decide (0<Int.ofNat i)=false/\decide (0<Int.ofNat i)=false/\decide (0<Int.ofNat i)=false/\decide (0<Int.ofNat i)=false/\
 (!decide (38<Int.ofNat (List.length (D i))))=true/\decide (0<Int.ofNat i)=false/\decide (38<Int.ofNat (List.length (D i)))=false/\rg (Int.ofNat i+1)/\Lf)
 :=by unfold LD LQ;kernel_rfl
theorem qR1_lq (n i:Nat) (B V:Nat->Int) (D:Nat->List Nat) (h0:decide (Int.ofNat i<Int.ofNat n)=true) (h1:decide (B i<1)=false) (h2:decide (79<B i) =
 false) (h3:decide (V i<1)=false) (h4:decide (1099511627776<V i)=false) (h5:decide (38<Int.ofNat (List.length (D i)))=false) (h6:decide (0<Int.ofNat i) =
 true) (h7:decide (B i<=B (Int.toNat (Int.ofNat i-1)))=false):LD Tryz.prog (loopAt Tryz.prog 35 0) 76 0 [(0,.sv 3 n (uF B V D)),(3,.i .i64 (Int.ofNat i))] []
 (Orc.t (Orc.t (Orc.t (Orc.t (Orc.t (Orc.t (Orc.t (Orc.f (Orc.t (Orc.t (Orc.t (Orc.t (Orc.t (Orc.t (Orc.f (Orc.t (Orc.t (Orc.t (Orc.t (Orc.t (Orc.t (Orc.f (Orc.t (Orc.t (Orc.t
 (Orc.t (Orc.t (Orc.t (Orc.t (Orc.f (Orc.t (Orc.t (Orc.t (Orc.t (Orc.t (Orc.t (Orc.t (Orc.t (Orc.t (Orc.t (Orc.t (Orc.t (Orc.t (Orc.t (Orc.t (Orc.t (Orc.t (Orc.f (Orc.f
 Orc.z))))))))))))))))))))))))))))))))))))))))))))))))) .nrm [] [(0,.sv 3 n (uF B V D)),(3,.i .i64 (Int.ofNat i+1))] [] 0 (fun Lf=>decide (Int.ofNat i<Int.ofNat n) =
 true/\(0<=Int.ofNat i/\Int.ofNat i<↑n)/\True/\True/\(!decide (B i<1))=true/\(!decide (B i<1))=true/\(!decide (B i<1))=true/\(0<=Int.ofNat i/\
 Int.ofNat i<↑n)/\(!decide (B i<1))=true/\True/\(!decide (B i<1))=true/\True/\(!decide (B i<1))=true/\decide (B i<1)=false/\(!decide (79<B i)) =
 true/\(!decide (79<B i))=true/\(!decide (79<B i))=true/\(0<=Int.ofNat i/\Int.ofNat i<↑n)/\(!decide (79<B i))=true/\True/\(!decide (79<B i))=true/\
 True/\(!decide (79<B i))=true/\decide (79<B i)=false/\(!decide (V i<1))=true/\(!decide (V i<1))=true/\(!decide (V i<1))=true/\(0<=Int.ofNat i/\
 Int.ofNat i<↑n)/\(!decide (V i<1))=true/\True/\(!decide (V i<1))=true/\True/\(!decide (V i<1))=true/\decide (V i<1)=false/\(!decide (1099511627776 <
 V i))=true/\(!decide (1099511627776<V i))=true/\(!decide (1099511627776<V i))=true/\(0<=Int.ofNat i/\Int.ofNat i<↑n)/\(!decide (1099511627776<V i))=true
 /\True/\(!decide (1099511627776<V i))=true/\True/\(!decide (1099511627776<V i))=true/\(!decide (1099511627776<V i))=true/\decide (1099511627776<V i) =
 false/\(!decide (38<Int.ofNat (List.length (D i))))=true/\(!decide (38<Int.ofNat (List.length (D i))))=true/\(!decide (38<Int.ofNat (List.length (D i))))=true
 /\decide (0<Int.ofNat i)=true/\decide (0<Int.ofNat i)=true/\decide (0<Int.ofNat i)=true/\rg (Int.ofNat i-1)/\decide (0<Int.ofNat i)=true/\(0<=
 Int.ofNat i-1/\Int.ofNat i-(1:Int)<↑n)/\decide (0<Int.ofNat i)=true/\True/\decide (0<Int.ofNat i)=true/\True/\decide (0<Int.ofNat i)=true/\decide
 (0<Int.ofNat i)=true/\decide (0<Int.ofNat i)=true/\(0<=Int.ofNat i/\Int.ofNat i<↑n)/\decide (0<Int.ofNat i)=true/\True/\decide (0<Int.ofNat i)=true/\
 True/\decide (0<Int.ofNat i)=true/\(!decide (38<Int.ofNat (List.length (D i))))=true/\decide (0<Int.ofNat i)=true/\decide (38<Int.ofNat (List.length (D i)))
 =false/\decide (B i<=B (Int.toNat (Int.ofNat i-1)))=false/\rg (Int.ofNat i+1)/\Lf):=by unfold LD LQ;kernel_rfl
theorem qX0_lq (n i:Nat) (B V:Nat->Int) (D:Nat->List Nat) (h0:decide (Int.ofNat i<Int.ofNat n)=true) (h1:decide (B i<1)=true):LD Tryz.prog (loopAt
 Tryz.prog 35 0) 76 0 [(0,.sv 3 n (uF B V D)),(3,.i .i64 (Int.ofNat i))] [] (Orc.t (Orc.f (Orc.f (Orc.f (Orc.f (Orc.f (Orc.f (Orc.t (oc 28 Orc.z))))))))) .ret [] [(2,.b
 false)] [] 0 (fun Lf=>decide (Int.ofNat i<Int.ofNat n)=true/\(0<=Int.ofNat i/\Int.ofNat i<↑n)/\True/\True/\(!decide (B i<1))=false/\(!decide (B i<1)) =
 false/\(!decide (B i<1))=false/\(!decide (B i<1))=false/\(!decide (B i<1))=false/\(!decide (B i<1))=false/\decide (B i<1)=true/\Lf)
 :=by unfold LD LQ;kernel_rfl
theorem qX1_lq (n i:Nat) (B V:Nat->Int) (D:Nat->List Nat) (h0:decide (Int.ofNat i<Int.ofNat n)=true) (h1:decide (B i<1)=false) (h2:decide (79<B i) =
 true):LD Tryz.prog (loopAt Tryz.prog 35 0) 76 0 [(0,.sv 3 n (uF B V D)),(3,.i .i64 (Int.ofNat i))] [] (Orc.t (Orc.t (Orc.t (Orc.t (Orc.t (Orc.t (Orc.t (Orc.f (Orc.f
 (Orc.f (Orc.f (Orc.f (Orc.f (Orc.f (Orc.t (oc 21 Orc.z)))))))))))))))) .ret [] [(2,.b false)] [] 0 (fun Lf=>decide (Int.ofNat i<Int.ofNat n)=true/\(0<=Int.ofNat i/\
 Int.ofNat i<↑n)/\True/\True/\(!decide (B i<1))=true/\(!decide (B i<1))=true/\(!decide (B i<1))=true/\(0<=Int.ofNat i/\Int.ofNat i<↑n)/\(!decide (B i
 <1))=true/\True/\(!decide (B i<1))=true/\True/\(!decide (B i<1))=true/\decide (B i<1)=false/\(!decide (79<B i))=false/\(!decide (79<B i))=false
 /\(!decide (79<B i))=false/\(!decide (79<B i))=false/\(!decide (79<B i))=false/\(!decide (79<B i))=false/\decide (79<B i)=true/\Lf)
 :=by unfold LD LQ;kernel_rfl
theorem qX2_lq (n i:Nat) (B V:Nat->Int) (D:Nat->List Nat) (h0:decide (Int.ofNat i<Int.ofNat n)=true) (h1:decide (B i<1)=false) (h2:decide (79<B i) =
 false) (h3:decide (V i<1)=true):LD Tryz.prog (loopAt Tryz.prog 35 0) 76 0 [(0,.sv 3 n (uF B V D)),(3,.i .i64 (Int.ofNat i))] [] (Orc.t (Orc.t (Orc.t (Orc.t (Orc.t
 (Orc.t (Orc.t (Orc.f (Orc.t (Orc.t (Orc.t (Orc.t (Orc.t (Orc.t (Orc.f (Orc.f (Orc.f (Orc.f (Orc.f (Orc.f (Orc.f (Orc.t (oc 14 Orc.z))))))))))))))))))))))) .ret [] [(2,.b
 false)] [] 0 (fun Lf=>decide (Int.ofNat i<Int.ofNat n)=true/\(0<=Int.ofNat i/\Int.ofNat i<↑n)/\True/\True/\(!decide (B i<1))=true/\(!decide (B i<1)) =
 true/\(!decide (B i<1))=true/\(0<=Int.ofNat i/\Int.ofNat i<↑n)/\(!decide (B i<1))=true/\True/\(!decide (B i<1))=true/\True/\(!decide (B i<1))=true
 /\decide (B i<1)=false/\(!decide (79<B i))=true/\(!decide (79<B i))=true/\(!decide (79<B i))=true/\(0<=Int.ofNat i/\Int.ofNat i<↑n)/\(!decide (79<B
 i))=true/\True/\(!decide (79<B i))=true/\True/\(!decide (79<B i))=true/\decide (79<B i)=false/\(!decide (V i<1))=false/\(!decide (V i<1))=false/\
 (!decide (V i<1))=false/\(!decide (V i<1))=false/\(!decide (V i<1))=false/\(!decide (V i<1))=false/\decide (V i<1)=true/\Lf)
 :=by unfold LD LQ;kernel_rfl
theorem qX3_lq (n i:Nat) (B V:Nat->Int) (D:Nat->List Nat) (h0:decide (Int.ofNat i<Int.ofNat n)=true) (h1:decide (B i<1)=false) (h2:decide (79<B i) =
 false) (h3:decide (V i<1)=false) (h4:decide (1099511627776<V i)=true):LD Tryz.prog (loopAt Tryz.prog 35 0) 76 0 [(0,.sv 3 n (uF B V D)),(3,.i .i64 (Int.ofNat
 i))] [] (Orc.t (Orc.t (Orc.t (Orc.t (Orc.t (Orc.t (Orc.t (Orc.f (Orc.t (Orc.t (Orc.t (Orc.t (Orc.t (Orc.t (Orc.f (Orc.t (Orc.t (Orc.t (Orc.t (Orc.t (Orc.t (Orc.f (Orc.f
 (Orc.f (Orc.f (Orc.f (Orc.f (Orc.f (Orc.f (Orc.t (oc 6 Orc.z))))))))))))))))))))))))))))))) .ret [] [(2,.b false)] [] 0 (fun Lf=>decide (Int.ofNat i<Int.ofNat n)=true
 /\(0<=Int.ofNat i/\Int.ofNat i<↑n)/\True/\True/\(!decide (B i<1))=true/\(!decide (B i<1))=true/\(!decide (B i<1))=true/\(0<=Int.ofNat i/\Int.ofNat i <
 ↑n)/\(!decide (B i<1))=true/\True/\(!decide (B i<1))=true/\True/\(!decide (B i<1))=true/\decide (B i<1)=false/\(!decide (79<B i))=true/\(!decide
 (79<B i))=true/\(!decide (79<B i))=true/\(0<=Int.ofNat i/\Int.ofNat i<↑n)/\(!decide (79<B i))=true/\True/\(!decide (79<B i))=true/\True/\(!decide
 (79<B i))=true/\decide (79<B i)=false/\(!decide (V i<1))=true/\(!decide (V i<1))=true/\(!decide (V i<1))=true/\(0<=Int.ofNat i/\Int.ofNat i<↑n)/\
 (!decide (V i<1))=true/\True/\(!decide (V i<1))=true/\True/\(!decide (V i<1))=true/\decide (V i<1)=false/\(!decide (1099511627776<V i))=false/\
 (!decide (1099511627776<V i))=false/\(!decide (1099511627776<V i))=false/\(!decide (1099511627776<V i))=false/\(!decide (1099511627776<V i))=false/\
 (!decide (1099511627776<V i))=false/\(!decide (1099511627776<V i))=false/\decide (1099511627776<V i)=true/\Lf):=by unfold LD LQ;kernel_rfl
theorem qX4_lq (n i:Nat) (B V:Nat->Int) (D:Nat->List Nat) (h0:decide (Int.ofNat i<Int.ofNat n)=true) (h1:decide (B i<1)=false) (h2:decide (79<B i) =
 false) (h3:decide (V i<1)=false) (h4:decide (1099511627776<V i)=false) (h5:decide (38<Int.ofNat (List.length (D i)))=true):LD Tryz.prog (loopAt Tryz.prog
 35 0) 76 0 [(0,.sv 3 n (uF B V D)),(3,.i .i64 (Int.ofNat i))] [] (Orc.t (Orc.t (Orc.t (Orc.t (Orc.t (Orc.t (Orc.t (Orc.f (Orc.t (Orc.t (Orc.t (Orc.t (Orc.t (Orc.t (Orc.f
 (Orc.t (Orc.t (Orc.t (Orc.t (Orc.t (Orc.t (Orc.f (Orc.t (Orc.t (Orc.t (Orc.t (Orc.t (Orc.t (Orc.t (Orc.f (Orc.f (Orc.f (Orc.f (Orc.f (Orc.t (Orc.c
 Orc.z)))))))))))))))))))))))))))))))))))) .ret [] [(2,.b false)] [] 0 (fun Lf=>decide (Int.ofNat i<Int.ofNat n)=true/\(0<=Int.ofNat i/\Int.ofNat i<↑n)/\True/\
 True/\(!decide (B i<1))=true/\(!decide (B i<1))=true/\(!decide (B i<1))=true/\(0<=Int.ofNat i/\Int.ofNat i<↑n)/\(!decide (B i<1))=true/\True/\
 (!decide (B i<1))=true/\True/\(!decide (B i<1))=true/\decide (B i<1)=false/\(!decide (79<B i))=true/\(!decide (79<B i))=true/\(!decide (79<B i)) =
 true/\(0<=Int.ofNat i/\Int.ofNat i<↑n)/\(!decide (79<B i))=true/\True/\(!decide (79<B i))=true/\True/\(!decide (79<B i))=true/\decide (79<B i) =
 false/\(!decide (V i<1))=true/\(!decide (V i<1))=true/\(!decide (V i<1))=true/\(0<=Int.ofNat i/\Int.ofNat i<↑n)/\(!decide (V i<1))=true/\True/\
 (!decide (V i<1))=true/\True/\(!decide (V i<1))=true/\decide (V i<1)=false/\(!decide (1099511627776<V i))=true/\(!decide (1099511627776<V i))=true/\
 (!decide (1099511627776<V i))=true/\(0<=Int.ofNat i/\Int.ofNat i<↑n)/\(!decide (1099511627776<V i))=true/\True/\(!decide (1099511627776<V i))=true/\True
 /\(!decide (1099511627776<V i))=true/\(!decide (1099511627776<V i))=true/\decide (1099511627776<V i)=false/\(!decide (38<Int.ofNat (List.length (D i)))) =
 false/\(!decide (38<Int.ofNat (List.length (D i))))=false/\(!decide (38<Int.ofNat (List.length (D i))))=false/\(!decide (38<Int.ofNat (List.length (D i)))) =
 false/\decide (38<Int.ofNat (List.length (D i)))=true/\Lf):=by unfold LD LQ;kernel_rfl
theorem qX6_lq (n i:Nat) (B V:Nat->Int) (D:Nat->List Nat) (h0:decide (Int.ofNat i<Int.ofNat n)=true) (h1:decide (B i<1)=false) (h2:decide (79<B i) =
 false) (h3:decide (V i<1)=false) (h4:decide (1099511627776<V i)=false) (h5:decide (38<Int.ofNat (List.length (D i)))=false) (h6:decide (0<Int.ofNat i) =
 true) (h7:decide (B i<=B (Int.toNat (Int.ofNat i-1)))=true):LD Tryz.prog (loopAt Tryz.prog 35 0) 76 0 [(0,.sv 3 n (uF B V D)),(3,.i .i64 (Int.ofNat i))] [] (Orc.t
 (Orc.t (Orc.t (Orc.t (Orc.t (Orc.t (Orc.t (Orc.f (Orc.t (Orc.t (Orc.t (Orc.t (Orc.t (Orc.t (Orc.f (Orc.t (Orc.t (Orc.t (Orc.t (Orc.t (Orc.t (Orc.f (Orc.t (Orc.t (Orc.t (Orc.t
 (Orc.t (Orc.t (Orc.t (Orc.f (Orc.t (Orc.t (Orc.t (Orc.t (Orc.t (Orc.t (Orc.t (Orc.t (Orc.t (Orc.t (Orc.t (Orc.t (Orc.t (Orc.t (Orc.t (Orc.t (Orc.t (Orc.f (Orc.t
 Orc.z))))))))))))))))))))))))))))))))))))))))))))))))) .ret [] [(2,.b false)] [] 0 (fun Lf=>decide (Int.ofNat i<Int.ofNat n)=true/\(0<=Int.ofNat i/\Int.ofNat i <
 ↑n)/\True/\True/\(!decide (B i<1))=true/\(!decide (B i<1))=true/\(!decide (B i<1))=true/\(0<=Int.ofNat i/\Int.ofNat i<↑n)/\(!decide (B i<1))=true/\
 True/\(!decide (B i<1))=true/\True/\(!decide (B i<1))=true/\decide (B i<1)=false/\(!decide (79<B i))=true/\(!decide (79<B i))=true/\(!decide (79 <
 B i))=true/\(0<=Int.ofNat i/\Int.ofNat i<↑n)/\(!decide (79<B i))=true/\True/\(!decide (79<B i))=true/\True/\(!decide (79<B i))=true/\decide (79<B
 i)=false/\(!decide (V i<1))=true/\(!decide (V i<1))=true/\(!decide (V i<1))=true/\(0<=Int.ofNat i/\Int.ofNat i<↑n)/\(!decide (V i<1))=true/\True/\
 (!decide (V i<1))=true/\True/\(!decide (V i<1))=true/\decide (V i<1)=false/\(!decide (1099511627776<V i))=true/\(!decide (1099511627776<V i))=true/\
 (!decide (1099511627776<V i))=true/\(0<=Int.ofNat i/\Int.ofNat i<↑n)/\(!decide (1099511627776<V i))=true/\True/\(!decide (1099511627776<V i))=true/\True
 /\(!decide (1099511627776<V i))=true/\(!decide (1099511627776<V i))=true/\decide (1099511627776<V i)=false/\(!decide (38<Int.ofNat (List.length (D i)))) =
 true/\(!decide (38<Int.ofNat (List.length (D i))))=true/\(!decide (38<Int.ofNat (List.length (D i))))=true/\decide (0<Int.ofNat i)=true/\decide (0<Int.ofNat
 i)=true/\decide (0<Int.ofNat i)=true/\rg (Int.ofNat i-1)/\decide (0<Int.ofNat i)=true/\(0<=Int.ofNat i-1/\Int.ofNat i-(1:Int)<↑n)/\decide (0 <
 Int.ofNat i)=true/\True/\decide (0<Int.ofNat i)=true/\True/\decide (0<Int.ofNat i)=true/\decide (0<Int.ofNat i)=true/\decide (0<Int.ofNat i)=true/\(0
 <=Int.ofNat i/\Int.ofNat i<↑n)/\decide (0<Int.ofNat i)=true/\True/\decide (0<Int.ofNat i)=true/\True/\decide (0<Int.ofNat i)=true/\(!decide (38 <
 Int.ofNat (List.length (D i))))=true/\decide (0<Int.ofNat i)=true/\decide (38<Int.ofNat (List.length (D i)))=false/\decide (B i<=B (Int.toNat (Int.ofNat i -
 1)))=true/\Lf):=by unfold LD LQ;kernel_rfl
theorem qE_lq (n i:Nat) (B V:Nat->Int) (D:Nat->List Nat) (h0:decide (Int.ofNat i<Int.ofNat n)=false):LD Tryz.prog (loopAt Tryz.prog 35 0) 76 0 [(0,.sv 3 n (uF
 B V D)),(3,.i .i64 (Int.ofNat i))] [] (Orc.f Orc.z) (.exit 0) [] [(0,.sv 3 n (uF B V D))] [] 0 (fun Lf=>decide (Int.ofNat i<Int.ofNat n)=false/\Lf)
 :=by unfold LD LQ;kernel_rfl
theorem yR_lq (rl:Int->Nat) (rf:Int->Nat->Nat) (tl:List Nat->Nat) (tf:List Nat->Nat->Nat) (n i k:Nat) (B V:Nat->Int) (D:Nat->List Nat) (g:Nat->Nat) (h0
 :decide (Int.ofNat i<Int.ofNat n)=true):LD Tryz.prog (loopAt Tryz.prog 60 0) 40 0 [(0,.sv 3 n (uF B V D)),(3,.lr 0 1 0 k false),(4,.i .i64 (Int.ofNat i))] [some
 (.rows 5 1 k (byF g))] (Orc.t (Orc.cal [] (.sv 1 (rl (B i)) (byF (rf (B i)))) [] (Orc.cal [] (.sv 1 (rl (V i)) (byF (rf (V i)))) [] (Orc.cal [] (.sv 1 (tl (D i)) (byF (tf (D
 i)))) [] Orc.z)))) .nrm [3] [(0,.sv 3 n (uF B V D)),(3,.lr 0 1 0 (addN (addN (addN k (rl (B i))) (rl (V i))) (tl (D i))) false),(4,.i .i64 (Int.ofNat i+1))] [some
 (.rows 5 1 (addN (addN (addN k (rl (B i))) (rl (V i))) (tl (D i))) (appZ (addN (addN k (rl (B i))) (rl (V i))) (appZ (addN k (rl (B i))) (appZ k (byF g) (byF (rf (B i))))
 (byF (rf (V i)))) (byF (tf (D i)))))] 4 (fun Lf=>decide (Int.ofNat i<Int.ofNat n)=true/\(0<=Int.ofNat i/\Int.ofNat i<↑n)/\True/\True/\Con Tryz.prog 61 [.i .i64
 (B i)] [] (.sv 1 (rl (B i)) (byF (rf (B i)))) []/\(0+k<=k/\True/\k+rl (B i)<=140737488355328/\(3*(k+rl (B i))+1536)*1<=562949953421312)/\(0<=Int.ofNat i
 /\Int.ofNat i<↑n)/\True/\True/\Con Tryz.prog 61 [.i .i64 (V i)] [] (.sv 1 (rl (V i)) (byF (rf (V i)))) []/\(0+addN k (rl (B i))<=addN k (rl (B i))/\True/\addN k
 (rl (B i))+rl (V i)<=140737488355328/\(3*(addN k (rl (B i))+rl (V i))+1536)*1<=562949953421312)/\(0<=Int.ofNat i/\Int.ofNat i<↑n)/\True/\True/\Con
 Tryz.prog 96 [.s (D i)] [] (.sv 1 (tl (D i)) (byF (tf (D i)))) []/\(0+addN (addN k (rl (B i))) (rl (V i))<=addN (addN k (rl (B i))) (rl (V i))/\True/\addN (addN k (rl
 (B i))) (rl (V i))+tl (D i)<=140737488355328/\(3*(addN (addN k (rl (B i))) (rl (V i))+tl (D i))+1536)*1<=562949953421312)/\rg (Int.ofNat i+1)/\Lf)
 :=by unfold LD LQ;kernel_rfl
theorem yE_lq (n i k:Nat) (B V:Nat->Int) (D:Nat->List Nat) (g:Nat->Nat) (h0:decide (Int.ofNat i<Int.ofNat n)=false):LD Tryz.prog (loopAt Tryz.prog 60 0) 40 0
 [(0,.sv 3 n (uF B V D)),(3,.lr 0 1 0 k false),(4,.i .i64 (Int.ofNat i))] [some (.rows 5 1 k (byF g))] (Orc.f Orc.z) (.exit 0) [0] [(3,.lr 0 1 0 k false)] [some (.rows 5
 1 k (byF g))] 1 (fun Lf=>decide (Int.ofNat i<Int.ofNat n)=false/\Lf):=by unfold LD LQ;kernel_rfl
theorem sR_lq (L i k:Nat) (b g:Nat->Nat) (h0:decide (Int.ofNat i<Int.ofNat L)=true):LD Tryz.prog (loopAt Tryz.prog 97 0) 25 0 [(0,.sv 1 L (byF b)),(3,.lr 0 1 0
 k false),(4,.i .i64 (Int.ofNat i))] [some (.rows 5 1 k (byF g))] (Orc.t Orc.z) .nrm [2] [(0,.sv 1 L (byF b)),(3,.lr 0 1 0 (addN k 1) false),(4,.i .i64 (Int.ofNat i +
 1))] [some (.rows 5 1 (addN k 1) (appZ k (byF g) (listF 1 [.i .u8 (Int.ofNat (b i))] 1)))] 3 (fun Lf=>decide (Int.ofNat i<Int.ofNat L)=true/\(0<=Int.ofNat i/\
 Int.ofNat i<↑L)/\True/\(0+k<=k/\True/\k+1<=140737488355328/\(3*(k+1)+1536)*1<=562949953421312)/\rg (Int.ofNat i+1)/\Lf)
 :=by unfold LD LQ;kernel_rfl
theorem sE_lq (L i k:Nat) (b g:Nat->Nat) (h0:decide (Int.ofNat i<Int.ofNat L)=false):LD Tryz.prog (loopAt Tryz.prog 97 0) 25 0 [(0,.sv 1 L (byF b)),(3,.lr 0 1 0
 k false),(4,.i .i64 (Int.ofNat i))] [some (.rows 5 1 k (byF g))] (Orc.f Orc.z) (.exit 0) [0] [(0,.sv 1 L (byF b)),(3,.lr 0 1 0 k false)] [some (.rows 5 1 k (byF g))] 1
 (fun Lf=>decide (Int.ofNat i<Int.ofNat L)=false/\Lf):=by unfold LD LQ;kernel_rfl
theorem fR_lq (L0:Nat) (B0:Nat->Nat) (rl:Int->Nat) (rf:Int->Nat->Nat) (L i:Nat) (cnt:Int) (b:Nat->Nat) (G:Nat->List Nat) (h0:decide (Int.ofNat i<cnt)
 =true):LD Tryz.prog (loopAt Tryz.prog 36 0) 52 0 [(0,.i .i64 1),(5,.sv 1 L (byF b)),(6,.i .i64 cnt),(7,.lr 0 1 0 i false),(8,.i .i64 (Int.ofNat i))] [some (.rows
 9 1 i (fun j _=>.s (G j)))] (Orc.t (Orc.cal [] (.lr 0 1 0 L0 false) [.set (AObj.rows 5 1 L0 (byF B0))] (Orc.cal [] (.sv 1 (rl (Int.ofNat i)) (byF (rf (Int.ofNat i)))) []
 (Orc.cal [] (.sv 1 (rl cnt) (byF (rf cnt))) [] Orc.z)))) .nrm [6] [(0,.i .i64 1),(5,.sv 1 L (byF b)),(6,.i .i64 cnt),(7,.lr 0 1 0 (addN i 1) false),(8,.i .i64
 (Int.ofNat i+1))] [some (.rows 9 1 (addN i 1) (appZ i (fun j _=>.s (G j)) (listF 1 [.s (fxT L0 B0 rl rf L cnt b i)] 1)))] 7 (fun Lf=>decide (Int.ofNat i<cnt)=true/\
 Con Tryz.prog 61 [.i .i64 1] [] (.lr 0 1 0 L0 false) [.set (AObj.rows 5 1 L0 (byF B0))]/\Con Tryz.prog 61 [.i .i64 (Int.ofNat i)] [] (.sv 1 (rl (Int.ofNat i)) (byF (rf
 (Int.ofNat i)))) []/\(0+L0<=L0/\True/\L0+rl (Int.ofNat i)<=140737488355328/\(3*(L0+rl (Int.ofNat i))+1536)*1<=562949953421312)/\Con Tryz.prog 61 [.i .i64
 cnt] [] (.sv 1 (rl cnt) (byF (rf cnt))) []/\(0+addN L0 (rl (Int.ofNat i))<=addN L0 (rl (Int.ofNat i))/\True/\addN L0 (rl (Int.ofNat i))+rl cnt<=140737488355328/\(3
 *(addN L0 (rl (Int.ofNat i))+rl cnt)+1536)*1<=562949953421312)/\rg (Int.ofNat i+1)/\rg ((Int.ofNat i+1)*36)/\rg (Int.ofNat i*36)/\(0<=Int.ofNat i*36/\
 (0<=if Int.ofNat L<(Int.ofNat i+1)*36 then Int.ofNat L else (Int.ofNat i+1)*36)/\Int.toNat (Int.ofNat i*36)<=Int.toNat (if Int.ofNat L<(Int.ofNat i+1)*36
 then Int.ofNat L else (Int.ofNat i+1)*36)/\Int.toNat (if Int.ofNat L<(Int.ofNat i+1)*36 then Int.ofNat L else (Int.ofNat i+1)*36)<=L)/\(0+addN (addN L0 (rl
 (Int.ofNat i))) (rl cnt)<=addN (addN L0 (rl (Int.ofNat i))) (rl cnt)/\True/\addN (addN L0 (rl (Int.ofNat i))) (rl cnt)+(Int.toNat (if Int.ofNat L<(Int.ofNat i+1) *
 36 then Int.ofNat L else (Int.ofNat i+1)*36)-Int.toNat (Int.ofNat i*36))<=140737488355328/\(3*(addN (addN L0 (rl (Int.ofNat i))) (rl cnt)+(Int.toNat (if
 Int.ofNat L<(Int.ofNat i+1)*36 then Int.ofNat L else (Int.ofNat i+1)*36)-Int.toNat (Int.ofNat i*36)))+1536)*1<=562949953421312)/\(U8s (addN (addN (addN L0
 (rl (Int.ofNat i))) (rl cnt)) (Int.toNat (if Int.ofNat L<(Int.ofNat i+1)*36 then Int.ofNat L else (Int.ofNat i+1)*36)-Int.toNat (Int.ofNat i*36))) (appZ (addN
 (addN L0 (rl (Int.ofNat i))) (rl cnt)) (appZ (addN L0 (rl (Int.ofNat i))) (appZ L0 (byF B0) (byF (rf (Int.ofNat i)))) (byF (rf cnt))) (shiftF (Int.toNat (Int.ofNat i*36))
 (byF b)))/\0+addN (addN (addN L0 (rl (Int.ofNat i))) (rl cnt)) (Int.toNat (if Int.ofNat L<(Int.ofNat i+1)*36 then Int.ofNat L else (Int.ofNat i+1)*36) -
 Int.toNat (Int.ofNat i*36))<=addN (addN (addN L0 (rl (Int.ofNat i))) (rl cnt)) (Int.toNat (if Int.ofNat L<(Int.ofNat i+1)*36 then Int.ofNat L else (Int.ofNat i+1)
 *36)-Int.toNat (Int.ofNat i*36)))/\(0+i<=i/\True/\i+1<=140737488355328/\(3*(i+1)+1536)*16<=562949953421312)/\rg (Int.ofNat i+1)/\Lf)
 :=by unfold LD LQ;kernel_rfl
theorem fE_lq (L i:Nat) (cnt:Int) (b:Nat->Nat) (G:Nat->List Nat) (h0:decide (Int.ofNat i<cnt)=false):LD Tryz.prog (loopAt Tryz.prog 36 0) 52 0 [(0,.i .i64
 1),(5,.sv 1 L (byF b)),(6,.i .i64 cnt),(7,.lr 0 1 0 i false),(8,.i .i64 (Int.ofNat i))] [some (.rows 9 1 i (fun j _=>.s (G j)))] (Orc.f Orc.z) (.exit 0) [0] [(7,
 .lr 0 1 0 i false)] [some (.rows 9 1 i (fun j _=>.s (G j)))] 1 (fun Lf=>decide (Int.ofNat i<cnt)=false/\Lf):=by unfold LD LQ;kernel_rfl
theorem qR_li (n i:Nat) (B V:Nat->Int) (D:Nat->List Nat) (hn:n<=281474976710656) (hi:i<n) (hl:0<=lstB B i) (hp:pU B V D i=true):LI Tryz.prog (loopAt Tryz.prog 35 0) 76 0 [(0,.sv 3 n (uF B V D)),(3,.i .i64 (Int.ofNat i))] [] .nrm [(0,.sv 3 n (uF B V D)),(3,.i .i64 (Int.ofNat i+1))] []:=by
 have h1:decide (Int.ofNat i<Int.ofNat n)=true:=decide_eq_true (by simp;omega)
 have bi:(0:Int)<=Int.ofNat i/\Int.ofNat i<(↑n:Int):=⟨by simp,by simp;omega⟩
 have ri:rg (Int.ofNat i+1):=⟨by simp<;>omega,by simp<;>omega⟩
 unfold pU at hp
 simp only [Bool.and_eq_true,Bool.not_eq_true'] at hp
 obtain ⟨p1,p2,p3⟩:=hp
 have a:=wq_le p1
 have v:=wq_le p2
 have b0:decide (B i<1)=false:=decide_eq_false (by omega)
 have b1:decide (79<B i)=false:=decide_eq_false (by omega)
 have b2:decide (V i<1)=false:=decide_eq_false (by omega)
 have b3:decide (1099511627776<V i)=false:=decide_eq_false (by omega)
 cases i with
 | zero=>
   have d:decide ((0:Int)<Int.ofNat 0)=false:=by decide
   exact li_of (qR0_lq n 0 B V D h1 b0 b1 b2 b3 p3 d) (by repeat' first | exact trivial | assumption | exact nT (by assumption) | exact nF (by assumption) | exact nnT (by assumption) | exact nnF (by assumption) | exact rfl | apply And.intro | decide)
 | succ i=>
   have d:decide ((0:Int)<Int.ofNat (i+1))=true:=decide_eq_true (by simp<;>omega)
   have bj:(0:Int)<=Int.ofNat (i+1)-1/\Int.ofNat (i+1)-1<(↑n:Int):=⟨by simp<;>omega,by simp<;>omega⟩
   have rj:rg (Int.ofNat (i+1)-1):=⟨by simp<;>omega,by simp<;>omega⟩
   have f:decide (B (i+1)<=B (Int.toNat (Int.ofNat (i+1)-1)))=false:=by
    rw [ls_natI]
    have:lstB B (i+1)=B i:=rfl
    exact decide_eq_false (by omega)
   exact li_of (qR1_lq n (i+1) B V D h1 b0 b1 b2 b3 p3 d f) (by repeat' first | exact trivial | assumption | exact nT (by assumption) | exact nF (by assumption) | exact nnT (by assumption) | exact nnF (by assumption) | exact rfl | apply And.intro | decide)
theorem qX_li (n i:Nat) (B V:Nat->Int) (D:Nat->List Nat) (hn:n<=281474976710656) (hi:i<n) (hl:0<=lstB B i) (hp:pU B V D i=false):LI Tryz.prog (loopAt Tryz.prog 35 0) 76 0 [(0,.sv 3 n (uF B V D)),(3,.i .i64 (Int.ofNat i))] [] .ret [(2,.b false)] []:=by
 have h1:decide (Int.ofNat i<Int.ofNat n)=true:=decide_eq_true (by simp;omega)
 have bi:(0:Int)<=Int.ofNat i/\Int.ofNat i<(↑n:Int):=⟨by simp,by simp;omega⟩
 cases b0:decide (B i<1) with
 | true=>exact li_of (qX0_lq n i B V D h1 b0) (by repeat' first | exact trivial | assumption | exact nT (by assumption) | exact nF (by assumption) | exact nnT (by assumption) | exact nnF (by assumption) | exact rfl | apply And.intro | decide)
 | false=>
 cases b1:decide (79<B i) with
 | true=>exact li_of (qX1_lq n i B V D h1 b0 b1) (by repeat' first | exact trivial | assumption | exact nT (by assumption) | exact nF (by assumption) | exact nnT (by assumption) | exact nnF (by assumption) | exact rfl | apply And.intro | decide)
 | false=>
 cases b2:decide (V i<1) with
 | true=>exact li_of (qX2_lq n i B V D h1 b0 b1 b2) (by repeat' first | exact trivial | assumption | exact nT (by assumption) | exact nF (by assumption) | exact nnT (by assumption) | exact nnF (by assumption) | exact rfl | apply And.intro | decide)
 | false=>
 cases b3:decide (1099511627776<V i) with
 | true=>exact li_of (qX3_lq n i B V D h1 b0 b1 b2 b3) (by repeat' first | exact trivial | assumption | exact nT (by assumption) | exact nF (by assumption) | exact nnT (by assumption) | exact nnF (by assumption) | exact rfl | apply And.intro | decide)
 | false=>
 cases b4:decide (38<Int.ofNat (List.length (D i))) with
 | true=>exact li_of (qX4_lq n i B V D h1 b0 b1 b2 b3 b4) (by repeat' first | exact trivial | assumption | exact nT (by assumption) | exact nF (by assumption) | exact nnT (by assumption) | exact nnF (by assumption) | exact rfl | apply And.intro | decide)
 | false=>
   have c0:=of_decide_eq_false b0
   have c1:=of_decide_eq_false b1
   have c2:=of_decide_eq_false b2
   have c3:=of_decide_eq_false b3
   unfold pU wq at hp
   rw [decide_eq_true (show B i<=79 by omega),decide_eq_true (show 1<=V i by omega),decide_eq_true (show V i<=1099511627776 by omega),b4] at hp
   simp only [Bool.and_true,Bool.not_false,decide_eq_false_iff_not] at hp
   cases i with
   | zero=>exact absurd (show (0:Int)+1<=B 0 by omega) hp
   | succ i=>
     have d:decide ((0:Int)<Int.ofNat (i+1))=true:=decide_eq_true (by simp<;>omega)
     have bj:(0:Int)<=Int.ofNat (i+1)-1/\Int.ofNat (i+1)-1<(↑n:Int):=⟨by simp<;>omega,by simp<;>omega⟩
     have rj:rg (Int.ofNat (i+1)-1):=⟨by simp<;>omega,by simp<;>omega⟩
     have f:decide (B (i+1)<=B (Int.toNat (Int.ofNat (i+1)-1)))=true:=by
      rw [ls_natI]
      have:lstB B (i+1)=B i:=rfl
      exact decide_eq_true (by omega)
     exact li_of (qX6_lq n (i+1) B V D h1 b0 b1 b2 b3 b4 d f) (by repeat' first | exact trivial | assumption | exact nT (by assumption) | exact nF (by assumption) | exact nnT (by assumption) | exact nnF (by assumption) | exact rfl | apply And.intro | decide)
theorem q_lp (n:Nat) (B V:Nat->Int) (D:Nat->List Nat) (hn:n<=281474976710656) (h:alB (pU B V D) n=true):LDoes Tryz.prog (loopAt Tryz.prog 35 0) 76 0 (mkT [(0,.sv 3 n (uF B V D)),(3,.i .i64 0)]) [] (.exit 0) (mkT [(0,.sv 3 n (uF B V D))]) []:=by
 refine loop_q (fun i:Nat=>([(0,.sv 3 n (uF B V D)),(3,.i .i64 (Int.ofNat i))],[])) (fun i=>n-i) (fun i=>i<=n) (fun _=>Nat.le_refl _) ?_ 0 (Nat.zero_le _)
 intro i hi
 rcases Nat.lt_or_ge i n with hlt | q
 · have q:=lst_le (i:=i) fun j hj=>alB_t h j (by omega)
   have z:=ii0 i
   exact ri_nrm (qR_li n i B V D hn hlt (by omega) (alB_t h i hlt)) (i+1) hlt (by show n-(i+1)<n-i;omega) rfl (.refl _) (.refl _)
 · obtain rfl:i=n:=Nat.le_antisymm hi q
   have h1:decide (Int.ofNat i<Int.ofNat i)=false:=decide_eq_false (by simp)
   exact rd_out (qE_lq i i B V D h1) ⟨h1,rfl⟩ rfl rfl (.refl _) (.refl _)
theorem qX_lp (n:Nat) (B V:Nat->Int) (D:Nat->List Nat) (hn:n<=281474976710656) (h:alB (pU B V D) n=false):LDoes Tryz.prog (loopAt Tryz.prog 35 0) 76 0 (mkT [(0,.sv 3 n (uF B V D)),(3,.i .i64 0)]) [] .ret (mkT [(2,.b false)]) []:=by
 obtain ⟨j,hj,hb,hg⟩:=alB_f h
 refine loop_q (fun i:Nat=>([(0,.sv 3 n (uF B V D)),(3,.i .i64 (Int.ofNat i))],[])) (fun i=>n-i) (fun i=>i<=j) (fun _=>Nat.le_refl _) ?_ 0 (Nat.zero_le _)
 intro i hi
 have r:=lst_le (i:=i) fun k hk=>hg k (by omega)
 have z:=ii0 i
 rcases Nat.lt_or_ge i j with q | q
 · exact ri_nrm (qR_li n i B V D hn (by omega) (by omega) (hg i q)) (i+1) q (by show n-(i+1)<n-i;omega) rfl (.refl _) (.refl _)
 · obtain rfl:i=j:=by omega
   exact ri_out (qX_li n i B V D hn hj (by omega) hb) rfl rfl (.refl _) (.refl _)
theorem rcF0_vq (n:Nat) (B V:Nat->Int) (D:Nat->List Nat):VD Tryz.prog 35 [.sv 3 n (uF B V D)] [] (Orc.lop [] [0,3] 0 XO.ret [(2,.b false)] [] Orc.z) (.b false) []
 [] 0 (fun Lf=>LDoes Tryz.prog (loopAt Tryz.prog 35 0) 76 0 (mkT [(0,.sv 3 n (uF B V D)),(3,.i .i64 0)]) [] XO.ret (mkT [(2,.b false)]) []/\Lf)
 :=by unfold VD VQ;kernel_rfl
theorem rcF_con (n:Nat) (B V:Nat->Int) (D:Nat->List Nat) (hn:n<=281474976710656) (ha:alB (pU B V D) n=false):Con Tryz.prog 35 [.sv 3 n (uF B V D)] [] (.b false) []:=by
 exact con_d (rcF0_vq (n:=n) (B:=B) (V:=V) (D:=D)) (by repeat' first | exact trivial | assumption | exact rfl | exact nT (by assumption) | exact nF (by assumption) | exact qX_lp n B V D hn ha | apply And.intro | decide)
theorem rcZ0_vq (n:Nat) (B V:Nat->Int) (D:Nat->List Nat) (h0:decide (Int.ofNat n=0)=true):VD Tryz.prog 35 [.sv 3 n (uF B V D)] [] (Orc.lop [] [0,3] 0 (XO.exit
 0) [(0,.sv 3 n (uF B V D))] [] (Orc.t Orc.z)) (.b false) [] [] 0 (fun Lf=>LDoes Tryz.prog (loopAt Tryz.prog 35 0) 76 0 (mkT [(0,.sv 3 n (uF B V D)),(3,.i .i64 0)]) []
 (XO.exit 0) (mkT [(0,.sv 3 n (uF B V D))]) []/\decide (Int.ofNat n=0)=true/\Lf):=by unfold VD VQ;kernel_rfl
theorem rcZ_con (n:Nat) (B V:Nat->Int) (D:Nat->List Nat) (h0:decide (Int.ofNat n=0)=true) (hn:n<=281474976710656) (ha:alB (pU B V D) n=true):Con Tryz.prog 35 [.sv 3 n (uF B V D)] [] (.b false) []:=by
 exact con_d (rcZ0_vq (n:=n) (B:=B) (V:=V) (D:=D) (h0:=h0)) (by repeat' first | exact trivial | assumption | exact rfl | exact nT (by assumption) | exact nF (by assumption) | exact q_lp n B V D hn ha | apply And.intro | decide)
theorem rcN0_vq (L0:Nat) (B0:Nat->Nat) (n:Nat) (B V:Nat->Int) (D:Nat->List Nat) (h0:decide (Int.ofNat n=0)=false):VD Tryz.prog 35 [.sv 3 n (uF B V D)] []
 (Orc.lop [] [0,3] 0 (XO.exit 0) [(0,.sv 3 n (uF B V D))] [] (Orc.f (Orc.cal [] (.sv 1 L0 (byF B0)) [] Orc.z))) (.b (decide (Int.ofNat L0<=540))) [] [] 0 (fun Lf=>LDoes
 Tryz.prog (loopAt Tryz.prog 35 0) 76 0 (mkT [(0,.sv 3 n (uF B V D)),(3,.i .i64 0)]) [] (XO.exit 0) (mkT [(0,.sv 3 n (uF B V D))]) []/\decide (Int.ofNat n=0)=false/\
 Con Tryz.prog 60 [.sv 3 n (uF B V D)] [] (.sv 1 L0 (byF B0)) []/\Lf):=by unfold VD VQ;kernel_rfl
theorem rcN_con (n:Nat) (B V:Nat->Int) (D:Nat->List Nat) (h0:decide (Int.ofNat n=0)=false) (L0:Nat) (B0:Nat->Nat) (hn:n<=281474976710656) (ha:alB (pU B V D) n=true) (kby:Con Tryz.prog 60 [.sv 3 n (uF B V D)] [] (.sv 1 L0 (byF B0)) []):Con Tryz.prog 35 [.sv 3 n (uF B V D)] [] (.b (decide (Int.ofNat L0<=540))) []:=by
 exact con_d (rcN0_vq (L0:=L0) (B0:=B0) (n:=n) (B:=B) (V:=V) (D:=D) (h0:=h0)) (by repeat' first | exact trivial | assumption | exact rfl | exact nT (by assumption) | exact nF (by assumption) | exact q_lp n B V D hn ha | assumption | apply And.intro | decide)
theorem byO0_vq (L0:Nat) (L2:Nat) (B0:Nat->Nat) (B2:Nat->Nat) (KK:Nat) (HH:Nat->Nat) (n:Nat) (B V:Nat->Int) (D:Nat->List Nat):VD Tryz.prog 60 [.sv 3 n
 (uF B V D)] [] (Orc.cal [] (.lr 0 1 0 L0 false) [.set (AObj.rows 5 1 L0 (byF B0))] (Orc.lop [0] [0,3,4] 0 (XO.exit 0) [(3,.lr 0 1 0 KK false)] [some (AObj.rows 5 1 KK (byF
 HH))] (Orc.cal [1] (.sv 1 L2 (byF B2)) [.gone] Orc.z))) (.sv 1 L2 (byF B2)) [] [] 2 (fun Lf=>Con Tryz.prog 61 [.i .i64 (Int.ofNat n)] [] (.lr 0 1 0 L0 false) [.set
 (AObj.rows 5 1 L0 (byF B0))]/\LDoes Tryz.prog (loopAt Tryz.prog 60 0) 40 0 (mkT [(0,.sv 3 n (uF B V D)),(3,.lr 0 1 0 L0 false),(4,.i .i64 0)]) [some (AObj.rows 5 1 L0
 (byF B0))] (XO.exit 0) (mkT [(3,.lr 0 1 0 KK false)]) [some (AObj.rows 5 1 KK (byF HH))]/\Con Tryz.prog 97 [.lr 0 1 0 KK false] [some (AObj.rows 5 1 KK (byF HH))] (.sv 1 L2
 (byF B2)) [.gone]/\Lf):=by unfold VD VQ;kernel_rfl
theorem byO_con (n:Nat) (B V:Nat->Int) (D:Nat->List Nat) (L0 L2 KK:Nat) (B0 B2 HH:Nat->Nat) (kr0:Con Tryz.prog 61 [.i .i64 (Int.ofNat n)] [] (.lr 0 1 0 L0 false) [.set (.rows 5 1 L0 (byF B0))]) (kyl:LDoes Tryz.prog (loopAt Tryz.prog 60 0) 40 0 (mkT [(0,.sv 3 n (uF B V D)),(3,.lr 0 1 0 L0 false),(4,.i .i64 0)]) [some (.rows 5 1 L0 (byF B0))] (.exit 0) (mkT [(3,.lr 0 1 0 KK false)]) [some (.rows 5 1 KK (byF HH))]) (krsR:Con Tryz.prog 97 [.lr 0 1 0 KK false] [some (.rows 5 1 KK (byF HH))] (.sv 1 L2 (byF B2)) [.gone]):Con Tryz.prog 60 [.sv 3 n (uF B V D)] [] (.sv 1 L2 (byF B2)) []:=by
 exact con_d (byO0_vq (L0:=L0) (L2:=L2) (B0:=B0) (B2:=B2) (KK:=KK) (HH:=HH) (n:=n) (B:=B) (V:=V) (D:=D)) (by repeat' first | exact trivial | assumption | exact rfl | exact nT (by assumption) | exact nF (by assumption) | assumption | assumption | assumption | apply And.intro | decide)
theorem slO0_fq (b4:Nat->Nat) (KK:Nat) (HH:Nat->Nat) (SU:Nat) (L:Nat) (b:Nat->Nat):VF Tryz.prog 97 [.sv 1 L (byF b)] [] (Orc.lop [] [0,3,4] 0 (XO.exit 0)
 [(0,.sv 1 L (byF b)),(3,.lr 0 1 0 KK false)] [some (AObj.rows 5 1 KK (byF HH))] (Orc.cal [] (.i .u32 (Int.ofNat SU)) [] (Orc.cal [] (.lr 0 1 0 4 false) [.set (AObj.rows 5
 1 4 (byF b4))] Orc.z))) (.sv 1 (addN KK 4) (shiftF 0 (appZ KK (byF HH) (byF b4)))) [] [2] [] ((1=1/\0+addN KK 4<=addN KK 4)/\True) 3 (fun Lf=>LDoes Tryz.prog (loopAt
 Tryz.prog 97 0) 25 0 (mkT [(0,.sv 1 L (byF b)),(3,.l0),(4,.i .i64 0)]) [] (XO.exit 0) (mkT [(0,.sv 1 L (byF b)),(3,.lr 0 1 0 KK false)]) [some (AObj.rows 5 1 KK (byF
 HH))]/\Con Tryz.prog 124 [.sv 1 L (byF b)] [] (.i .u32 (Int.ofNat SU)) []/\Con Tryz.prog 125 [.i .u32 (Int.ofNat SU)] [] (.lr 0 1 0 4 false) [.set (AObj.rows 5 1 4 (byF
 b4))]/\(0+KK<=KK/\4<=4/\KK+4<=140737488355328/\(3*(KK+4)+1536)*1<=562949953421312)/\Lf):=by unfold VF;kernel_rfl
theorem slO_con (L:Nat) (b:Nat->Nat) (KK SU:Nat) (HH b4:Nat->Nat) (hK:KK<=1000000) (ksl:LDoes Tryz.prog (loopAt Tryz.prog 97 0) 25 0 (mkT [(0,.sv 1 L (byF b)),(3,.l0),(4,.i .i64 0)]) [] (.exit 0) (mkT [(0,.sv 1 L (byF b)),(3,.lr 0 1 0 KK false)]) [some (.rows 5 1 KK (byF HH))]) (ksum:Con Tryz.prog 124 [.sv 1 L (byF b)] [] (.i .u32 (Int.ofNat SU)) []) (kfo:Con Tryz.prog 125 [.i .u32 (Int.ofNat SU)] [] (.lr 0 1 0 4 false) [.set (.rows 5 1 4 (byF b4))]):Con Tryz.prog 97 [.sv 1 L (byF b)] [] (.sv 1 (addN KK 4) (shiftF 0 (appZ KK (byF HH) (byF b4)))) []:=by
 exact con_f (slO0_fq (b4:=b4) (KK:=KK) (HH:=HH) (SU:=SU) (L:=L) (b:=b)) ⟨⟨rfl,by simp⟩,trivial⟩ (by repeat' first | exact trivial | assumption | exact rfl | exact nT (by assumption) | exact nF (by assumption) | assumption | assumption | assumption | (simp;omega) | omega | apply And.intro | decide)
theorem frO0_vq (L0:Nat) (B0:Nat->Nat) (KK:Nat) (G:Nat->List Nat) (n:Nat) (B V:Nat->Int) (D:Nat->List Nat):VD Tryz.prog 36 [.i .i64 1,.sv 3 n (uF B V D)]
 [] (Orc.cal [] (.sv 1 L0 (byF B0)) [] (Orc.lop [] [0,5,6,7,8] 0 (XO.exit 0) [(7,.lr 0 1 0 KK false)] [some (AObj.rows 9 1 KK fun j x=>CV.s (G j))] Orc.z)) (.lr 0 1 0
 KK false) [.set (.rows 9 1 KK (fun j _=>.s (G j)))] [0] 1 (fun Lf=>Con Tryz.prog 60 [.sv 3 n (uF B V D)] [] (.sv 1 L0 (byF B0)) []/\rg (Int.ofNat L0+36)/\rg
 (Int.ofNat L0+(36:Int)-(1:Int))/\((36:Int)≠(0:Int)/\(-9223372036854775808)<=Int.tdiv (Int.ofNat L0+(36:Int)-(1:Int)) 36/\Int.tdiv (Int.ofNat L0 +
 (36:Int)-(1:Int)) (36:Int)<=(9223372036854775807:Int))/\LDoes Tryz.prog (loopAt Tryz.prog 36 0) 52 0 (mkT [(0,.i .i64 1),(5,.sv 1 L0 (byF B0)),(6,.i .i64
 (Int.tdiv (Int.ofNat L0+(36:Int)-(1:Int)) 36)),(7,.l0),(8,.i .i64 0)]) [] (XO.exit 0) (mkT [(7,.lr 0 1 0 KK false)]) [some (AObj.rows 9 1 KK fun j x=>CV.s (G
 j))]/\Lf):=by unfold VD VQ;kernel_rfl
theorem frO_con (n:Nat) (B V:Nat->Int) (D:Nat->List Nat) (L0 KK:Nat) (B0:Nat->Nat) (G:Nat->List Nat) (hL:L0<=1000000) (kby:Con Tryz.prog 60 [.sv 3 n (uF B V D)] [] (.sv 1 L0 (byF B0)) []) (kfl:LDoes Tryz.prog (loopAt Tryz.prog 36 0) 52 0 (mkT [(0,.i .i64 1),(5,.sv 1 L0 (byF B0)),(6,.i .i64 (Int.tdiv (Int.ofNat L0+36-1) 36)),(7,.l0),(8,.i .i64 0)]) [] (.exit 0) (mkT [(7,.lr 0 1 0 KK false)]) [some (.rows 9 1 KK (fun j _=>.s (G j)))]):Con Tryz.prog 36 [.i .i64 1,.sv 3 n (uF B V D)] [] (.lr 0 1 0 KK false) [.set (.rows 9 1 KK (fun j _=>.s (G j)))]:=by
 have hz:0<=Int.tdiv (Int.ofNat L0+36-1) 36/\Int.tdiv (Int.ofNat L0+36-1) 36<=1000036:=tdN_bd hL
 exact con_d (frO0_vq (L0:=L0) (B0:=B0) (KK:=KK) (G:=G) (n:=n) (B:=B) (V:=V) (D:=D)) (by repeat' first | exact trivial | assumption | exact rfl | exact nT (by assumption) | exact nF (by assumption) | assumption | assumption | (unfold rg;simp;omega) | (unfold rg;omega) | omega | apply And.intro | decide)
theorem rwF0_vq (rb:Bool) (n:Nat) (B V:Nat->Int) (D:Nat->List Nat) (h0:rb=false):VD Tryz.prog 17 [.sv 3 n (uF B V D)] [] (Orc.cal [] (.b rb) [] (Orc.t Orc.z))
 (.tup [.i .i64 0,.i .i64 2]) [] [] 0 (fun Lf=>Con Tryz.prog 35 [.sv 3 n (uF B V D)] [] (.b rb) []/\True/\(!rb)=true/\Lf):=by unfold VD VQ;kernel_rfl
theorem rwF_con (n:Nat) (B V:Nat->Int) (D:Nat->List Nat) (rb:Bool) (h0:rb=false) (krec:Con Tryz.prog 35 [.sv 3 n (uF B V D)] [] (.b rb) []):Con Tryz.prog 17 [.sv 3 n (uF B V D)] [] (.tup [.i .i64 0,.i .i64 2]) []:=by
 exact con_d (rwF0_vq (rb:=rb) (n:=n) (B:=B) (V:=V) (D:=D) (h0:=h0)) (by repeat' first | exact trivial | assumption | exact rfl | exact nT (by assumption) | exact nF (by assumption) | assumption | apply And.intro | decide)
theorem rwT0_pq (KK:Nat) (rb:Bool) (G:Nat->List Nat) (n:Nat) (B V:Nat->Int) (D:Nat->List Nat) (h0:rb=true):VP Tryz.prog 17 [.sv 3 n (uF B V D)] (Orc.cal []
 (.b rb) [] (Orc.f (Orc.cal [] (.lr 0 1 0 KK false) [.set (AObj.rows 9 1 KK fun j x=>CV.s (G j))] Orc.z))) (.tup [.i .i64 (Int.ofNat KK),.i .i64 0]) (fun Lf=>Con
 Tryz.prog 35 [.sv 3 n (uF B V D)] [] (.b rb) []/\True/\(!rb)=false/\Con Tryz.prog 36 [.i .i64 1,.sv 3 n (uF B V D)] [] (.lr 0 1 0 KK false) [.set (AObj.rows 9 1 KK fun
 j x=>CV.s (G j))]/\(@Eq AV (.tup [.i .i64 (Int.ofNat KK),.i .i64 0]) (.tup [.i .i64 (Int.ofNat KK),.i .i64 0]))):=by unfold VP;kernel_rfl
theorem rwT_con (n:Nat) (B V:Nat->Int) (D:Nat->List Nat) (rb:Bool) (KK:Nat) (G:Nat->List Nat) (h0:rb=true) (krec:Con Tryz.prog 35 [.sv 3 n (uF B V D)] [] (.b rb) []) (kfrm:Con Tryz.prog 36 [.i .i64 1,.sv 3 n (uF B V D)] [] (.lr 0 1 0 KK false) [.set (.rows 9 1 KK (fun j _=>.s (G j)))]):Con Tryz.prog 17 [.sv 3 n (uF B V D)] [] (.tup [.i .i64 (Int.ofNat KK),.i .i64 0]) []:=by
 exact con_p rfl (rwT0_pq (KK:=KK) (rb:=rb) (G:=G) (n:=n) (B:=B) (V:=V) (D:=D) (h0:=h0)) (⟨krec,trivial,nT h0,kfrm,rfl⟩)
noncomputable def lyB:Code:=rfBody Tryz.prog 32 0
theorem td_bd {t:List Nat} (h:t.length<=1000000):0<=Int.tdiv (Int.ofNat (List.length t)+36-1) 36/\Int.tdiv (Int.ofNat (List.length t)+36-1) 36<=1000036:=by
 have e:Int.tdiv (Int.ofNat (List.length t)+36-1) 36=Int.ofNat ((t.length+35) / 36):=by
  rw [show Int.ofNat t.length+(36:Int)-(1:Int)=Int.ofNat (t.length+35) from by simp;omega];exact Eq.refl _
 rw [e]
 have h2:(t.length+35) / 36<=1000036:=Nat.le_trans (Nat.div_le_self (t.length+35) 36) (by omega)
 exact ⟨Int.natCast_nonneg _,Int.ofNat_le.2 h2⟩
theorem gR_lq (c:CS) (s:SS) (cc:CS) (ss:SS) (ow:Int) (wr:Int) (gn:Int) (ft:List Nat) (a0:Int) (i0:Int) (cnt:Int) (rc:List Nat) (h0:decide (i0<cnt) =
 true):LD Tryz.prog (loopAt Tryz.prog 89 0) 34 13 [(0,.yf 12),(1,.p 11 0),(2,.p 10 0),(4,.i .i64 cnt),(9,.i .i64 cnt),(10,.i .i64 i0)] [some chO,some nsO,some
 noO,some s.o,some (r3O c false),some (lgO ow wr gn 1 0 0 []),some (cellsO 31 [.p 5 0]),some (cellsO 28 [.i .i64 1,.sv 1 1 (listF 1 [.i .i64 0] 1),.sv 1 1 (listF 1 [.i
 .i64 1] 1)]),some (.cells 23 1 [.i .i64 0] .e),some (cellsD 3 [.i .i64 0] [.i .i64 a0]),some (cellsO 3 [.i .i64 1]),some (cellsO 9 [.s rc]),some (lpO Tryz.prog 32 0 0 36
 [(0,.p 5 0),(1,cfA),(2,.s rc),(3,.p 6 0),(4,.p 7 0),(6,.p 8 0),(7,.p 9 0),(10,.p 5 0),(11,.p 5 0),(12,.p 5 1),(13,.i .i64 ow),(14,.i .i64 (80+16 *
 ow)),(15,.i .i64 (80+16*ow+1)),(16,.p 5 0),(17,.p 5 0),(18,.p 5 6),(19,.i .i64 0),(20,.i .i64 (80+16*ow+1+0)),(21,.p 5 0),(22,.i .i64 1),(23,
 .s rc),(24,.fn (.func 89) [] [.p 11 0,.p 10 0])])] (Orc.t (Orc.cal [13] (.s ft) [.keep] (Orc.inl (Orc.cal [0,1,2,3,4] (.i .i64 0) [.keep,.keep,.keep,.set (SS.o ss),
 .set (r3O cc false)] (oc 2 Orc.z))))) .nrm [0,1,2,3,4,5,6,7,8,9,10,11,12] [(0,.yf 12),(1,.p 11 0),(2,.p 10 0),(4,.i .i64 cnt),(9,.i .i64 cnt),(10,.i
 .i64 (i0+1))] [some chO,some nsO,some noO,some ss.o,some (r3O cc false),some (lgO ow wr gn 1 0 0 []),some (cellsO 31 [.p 5 0]),some (cellsO 28 [.i .i64 1,.sv 1 1
 (listF 1 [.i .i64 0] 1),.sv 1 1 (listF 1 [.i .i64 1] 1)]),some (.cells 23 1 [.i .i64 0] .e),some (cellsD 3 [.i .i64 0] [.i .i64 (a0+1)]),some (cellsO 3 [.i .i64 1]),
 some (cellsO 9 [.s rc]),some (lpO Tryz.prog 32 0 0 36 [(0,.p 5 0),(1,cfA),(2,.s rc),(3,.p 6 0),(4,.p 7 0),(6,.p 8 0),(7,.p 9 0),(10,.p 5 0),(11,.p 5 0),
 (12,.p 5 1),(13,.i .i64 ow),(14,.i .i64 (80+16*ow)),(15,.i .i64 (80+16*ow+1)),(16,.p 5 0),(17,.p 5 0),(18,.p 5 6),(19,.i .i64 0),(20,.i .i64 (80 +
 16*ow+1+0)),(21,.p 5 0),(22,.i .i64 1),(23,.s rc),(24,.fn (.func 89) [] [.p 11 0,.p 10 0])])] 15 (fun Lf=>decide (i0<cnt)=true/\rg (i0*36)/\rg (i0 +
 1)/\rg ((i0+1)*36)/\(0<=i0*36/\(0<=if Int.ofNat (List.length rc)<(i0+1)*36 then Int.ofNat (List.length rc) else (i0+1)*36)/\Int.toNat (i0*36)<=
 Int.toNat (if Int.ofNat (List.length rc)<(i0+1)*36 then Int.ofNat (List.length rc) else (i0+1)*36)/\Int.toNat (if Int.ofNat (List.length rc)<(i0+1)*36 then
 Int.ofNat (List.length rc) else (i0+1)*36)<=List.length rc)/\Con Tryz.prog 34 [.l 0 0 3 3 1 true] [some (cellsO 3 [.i .i64 1,.i .i64 i0,.i .i64 cnt])] (.s ft) [.keep]
 /\List.length ft+List.length (List.take (Int.toNat (if Int.ofNat (List.length rc)<(i0+1)*36 then Int.ofNat (List.length rc) else (i0+1)*36)-Int.toNat (i0*36))
 (List.drop (Int.toNat (i0*36)) rc))<=1073741824/\True/\True/\True/\Con Tryz.prog 59 [.p 0 0,cfA,.i .i64 a0,.s (ft ++ List.take (Int.toNat (if Int.ofNat (List.length
 rc)<(i0+1)*36 then Int.ofNat (List.length rc) else (i0+1)*36)-Int.toNat (i0*36)) (List.drop (Int.toNat (i0*36)) rc)),.i .i64 wr,.i .i64 gn] [some chO,some
 nsO,some noO,some (SS.o s),some (r3O c false)] (.i .i64 0) [.keep,.keep,.keep,.set (SS.o ss),.set (r3O cc false)]/\rg (a0+1)/\True/\rg (i0+1)/\Lf)
 :=by unfold LD LQ;kernel_rfl
theorem gE_lq (c:CS) (s:SS) (ow:Int) (wr:Int) (gn:Int) (a0:Int) (i0:Int) (cnt:Int) (rc:List Nat) (h0:decide (i0<cnt)=false):LD Tryz.prog (loopAt
 Tryz.prog 89 0) 34 13 [(0,.yf 12),(1,.p 11 0),(2,.p 10 0),(4,.i .i64 cnt),(9,.i .i64 cnt),(10,.i .i64 i0)] [some chO,some nsO,some noO,some s.o,some (r3O c
 false),some (lgO ow wr gn 1 0 0 []),some (cellsO 31 [.p 5 0]),some (cellsO 28 [.i .i64 1,.sv 1 1 (listF 1 [.i .i64 0] 1),.sv 1 1 (listF 1 [.i .i64 1] 1)]),some (.cells
 23 1 [.i .i64 0] .e),some (cellsD 3 [.i .i64 0] [.i .i64 a0]),some (cellsO 3 [.i .i64 1]),some (cellsO 9 [.s rc]),some (lpO Tryz.prog 32 0 0 36 [(0,.p 5 0),(1,cfA),
 (2,.s rc),(3,.p 6 0),(4,.p 7 0),(6,.p 8 0),(7,.p 9 0),(10,.p 5 0),(11,.p 5 0),(12,.p 5 1),(13,.i .i64 ow),(14,.i .i64 (80+16*ow)),(15,.i .i64 (80 +
 16*ow+1)),(16,.p 5 0),(17,.p 5 0),(18,.p 5 6),(19,.i .i64 0),(20,.i .i64 (80+16*ow+1+0)),(21,.p 5 0),(22,.i .i64 1),(23,.s rc),(24,.fn (.func
 89) [] [.p 11 0,.p 10 0])])] (Orc.f Orc.z) (.exit 0) [0,1,2,3,4,5,6,7,8,9,10,11,12] [] [some chO,some nsO,some noO,some s.o,some (r3O c false),some (lgO ow
 wr gn 1 0 0 []),some (cellsO 31 [.p 5 0]),some (cellsO 28 [.i .i64 1,.sv 1 1 (listF 1 [.i .i64 0] 1),.sv 1 1 (listF 1 [.i .i64 1] 1)]),some (.cells 23 1 [.i .i64 0] .e),
 some (cellsD 3 [.i .i64 0] [.i .i64 a0]),some (cellsO 3 [.i .i64 1]),some (cellsO 9 [.s rc]),some (lpO Tryz.prog 32 0 0 36 [(0,.p 5 0),(1,cfA),(2,.s rc),(3,.p 6 0),
 (4,.p 7 0),(6,.p 8 0),(7,.p 9 0),(10,.p 5 0),(11,.p 5 0),(12,.p 5 1),(13,.i .i64 ow),(14,.i .i64 (80+16*ow)),(15,.i .i64 (80+16*ow+1)),(16,.p 5
 0),(17,.p 5 0),(18,.p 5 6),(19,.i .i64 0),(20,.i .i64 (80+16*ow+1+0)),(21,.p 5 0),(22,.i .i64 1),(23,.s rc),(24,.fn (.func 89) [] [.p 11 0,.p 10
 0])])] 13 (fun Lf=>decide (i0<cnt)=false/\Lf):=by unfold LD LQ;kernel_rfl
theorem apO0_vq (c:CS) (s:SS) (cc:CS) (ss:SS) (ow:Int) (wr:Int) (gn:Int) (rc:List Nat) (ec:Int) (aE:Int) (n:Nat) (B V:Nat->Int) (D:Nat->List Nat) (h
 :decide (ec=0)=true) (h2:decide (15<(Int.tdiv (Int.ofNat (List.length rc)+36-1) 36))=false):VD Tryz.prog 10 [.p 5 0,cfA,.sv 3 n (uF B V D)] [some chO,some
 nsO,some noO,some s.o,some (r3O c false),some (lgO ow wr gn 1 0 0 [])] (Orc.c (Orc.cal [] (.tup [.s rc,.i .i64 ec]) [] (Orc.f (Orc.inl (oc 8 (Orc.inl (Orc.c (Orc.f
 (Orc.inl (oc 2 (Orc.inl (Orc.inl (Orc.inl (Orc.c (Orc.inl (Orc.inl (Orc.inl (Orc.lop [0,1,2,3,4,5,7,8,9,10,11,12,13] [0,1,2,4,9,10] 13 (XO.exit 0) [] [some
 chO,some nsO,some noO,some (SS.o ss),some (r3O cc false),some (lgO ow wr gn 1 0 0 []),some (cellsO 31 [.p 5 0]),some (cellsO 28 [.i .i64 1,.sv 1 1 (listF 1 [CV.i .i64
 0] 1),.sv 1 1 (listF 1 [CV.i .i64 1] 1)]),some (AObj.cells 23 1 [.i .i64 0] T.e),some (cellsD 3 [.i .i64 0] [.i .i64 aE]),some (cellsO 3 [.i .i64 1]),some (cellsO 9 [.s
 rc]),some (lpO Tryz.prog 32 0 0 36 [(0,.p 5 0),(1,cfA),(2,.s rc),(3,.p 6 0),(4,.p 7 0),(6,.p 8 0),(7,.p 9 0),(10,.p 5 0),(11,.p 5 0),(12,.p 5 1),(13,.i
 .i64 ow),(14,.i .i64 ((80:Int)+(16:Int)*ow)),(15,.i .i64 ((80:Int)+(16:Int)*ow+1)),(16,.p 5 0),(17,.p 5 0),(18,.p 5 6),(19,.i .i64 0),(20,.i
 .i64 ((80:Int)+(16:Int)*ow+(1:Int)+(0:Int))),(21,.p 5 0),(22,.i .i64 1),(23,.s rc),(24,AV.fn (Fn.func 89) [] [.p 11 0,.p 10 0])])] (Orc.c
 Orc.z))))))))))))))))))) (.i .i64 0) [.keep,.keep,.keep,.set ss.o,.set (r3O cc false),.set (lgO ow wr gn 1 1 (0+(Int.tdiv (Int.ofNat (List.length rc)+36-1) 36))
 [])] [] 14 (fun Lf=>True/\Con Tryz.prog 30 [.sv 3 n (uF B V D)] [] (.tup [.s rc,.i .i64 ec]) []/\(!decide (ec=0))=false/\rg (Int.ofNat (List.length rc)+36)/\rg
 (Int.ofNat (List.length rc)+(36:Int)-(1:Int))/\((36:Int)≠(0:Int)/\(-9223372036854775808)<=Int.tdiv (Int.ofNat (List.length rc)+(36:Int)-(1:Int)) 36/\
 Int.tdiv (Int.ofNat (List.length rc)+(36:Int)-(1:Int)) (36:Int)<=(9223372036854775807:Int))/\True/\True/\True/\rg (15)/\decide (15<Int.tdiv (Int.ofNat
 (List.length rc)+(36:Int)-(1:Int)) 36)=false/\True/\True/\True/\rg (1)/\True/\rg (16*ow)/\rg ((80:Int)+(16:Int)*ow)/\rg ((80:Int)+(16:Int) *
 ow+1)/\True/\rg ((80:Int)+(16:Int)*ow+(1:Int)+(0:Int))/\True/\True/\True/\rg (1)/\rg (Int.ofNat (List.length rc)+36)/\rg (Int.ofNat (List.length
 rc)+(36:Int)-(1:Int))/\((36:Int)≠(0:Int)/\(-9223372036854775808)<=Int.tdiv (Int.ofNat (List.length rc)+(36:Int)-(1:Int)) 36/\Int.tdiv (Int.ofNat
 (List.length rc)+(36:Int)-(1:Int)) (36:Int)<=(9223372036854775807:Int))/\LDoes Tryz.prog (loopAt Tryz.prog 89 0) 34 13 (mkT [(0,AV.yf 12),(1,.p 11 0),(2,.p
 10 0),(4,.i .i64 (Int.tdiv (Int.ofNat (List.length rc)+(36:Int)-(1:Int)) 36)),(9,.i .i64 (Int.tdiv (Int.ofNat (List.length rc)+(36:Int)-(1:Int)) 36)),
 (10,.i .i64 0)]) [some chO,some nsO,some noO,some (SS.o s),some (r3O c false),some (lgO ow wr gn 1 0 0 []),some (cellsO 31 [.p 5 0]),some (cellsO 28 [.i .i64 1,.sv 1
 1 (listF 1 [CV.i .i64 0] 1),.sv 1 1 (listF 1 [CV.i .i64 1] 1)]),some (AObj.cells 23 1 [.i .i64 0] T.e),some (cellsD 3 [.i .i64 0] [.i .i64 ((80:Int)+(16:Int)*ow +
 (1:Int)+(0:Int))]),some (cellsO 3 [.i .i64 1]),some (cellsO 9 [.s rc]),some (lpO Tryz.prog 32 0 0 36 [(0,.p 5 0),(1,cfA),(2,.s rc),(3,.p 6 0),(4,.p 7 0),
 (6,.p 8 0),(7,.p 9 0),(10,.p 5 0),(11,.p 5 0),(12,.p 5 1),(13,.i .i64 ow),(14,.i .i64 ((80:Int)+(16:Int)*ow)),(15,.i .i64 ((80:Int)+(16:Int)*ow
 +1)),(16,.p 5 0),(17,.p 5 0),(18,.p 5 6),(19,.i .i64 0),(20,.i .i64 ((80:Int)+(16:Int)*ow+(1:Int)+(0:Int))),(21,.p 5 0),(22,.i .i64 1),(23,.s
 rc),(24,AV.fn (Fn.func 89) [] [.p 11 0,.p 10 0])])] (XO.exit 0) (mkT []) [some chO,some nsO,some noO,some (SS.o ss),some (r3O cc false),some (lgO ow wr gn 1 0 0 []),
 some (cellsO 31 [.p 5 0]),some (cellsO 28 [.i .i64 1,.sv 1 1 (listF 1 [CV.i .i64 0] 1),.sv 1 1 (listF 1 [CV.i .i64 1] 1)]),some (AObj.cells 23 1 [.i .i64 0] T.e),some
 (cellsD 3 [.i .i64 0] [.i .i64 aE]),some (cellsO 3 [.i .i64 1]),some (cellsO 9 [.s rc]),some (lpO Tryz.prog 32 0 0 36 [(0,.p 5 0),(1,cfA),(2,.s rc),(3,.p 6 0),(4,
 .p 7 0),(6,.p 8 0),(7,.p 9 0),(10,.p 5 0),(11,.p 5 0),(12,.p 5 1),(13,.i .i64 ow),(14,.i .i64 ((80:Int)+(16:Int)*ow)),(15,.i .i64 ((80:Int)+(16 :
 Int)*ow+1)),(16,.p 5 0),(17,.p 5 0),(18,.p 5 6),(19,.i .i64 0),(20,.i .i64 ((80:Int)+(16:Int)*ow+(1:Int)+(0:Int))),(21,.p 5 0),(22,.i .i64
 1),(23,.s rc),(24,AV.fn (Fn.func 89) [] [.p 11 0,.p 10 0])])]/\True/\rg (1)/\True/\True/\rg (0+Int.tdiv (Int.ofNat (List.length rc)+(36:Int)-(1:Int)) 36)
 /\True/\True/\Lf):=by unfold VD VQ;kernel_rfl
theorem apO_con (n:Nat) (B V:Nat->Int) (D:Nat->List Nat) (c cc:CS) (s ss:SS) (ow wr gn:Int) (rc:List Nat) (ec aE:Int) (kenc:Con Tryz.prog 30 [.sv 3 n (uF B V D)] [] (.tup [.s rc,.i .i64 ec]) []) (kll:LDoes Tryz.prog (loopAt Tryz.prog 89 0) 34 13 (mkT [(0,.yf 12),(1,.p 11 0),(2,.p 10 0),(4,.i .i64 (Int.tdiv (Int.ofNat (List.length rc)+36-1) 36)),(9,.i .i64 (Int.tdiv (Int.ofNat (List.length rc)+36-1) 36)),(10,.i .i64 0)]) [some chO,some nsO,some noO,some s.o,some (r3O c false),some (lgO ow wr gn 1 0 0 []),some (cellsO 31 [.p 5 0]),some (cellsO 28 [.i .i64 1,.sv 1 1 (listF 1 [.i .i64 0] 1),.sv 1 1 (listF 1 [.i .i64 1] 1)]),some (.cells 23 1 [.i .i64 0] .e),some (cellsD 3 [.i .i64 0] [.i .i64 (80+16*ow+1+0)]),some (cellsO 3 [.i .i64 1]),some (cellsO 9 [.s rc]),some (lpO Tryz.prog 32 0 0 36 [(0,.p 5 0),(1,cfA),(2,.s rc),(3,.p 6 0),(4,.p 7 0),(6,.p 8 0),(7,.p 9 0),(10,.p 5 0),(11,.p 5 0),(12,.p 5 1),(13,.i .i64 ow),(14,.i .i64 (80+16*ow)),(15,.i .i64 (80+16*ow+1)),(16,.p 5 0),(17,.p 5 0),(18,.p 5 6),(19,.i .i64 0),(20,.i .i64 (80+16*ow+1+0)),(21,.p 5 0),(22,.i .i64 1),(23,.s rc),(24,.fn (.func 89) [] [.p 11 0,.p 10 0])])] (.exit 0) (mkT []) [some chO,some nsO,some noO,some ss.o,some (r3O cc false),some (lgO ow wr gn 1 0 0 []),some (cellsO 31 [.p 5 0]),some (cellsO 28 [.i .i64 1,.sv 1 1 (listF 1 [.i .i64 0] 1),.sv 1 1 (listF 1 [.i .i64 1] 1)]),some (.cells 23 1 [.i .i64 0] .e),some (cellsD 3 [.i .i64 0] [.i .i64 aE]),some (cellsO 3 [.i .i64 1]),some (cellsO 9 [.s rc]),some (lpO Tryz.prog 32 0 0 36 [(0,.p 5 0),(1,cfA),(2,.s rc),(3,.p 6 0),(4,.p 7 0),(6,.p 8 0),(7,.p 9 0),(10,.p 5 0),(11,.p 5 0),(12,.p 5 1),(13,.i .i64 ow),(14,.i .i64 (80+16*ow)),(15,.i .i64 (80+16*ow+1)),(16,.p 5 0),(17,.p 5 0),(18,.p 5 6),(19,.i .i64 0),(20,.i .i64 (80+16*ow+1+0)),(21,.p 5 0),(22,.i .i64 1),(23,.s rc),(24,.fn (.func 89) [] [.p 11 0,.p 10 0])])]) (hrc:rc.length<=1000000) (ho:0<=ow/\ow<=2) (h:decide (ec=0)=true) (h2:decide (15<(Int.tdiv (Int.ofNat (List.length rc)+36-1) 36))=false):Con Tryz.prog 10 [.p 5 0,cfA,.sv 3 n (uF B V D)] [some chO,some nsO,some noO,some s.o,some (r3O c false),some (lgO ow wr gn 1 0 0 [])] (.i .i64 0) [.keep,.keep,.keep,.set ss.o,.set (r3O cc false),.set (lgO ow wr gn 1 1 (0+(Int.tdiv (Int.ofNat (List.length rc)+36-1) 36)) [])]:=by
 have hz:0<=Int.tdiv (Int.ofNat (List.length rc)+36-1) 36/\Int.tdiv (Int.ofNat (List.length rc)+36-1) 36<=1000036:=td_bd hrc
 exact con_d (apO0_vq (c:=c) (s:=s) (cc:=cc) (ss:=ss) (ow:=ow) (wr:=wr) (gn:=gn) (rc:=rc) (ec:=ec) (aE:=aE) (n:=n) (B:=B) (V:=V) (D:=D) (h:=h) (h2:=h2)) (by repeat' first | exact trivial | assumption | exact rfl | exact nT (by assumption) | exact nF (by assumption) | assumption | assumption | exact nnT (by assumption) | exact nnF (by assumption) | (unfold rg;simp;omega) | (unfold rg;omega) | (simp;omega) | omega | apply And.intro | decide)
theorem apE0_vq (c:CS) (s:SS) (ow:Int) (wr:Int) (gn:Int) (rc:List Nat) (ec:Int) (n:Nat) (B V:Nat->Int) (D:Nat->List Nat) (h:decide (ec=0)=false) :
 VD Tryz.prog 10 [.p 5 0,cfA,.sv 3 n (uF B V D)] [some chO,some nsO,some noO,some s.o,some (r3O c false),some (lgO ow wr gn 1 0 0 [])] (Orc.c (Orc.cal [] (.tup [.s rc,
 .i .i64 ec]) [] (Orc.t Orc.z))) (.i .i64 ec) [.keep,.keep,.keep,.keep,.keep,.keep] [] 7 (fun Lf=>True/\Con Tryz.prog 30 [.sv 3 n (uF B V D)] [] (.tup [.s rc,.i .i64
 ec]) []/\(!decide (ec=0))=true/\Lf):=by unfold VD VQ;kernel_rfl
theorem apE_con (n:Nat) (B V:Nat->Int) (D:Nat->List Nat) (c cc:CS) (s ss:SS) (ow wr gn:Int) (rc:List Nat) (ec aE:Int) (kenc:Con Tryz.prog 30 [.sv 3 n (uF B V D)] [] (.tup [.s rc,.i .i64 ec]) []) (hrc:rc.length<=1000000) (ho:0<=ow/\ow<=2) (h:decide (ec=0)=false):Con Tryz.prog 10 [.p 5 0,cfA,.sv 3 n (uF B V D)] [some chO,some nsO,some noO,some s.o,some (r3O c false),some (lgO ow wr gn 1 0 0 [])] (.i .i64 ec) [.keep,.keep,.keep,.keep,.keep,.keep]:=by
 have hz:0<=Int.tdiv (Int.ofNat (List.length rc)+36-1) 36/\Int.tdiv (Int.ofNat (List.length rc)+36-1) 36<=1000036:=td_bd hrc
 exact con_d (apE0_vq (c:=c) (s:=s) (ow:=ow) (wr:=wr) (gn:=gn) (rc:=rc) (ec:=ec) (n:=n) (B:=B) (V:=V) (D:=D) (h:=h)) (by repeat' first | exact trivial | assumption | exact rfl | exact nT (by assumption) | exact nF (by assumption) | assumption | exact nnT (by assumption) | exact nnF (by assumption) | (unfold rg;simp;omega) | (unfold rg;omega) | (simp;omega) | omega | apply And.intro | decide)
set_option maxRecDepth 200000
theorem wl_one {n:Nat} (hn:n<128):wl n=1:=by
 obtain ⟨_,h,_⟩:=mR_ok (n:=n) (by omega)
 unfold wl
 rcases Nat.lt_or_ge 0 (mR n) with q | q
 · have a:=h 0 q
   rw [Nat.pow_zero,Nat.div_one] at a
   omega
 · omega
def atI (base:Int):Nat->Int
 | 0=>base
 | i+1=>atI base i+1
theorem atI_eq (base:Int):∀i,atI base i=base+Int.ofNat i
 | 0=>by simp [atI]
 | i+1=>by
   have:=atI_eq base i
   show atI base i+1= _
   rw [this]
   have e:Int.ofNat (i+1)=Int.ofNat i+1:=rfl
   omega
noncomputable def pcE (t:List Nat) (i:Nat):List Nat:=
 List.take (Int.toNat (if Int.ofNat (List.length t)<(Int.ofNat i+1)*36 then Int.ofNat (List.length t) else (Int.ofNat i+1)*36)-Int.toNat (Int.ofNat i*36)) (List.drop (Int.toNat (Int.ofNat i*36)) t)
noncomputable def fmE (m i:Nat):List Nat:=fN (1:Int).toNat ++ fN (Int.ofNat i).toNat ++ fN (Int.ofNat m).toNat
noncomputable def frE (t:List Nat) (m i:Nat):List Nat:=fmE m i ++ pcE t i
theorem pcE_len (t:List Nat) (i:Nat):(pcE t i).length<=36:=by
 unfold pcE
 refine Nat.le_trans (List.length_take_le _ _) ?_
 split<;>simp only [Int.ofNat_eq_natCast] at*<;>omega
theorem pcE_byt {t:List Nat} (h:Byt t) (i:Nat):Byt (pcE t i):=fun y hy=>h y (List.mem_of_mem_drop (List.mem_of_mem_take hy))
theorem fmE_len {m i:Nat} (hm:m<128) (hi:i<128):(fmE m i).length=3:=by
 unfold fmE
 rw [List.length_append,List.length_append,fN_len,fN_len,fN_len,show (Int.ofNat i).toNat=i from rfl,show (Int.ofNat m).toNat=m from rfl,show (1:Int).toNat=1 from rfl,wl_one (by decide),wl_one hi,wl_one hm]
theorem frE_len {t:List Nat} {m i:Nat} (hm:m<128) (hi:i<128):(frE t m i).length<=44:=by
 unfold frE
 rw [List.length_append,fmE_len hm hi]
 have:=pcE_len t i
 omega
theorem frE_byt {t:List Nat} (h:Byt t) {m i:Nat} (hm:m<128) (hi:i<128):Byt (frE t m i):=by
 have a:Byt (fN (1:Int).toNat):=fN_byt (by decide)
 have b:Byt (fN (Int.ofNat i).toNat):=fN_byt (by show i<_;omega)
 have c:Byt (fN (Int.ofNat m).toNat):=fN_byt (by show m<_;omega)
 exact ((a.app b).app c).app (pcE_byt h i)
theorem seq_ex {k:Nat} {c:CS} {s:SS} (h:LV k c s) (b0:Nat) (w g:Int) (hw:0<=w/\w<=2) (hg:1<=g/\g<=1099511627776) (fr:Nat->List Nat):∀m,b0+m<=128->k+m<=1000->(∀i,i<m->(fr i).length<=44/\Byt (fr i))->(∀j,b0<=j->j<b0+m->blkQ (c.d j)=0)->
 ∃(cs:Nat->CS) (ss:Nat->SS),cs 0=c/\ss 0=s/\LV (k+m) (cs m) (ss m)/\
  (∀i,i<m->Con Tryz.prog 59 [.p 0 0,cfA,.i .i64 (Int.ofNat (b0+i)),.s (fr i),.i .i64 w,.i .i64 g] (obL (cs i) (ss i)) (.i .i64 0) [.keep,.keep,.keep,.set (ss (i+1)).o,.set (r3O (cs (i+1)) false)])/\
  (∀i,i<m->(cs m).d (b0+i)=btx 1 (fr i))/\∀j,(j<b0\/b0+m<=j)->(cs m).d j=c.d j:=by
 intro m
 induction m with
 | zero=>exact fun _ _ _ _=>⟨fun _=>c,fun _=>s,rfl,rfl,h,fun i hi=>by omega,fun i hi=>by omega,fun j _=>rfl⟩
 | succ m ih=>
   intro hb hk hf hq
   obtain ⟨cs,ss,e1,e2,l,hwr,hd,ho⟩:=ih (by omega) (by omega) (fun i hi=>hf i (by omega)) (fun j h1 h2=>hq j h1 (by omega))
   have q0:blkQ ((cs m).d (b0+m))=0:=by rw [ho (b0+m) (.inr (Nat.le_refl _))];exact hq _ (by omega) (by omega)
   obtain ⟨C,S,kw,l2,d1,d2⟩:=Go.Proofs.Cl.LV.write l (by omega) (b0+m) (by omega) (fr m) (hf m (by omega)).2 (hf m (by omega)).1 (by rw [q0];decide) w g hw hg
   rw [q0] at d1
   refine ⟨fun j=>if j<=m then cs j else C,fun j=>if j<=m then ss j else S,by simp [e1],by simp [e2],?_,fun i hi=>?_,fun i hi=>?_,fun j hj=>?_⟩
   · simp only [show ¬(m+1<=m) by omega,if_false];exact l2
   · rcases Nat.lt_or_ge i m with q | q
     · simp only [show i<=m by omega,show i+1<=m by omega,if_true];exact hwr i q
     · obtain rfl:i=m:=by omega
       simp only [Nat.le_refl,if_true,show ¬(i+1<=i) by omega,if_false];exact kw
   · simp only [show ¬(m+1<=m) by omega,if_false]
     rcases Nat.lt_or_ge i m with q | q
     · rw [d2 _ (by omega)];exact hd i q
     · obtain rfl:i=m:=by omega
       exact d1
   · simp only [show ¬(m+1<=m) by omega,if_false]
     rw [d2 j (by omega)]
     exact ho j (by omega)
theorem lay_lp (t:List Nat) (m:Nat) (hm:m=(t.length+35) / 36) (hm2:m<=100) (cs:Nat->CS) (ss:Nat->SS) (ow wr gn:Int) (ho:0<=ow/\ow<=2)
 (hw:∀i,i<m->Con Tryz.prog 59 [.p 0 0,cfA,.i .i64 (atI (80+16*ow+1+0) i),.s (frE t m i),.i .i64 wr,.i .i64 gn] (obL (cs i) (ss i)) (.i .i64 0) [.keep,.keep,.keep,.set (ss (i+1)).o,.set (r3O (cs (i+1)) false)]) :
 LDoes Tryz.prog (loopAt Tryz.prog 89 0) 34 13 (mkT [(0,.yf 12),(1,.p 11 0),(2,.p 10 0),(4,.i .i64 (Int.ofNat m)),(9,.i .i64 (Int.ofNat m)),(10,.i .i64 0)]) [some chO,some nsO,some noO,some (ss 0).o,some (r3O (cs 0) false),some (lgO ow wr gn 1 0 0 []),some (cellsO 31 [.p 5 0]),some (cellsO 28 [.i .i64 1,.sv 1 1 (listF 1 [.i .i64 0] 1),.sv 1 1 (listF 1 [.i .i64 1] 1)]),some (.cells 23 1 [.i .i64 0] .e),some (cellsD 3 [.i .i64 0] [.i .i64 (80+16*ow+1+0)]),some (cellsO 3 [.i .i64 1]),some (cellsO 9 [.s t]),some (lpO Tryz.prog 32 0 0 36 [(0,.p 5 0),(1,cfA),(2,.s t),(3,.p 6 0),(4,.p 7 0),(6,.p 8 0),(7,.p 9 0),(10,.p 5 0),(11,.p 5 0),(12,.p 5 1),(13,.i .i64 ow),(14,.i .i64 (80+16*ow)),(15,.i .i64 (80+16*ow+1)),(16,.p 5 0),(17,.p 5 0),(18,.p 5 6),(19,.i .i64 0),(20,.i .i64 (80+16*ow+1+0)),(21,.p 5 0),(22,.i .i64 1),(23,.s t),(24,.fn (.func 89) [] [.p 11 0,.p 10 0])])] (.exit 0) (mkT []) [some chO,some nsO,some noO,some (ss m).o,some (r3O (cs m) false),some (lgO ow wr gn 1 0 0 []),some (cellsO 31 [.p 5 0]),some (cellsO 28 [.i .i64 1,.sv 1 1 (listF 1 [.i .i64 0] 1),.sv 1 1 (listF 1 [.i .i64 1] 1)]),some (.cells 23 1 [.i .i64 0] .e),some (cellsD 3 [.i .i64 0] [.i .i64 (atI (80+16*ow+1+0) m)]),some (cellsO 3 [.i .i64 1]),some (cellsO 9 [.s t]),some (lpO Tryz.prog 32 0 0 36 [(0,.p 5 0),(1,cfA),(2,.s t),(3,.p 6 0),(4,.p 7 0),(6,.p 8 0),(7,.p 9 0),(10,.p 5 0),(11,.p 5 0),(12,.p 5 1),(13,.i .i64 ow),(14,.i .i64 (80+16*ow)),(15,.i .i64 (80+16*ow+1)),(16,.p 5 0),(17,.p 5 0),(18,.p 5 6),(19,.i .i64 0),(20,.i .i64 (80+16*ow+1+0)),(21,.p 5 0),(22,.i .i64 1),(23,.s t),(24,.fn (.func 89) [] [.p 11 0,.p 10 0])])]:=by
 refine loop_q (fun i:Nat=>([(0,.yf 12),(1,.p 11 0),(2,.p 10 0),(4,.i .i64 (Int.ofNat m)),(9,.i .i64 (Int.ofNat m)),(10,.i .i64 (Int.ofNat i))],[some chO,some nsO,some noO,some (ss i).o,some (r3O (cs i) false),some (lgO ow wr gn 1 0 0 []),some (cellsO 31 [.p 5 0]),some (cellsO 28 [.i .i64 1,.sv 1 1 (listF 1 [.i .i64 0] 1),.sv 1 1 (listF 1 [.i .i64 1] 1)]),some (.cells 23 1 [.i .i64 0] .e),some (cellsD 3 [.i .i64 0] [.i .i64 (atI (80+16*ow+1+0) i)]),some (cellsO 3 [.i .i64 1]),some (cellsO 9 [.s t]),some (lpO Tryz.prog 32 0 0 36 [(0,.p 5 0),(1,cfA),(2,.s t),(3,.p 6 0),(4,.p 7 0),(6,.p 8 0),(7,.p 9 0),(10,.p 5 0),(11,.p 5 0),(12,.p 5 1),(13,.i .i64 ow),(14,.i .i64 (80+16*ow)),(15,.i .i64 (80+16*ow+1)),(16,.p 5 0),(17,.p 5 0),(18,.p 5 6),(19,.i .i64 0),(20,.i .i64 (80+16*ow+1+0)),(21,.p 5 0),(22,.i .i64 1),(23,.s t),(24,.fn (.func 89) [] [.p 11 0,.p 10 0])])])) (fun i=>m-i) (fun i=>i<=m) (fun i=>by simp) ?_ 0 (Nat.zero_le _)
 intro i hi
 rcases Nat.lt_or_ge i m with hlt | q
 · have h1:decide (Int.ofNat i<Int.ofNat m)=true:=decide_eq_true (by simp;omega)
   have z:=ii0 i
   have zi:Int.ofNat i<=100:=by simp only [Int.ofNat_eq_natCast];omega
   have hl:i*36<=t.length:=by omega
   have hl2:t.length<=100000:=by omega
   have at0:0<=atI (80+16*ow+1+0) i/\atI (80+16*ow+1+0) i<=1000:=by
    rw [atI_eq];omega
   have f3:=forms3_con 1 (Int.ofNat i) (Int.ofNat m) (by decide) ⟨z,by omega⟩ ⟨ii0 m,by simp only [Int.ofNat_eq_natCast];omega⟩
   have sl:(0<=Int.ofNat i*36/\(0<=(if Int.ofNat (List.length t)<(Int.ofNat i+1)*36 then Int.ofNat (List.length t) else (Int.ofNat i+1)*36))/\Int.toNat (Int.ofNat i*36)<=Int.toNat (if Int.ofNat (List.length t)<(Int.ofNat i+1)*36 then Int.ofNat (List.length t) else (Int.ofNat i+1)*36)/\Int.toNat (if Int.ofNat (List.length t)<(Int.ofNat i+1)*36 then Int.ofNat (List.length t) else (Int.ofNat i+1)*36)<=List.length t):=by
    simp only [Int.ofNat_eq_natCast]
    refine ⟨by omega,?_,?_,?_⟩<;>split<;>omega
   have ln:(fmE m i).length+(pcE t i).length<=1073741824:=by
    rw [fmE_len (by omega) (by omega)]
    have:=pcE_len t i
    omega
   have w:=hw i hlt
   exact rd_nrm (gR_lq (cs i) (ss i) (cs (i+1)) (ss (i+1)) ow wr gn (fmE m i) (atI (80+16*ow+1+0) i) (Int.ofNat i) (Int.ofNat m) t h1)
    ⟨h1,⟨by omega,by omega⟩,⟨by omega,by omega⟩,⟨by omega,by omega⟩,sl,f3,ln,trivial,trivial,trivial,w,⟨by omega,by omega⟩,trivial,⟨by omega,by omega⟩,rfl⟩ (i+1) hlt (by show m-(i+1)<m-i;omega) rfl (.refl _) (.refl _)
 · obtain rfl:i=m:=Nat.le_antisymm hi q
   have h1:decide (Int.ofNat i<Int.ofNat i)=false:=decide_eq_false (by simp)
   exact rd_out (gE_lq (cs i) (ss i) ow wr gn (atI (80+16*ow+1+0) i) (Int.ofNat i) (Int.ofNat i) t h1) ⟨h1,rfl⟩ rfl rfl (.refl _) (.refl _)
theorem td_eq (t:List Nat):Int.tdiv (Int.ofNat (List.length t)+36-1) 36=Int.ofNat ((t.length+35) / 36):=by
 rw [show Int.ofNat t.length+(36:Int)-(1:Int)=Int.ofNat (t.length+35) from by simp;omega];exact Eq.refl _
def nfr (t:List Nat):Nat:=(t.length+35) / 36
theorem append_no {n:Nat} {B V:Nat->Int} {D:Nat->List Nat} (hn:n<=281474976710656) (hb:∀i,i<n->Byt (D i)) (h:encB n B V D=false) (c:CS) (s:SS) (ow wr gn:Int) (ho:0<=ow/\ow<=2) :
 Con Tryz.prog 10 [.p 5 0,cfA,.sv 3 n (uF B V D)] (obL c s ++ [some (lgO ow wr gn 1 0 0 [])]) (.i .i64 2) [.keep,.keep,.keep,.keep,.keep,.keep]:=by
 have e:=enc_con n B V D hn hb
 have e2:encE n B V D=2:=by unfold encE;rw [h];rfl
 rw [e2,show encT n B V D=[] by unfold encT;rw [h];rfl] at e
 exact apE_con n B V D c c s s ow wr gn [] 2 0 e (by decide) ho rfl
theorem append_ok {n:Nat} {B V:Nat->Int} {D:Nat->List Nat} (hn:n<=281474976710656) (hb:∀i,i<n->Byt (D i)) (h:encB n B V D=true) {k:Nat} {c:CS} {s:SS} (l:LV k c s) (hk:k<=900) (o:Nat) (ho:o<=2) (wr gn:Int) (hw:0<=wr/\wr<=2) (hg:1<=gn/\gn<=1099511627776)
 (hz:∀j,80+16*o<j->j<=80+16*o+15->blkQ (c.d j)=0) :
 nfr (rcT n B V D)<=15/\∃C S,Con Tryz.prog 10 [.p 5 0,cfA,.sv 3 n (uF B V D)] (obL c s ++ [some (lgO (Int.ofNat o) wr gn 1 0 0 [])]) (.i .i64 0) [.keep,.keep,.keep,.set S.o,.set (r3O C false),.set (lgO (Int.ofNat o) wr gn 1 1 (Int.ofNat (nfr (rcT n B V D))) [])]/\
  LV (k+nfr (rcT n B V D)) C S/\(∀i,i<nfr (rcT n B V D)->C.d (81+16*o+i)=btx 1 (frE (rcT n B V D) (nfr (rcT n B V D)) i))/\∀j,(j<81+16*o\/81+16*o+nfr (rcT n B V D)<=j)->C.d j=c.d j:=by
 have e:=enc_con n B V D hn hb
 rw [show encE n B V D=0 by unfold encE;rw [h];rfl,show encT n B V D=rcT n B V D by unfold encT;rw [h];rfl] at e
 unfold encB at h
 rw [Bool.and_eq_true,Bool.not_eq_true'] at h
 have ok:=mb_ok h.1 hb
 have hl:(rcT n B V D).length<=540:=by
  have:=of_decide_eq_false h.2
  simp at this;omega
 have by_:=rcT_byt ok
 generalize ht:rcT n B V D=t at *
 have m15:nfr t<=15:=by unfold nfr;omega
 refine ⟨m15,?_⟩
 obtain ⟨cs,ss,e1,e2,lv,hwr,hd,hoth⟩:=seq_ex l (81+16*o) wr gn hw hg (frE t (nfr t)) (nfr t) (by omega) (by omega) (fun i hi=>⟨frE_len (by omega) (by omega),frE_byt by_ (by omega) (by omega)⟩) (fun j h1 h2=>hz j (by omega) (by omega))
 have lp:=lay_lp t (nfr t) rfl (by omega) cs ss (Int.ofNat o) wr gn ⟨ii0 o,by simp;omega⟩ (fun i hi=>by
  have q:=hwr i hi
  have ea:Int.ofNat (81+16*o+i)=atI (80+16*Int.ofNat o+1+0) i:=by
   rw [atI_eq];simp only [Int.ofNat_eq_natCast];omega
  rw [ea] at q
  exact q)
 rw [e1,e2] at lp
 have ct:Int.ofNat (nfr t)=Int.tdiv (Int.ofNat (List.length t)+36-1) 36:=(td_eq t).symm
 rw [show (Int.ofNat (nfr t))=Int.tdiv (Int.ofNat (List.length t)+36-1) 36 from ct] at lp
 have q:=apO_con n B V D c (cs (nfr t)) s (ss (nfr t)) (Int.ofNat o) wr gn t 0 (atI (80+16*Int.ofNat o+1+0) (nfr t)) e lp (by omega) ⟨ii0 o,by simp;omega⟩ rfl (by rw [<-ct];exact decide_eq_false (by simp;omega))
 rw [<-ct,Int.zero_add] at q
 exact ⟨cs (nfr t),ss (nfr t),q,lv,hd,hoth⟩
set_option maxRecDepth 200000
theorem appZ_cong {n:Nat} {F F' G:Nat->Nat->CV} (h:∀i,F i 0=F' i 0) (i:Nat):appZ n F G i 0=appZ n F' G i 0:=by
 cases n with
 | zero=>rfl
 | succ n=>
   show zipCV (Nat.blt i (n+1)) (F i 0) (G (i-(n+1)) 0)=zipCV (Nat.blt i (n+1)) (F' i 0) (G (i-(n+1)) 0)
   rw [h i]
theorem rn_con (v:Int) (h0:0<=v) (h1:v<=1099511627776):Con Tryz.prog 61 [.i .i64 v] [] (.sv 1 (rlI v) (byF (rfI v))) []:=by
 have q:=rnum_con v.toNat (by omega)
 rw [show Int.ofNat v.toNat=v by simp;omega] at q
 exact q
theorem rt_con (t:List Nat) (h:t.length<=1000000):Con Tryz.prog 96 [.s t] [] (.sv 1 (tlT t) (byF (tfT t))) []:=rtext_con t h
theorem rl_le (v:Int) (h1:v<=1099511627776):rlI v<=11:=fN_le (by omega)
theorem up_by {n:Nat} {B V:Nat->Int} {D:Nat->List Nat} (i j:Nat) :
 appZ (addN (addN (upL n B V D i).length (rlI (B i))) (rlI (V i))) (appZ (addN (upL n B V D i).length (rlI (B i))) (appZ (upL n B V D i).length (byF (tB (upL n B V D i))) (byF (rfI (B i)))) (byF (rfI (V i)))) (byF (tfT (D i))) j 0=byF (tB (upL n B V D (i+1))) j 0:=by
 have e1:addN (upL n B V D i).length (rlI (B i))=(upL n B V D i ++ fN (B i).toNat).length:=by rw [addN_eq,List.length_append];rfl
 have e2:addN (addN (upL n B V D i).length (rlI (B i))) (rlI (V i))=((upL n B V D i ++ fN (B i).toNat) ++ fN (V i).toNat).length:=by rw [addN_eq,addN_eq,List.length_append,List.length_append];rfl
 rw [e2,e1]
 have a1:∀k,appZ (upL n B V D i).length (byF (tB (upL n B V D i))) (byF (rfI (B i))) k 0=byF (tB (upL n B V D i ++ fN (B i).toNat)) k 0:=fun k=>app_by _ _ k
 have a2:∀k,appZ (upL n B V D i ++ fN (B i).toNat).length (appZ (upL n B V D i).length (byF (tB (upL n B V D i))) (byF (rfI (B i)))) (byF (rfI (V i))) k 0=byF (tB ((upL n B V D i ++ fN (B i).toNat) ++ fN (V i).toNat)) k 0:=fun k=>(appZ_cong a1 k).trans (app_by _ _ k)
 exact (appZ_cong a2 j).trans (app_by _ _ j)
theorem y_lp (n:Nat) (B V:Nat->Int) (D:Nat->List Nat) (h:UOk n B V D):LDoes Tryz.prog (loopAt Tryz.prog 60 0) 40 0 (mkT [(0,.sv 3 n (uF B V D)),(3,.lr 0 1 0 (fN n).length false),(4,.i .i64 0)]) [some (.rows 5 1 (fN n).length (byF (tB (fN n))))] (.exit 0) (mkT [(3,.lr 0 1 0 (upL n B V D n).length false)]) [some (.rows 5 1 (upL n B V D n).length (byF (tB (upL n B V D n))))]:=by
 have h8:=h.1
 refine loop_q (fun i:Nat=>([(0,.sv 3 n (uF B V D)),(3,.lr 0 1 0 (upL n B V D i).length false),(4,.i .i64 (Int.ofNat i))],[some (.rows 5 1 (upL n B V D i).length (byF (tB (upL n B V D i))))])) (fun i=>n-i) (fun i=>i<=n) (fun _=>Nat.zero_le _) ?_ 0 (Nat.zero_le _)
 intro i hi
 have hle:=upL_le h i hi
 rcases Nat.lt_or_ge i n with hlt | q
 · have h1:decide (Int.ofNat i<Int.ofNat n)=true:=decide_eq_true (by simp;omega)
   have bi:(0:Int)<=Int.ofNat i/\Int.ofNat i<(↑n:Int):=⟨by simp,by simp;omega⟩
   have ri:rg (Int.ofNat i+1):=⟨by simp<;>omega,by simp<;>omega⟩
   obtain ⟨a,b,c,d⟩:=h.2 i hlt
   have l1:=rl_le (B i) (by omega)
   have l2:=rl_le (V i) (by omega)
   have l3:tlT (D i)<=49:=tN_le' c
   have c1:=rn_con (B i) (by omega) (by omega)
   have c2:=rn_con (V i) (by omega) (by omega)
   have c3:=rt_con (D i) (by omega)
   have e:addN (addN (addN (upL n B V D i).length (rlI (B i))) (rlI (V i))) (tlT (D i))=(upL n B V D (i+1)).length:=by
    show _=(((upL n B V D i ++ fN (B i).toNat) ++ fN (V i).toNat) ++ tN (D i)).length
    rw [addN_eq,addN_eq,addN_eq,List.length_append,List.length_append,List.length_append];rfl
   refine rd_nrm (yR_lq rlI rfI tlT tfT n i (upL n B V D i).length B V D (tB (upL n B V D i)) h1) (by
    have e1:=addN_eq (upL n B V D i).length (rlI (B i))
    have e2:=addN_eq (addN (upL n B V D i).length (rlI (B i))) (rlI (V i))
    repeat' first | exact trivial | exact h1 | exact bi | exact c1 | exact c2 | exact c3 | exact ri | apply And.intro | omega | exact rfl) (i+1) hlt (by show n-(i+1)<n-i;omega) rfl ?_ ?_
   · rw [e];exact .refl _
   · rw [e]
     exact ⟨.rowsW fun j z hj hz=>.of (by obtain rfl:z=0:=by omega
                                          exact up_by i j),trivial⟩
 · obtain rfl:i=n:=Nat.le_antisymm hi q
   have h1:decide (Int.ofNat i<Int.ofNat i)=false:=decide_eq_false (by simp)
   exact rd_out (yE_lq i i (upL i B V D i).length B V D (tB (upL i B V D i)) h1) ⟨h1,rfl⟩ rfl rfl (.refl _) (.refl _)
theorem s_lp (L:Nat) (b:Nat->Nat) (hL:L<=1000000):LDoes Tryz.prog (loopAt Tryz.prog 97 0) 25 0 (mkT [(0,.sv 1 L (byF b)),(3,.l0),(4,.i .i64 0)]) [] (.exit 0) (mkT [(0,.sv 1 L (byF b)),(3,.lr 0 1 0 L false)]) [some (.rows 5 1 L (byF b))]:=by
 have key:=loop_q (P:=Tryz.prog) (c:=loopAt Tryz.prog 97 0) (n:=25) (b:=0) (x:=.exit 0) (l':=[(0,.sv 1 L (byF b)),(3,.lr 0 1 0 L false)]) (objs':=[some (.rows 5 1 L (byF b))]) (D:=Nat)
  (fun i:Nat=>([(0,.sv 1 L (byF b)),(3,.lr 0 1 0 i false),(4,.i .i64 (Int.ofNat i))],[some (.rows 5 1 i (byF b))])) (fun i=>L-i) (fun i=>i<=L) (fun _=>Nat.zero_le _) ?_ 0 (Nat.zero_le _)
 · refine key.weak ⟨rfl,.inl rfl,rfl,.inr ⟨rfl,.inl ⟨0,1,0,false,rfl⟩⟩,rfl,.inl rfl,trivial⟩ ?_
   intro o ho
   simp at ho;subst ho
   exact ⟨_,rfl,rfl⟩
 intro i hi
 rcases Nat.lt_or_ge i L with hlt | q
 · have h1:decide (Int.ofNat i<Int.ofNat L)=true:=decide_eq_true (by simp;omega)
   have bi:(0:Int)<=Int.ofNat i/\Int.ofNat i<(↑L:Int):=⟨by simp,by simp;omega⟩
   have ri:rg (Int.ofNat i+1):=⟨by simp<;>omega,by simp<;>omega⟩
   refine rd_nrm (sR_lq L i i b b h1) (by repeat' first | exact trivial | exact h1 | exact bi | exact ri | apply And.intro | omega | exact rfl) (i+1) hlt (by show L-(i+1)<L-i;omega) rfl ?_ ?_
   · rw [addN_eq];exact .refl _
   · rw [addN_eq]
     refine ⟨.rowsW fun j z hj hz=>.of ?_,trivial⟩
     obtain rfl:z=0:=by omega
     rw [appZ_i (f:=byF b) (g:=listF 1 [.i .u8 (Int.ofNat (b i))] 1) (n:=i) (i:=j) (j:=0) (k:=.u8) (a:=Int.ofNat (b j)) (b:=Int.ofNat (b i)) rfl (by rw [show j-i=0 by omega];rfl)]
     show CV.i .u8 _=CV.i .u8 (Int.ofNat (b j))
     split
     · rfl
     · obtain rfl:j=i:=by omega
       rfl
 · obtain rfl:i=L:=Nat.le_antisymm hi q
   have h1:decide (Int.ofNat i<Int.ofNat i)=false:=decide_eq_false (by simp)
   exact rd_out (sE_lq i i i b b h1) ⟨h1,rfl⟩ rfl rfl (.refl _) (.refl _)
theorem rseal_con (bs:List Nat) (h:Byt bs) (hl:bs.length<=1000000):Con Tryz.prog 97 [.sv 1 bs.length (byF (tB bs))] [] (.sv 1 (slL bs).length (byF (tB (slL bs)))) []:=by
 have q:=slO_con bs.length (tB bs) bs.length (sumN (tB bs) bs.length) (tB bs) (fourB (sumN (tB bs) bs.length)) hl (s_lp bs.length (tB bs) hl) (rsum_con bs.length (tB bs) (by omega) (tB_lt h)) (rfour_con _ (sumN_lt _ _))
 rw [slL_len,<-addN_eq]
 refine q.post (.svW fun i j hi hj=>.of ?_) (OVL.refl _)
 obtain rfl:j=0:=by omega
 rw [addN_eq] at hi
 show appZ bs.length (byF (tB bs)) (byF (fourB (sumN (tB bs) bs.length))) i 0=CV.i .u8 (Int.ofNat (tB (slL bs) i))
 rw [appZ_i (f:=byF (tB bs)) (g:=byF (fourB (sumN (tB bs) bs.length))) (n:=bs.length) (i:=i) (j:=0) (k:=.u8) (a:=Int.ofNat (tB bs i)) (b:=Int.ofNat (fourB (sumN (tB bs) bs.length) (i-bs.length))) rfl rfl]
 unfold slL
 split
 · rw [tB_lo (by assumption)]
 · rw [tB_hi (by omega),four_tB _ _ (by omega)]
theorem rsealR_con (bs:List Nat) (h:Byt bs) (hl:bs.length<=1000000):Con Tryz.prog 97 [.lr 0 1 0 bs.length false] [some (.rows 5 1 bs.length (byF (tB bs)))] (.sv 1 (slL bs).length (byF (tB (slL bs)))) [.gone]:=
 ((rseal_con bs h hl).slot rfl (by kernel_rfl) (by kernel_rfl)).thaw (us0:=[.gone]) 0 (e:=5) (sz:=1) (n:=bs.length) (f:=byF (tB bs)) rfl ⟨rfl,trivial⟩ ⟨.inr ⟨by kernel_rfl,⟨rfl,by omega⟩,rfl⟩,trivial⟩ rfl
theorem rby_con {n:Nat} {B V:Nat->Int} {D:Nat->List Nat} (h:UOk n B V D):Con Tryz.prog 60 [.sv 3 n (uF B V D)] [] (.sv 1 (rcT n B V D).length (byF (tB (rcT n B V D)))) []:=by
 have h8:=h.1
 have hle:=upL_le h n (Nat.le_refl _)
 exact byO_con n B V D _ _ _ _ _ _ (rnuL_con n (by omega)) (y_lp n B V D h) (rsealR_con (upL n B V D n) (upL_byt h n (Nat.le_refl _)) (by omega))
theorem rrec_con {n:Nat} {B V:Nat->Int} {D:Nat->List Nat} (hn:n<=281474976710656) (hb:∀i,i<n->Byt (D i)):Con Tryz.prog 35 [.sv 3 n (uF B V D)] [] (.b (encB n B V D)) []:=by
 unfold encB mbB
 cases ha:alB (pU B V D) n with
 | false=>exact rcF_con n B V D hn ha
 | true=>
   cases h0:decide (Int.ofNat n=0) with
   | true=>
     have e:=of_decide_eq_true h0
     rw [decide_eq_false (show ¬(0:Int)<Int.ofNat n by omega)]
     exact rcZ_con n B V D h0 hn ha
   | false=>
     have e:=of_decide_eq_false h0
     have z:=ii0 n
     rw [decide_eq_true (show (0:Int)<Int.ofNat n by omega)]
     have q:=rcN_con n B V D h0 _ _ hn ha (rby_con (u_ok ha hb))
     have e2:decide (Int.ofNat (rcT n B V D).length<=540)=(true && true && !decide ((540:Int)<Int.ofNat (rcT n B V D).length)):=by
      by_cases g:(540:Int)<Int.ofNat (rcT n B V D).length
      · rw [decide_eq_true g,decide_eq_false (by omega)];rfl
      · rw [decide_eq_false g,decide_eq_true (by omega)];rfl
     rw [e2] at q
     exact q
def IsU (F:Nat->Nat->CV):Prop:=∀i,∃k:Nat,F i 0=.i .u8 (.ofNat k)
theorem isU_by (b:Nat->Nat):IsU (byF b):=fun i=>⟨_,rfl⟩
theorem isU_sh {F:Nat->Nat->CV} (h:IsU F) (k:Nat):IsU (shiftF k F):=fun i=>by rw [shiftF_eq];exact h _
theorem isU_app {n:Nat} {F G:Nat->Nat->CV} (h:IsU F) (g:IsU G):IsU (appZ n F G):=fun i=>by
 obtain ⟨a,ha⟩:=h i
 obtain ⟨b,hb⟩:=g (i-n)
 rw [appZ_i ha hb]
 by_cases q:i<n
 · rw [if_pos q];exact ⟨_,rfl⟩
 · rw [if_neg q];exact ⟨_,rfl⟩
theorem f_lp (L m:Nat) (b:Nat->Nat) (hL:L<=540) (hm:m=(L+35) / 36):LDoes Tryz.prog (loopAt Tryz.prog 36 0) 52 0 (mkT [(0,.i .i64 1),(5,.sv 1 L (byF b)),(6,.i .i64 (Int.ofNat m)),(7,.l0),(8,.i .i64 0)]) [] (.exit 0) (mkT [(7,.lr 0 1 0 m false)]) [some (.rows 9 1 m (fun j _=>.s (fxT (fN 1).length (tB (fN 1)) rlI rfI L (Int.ofNat m) b j)))]:=by
 have key:=loop_q (P:=Tryz.prog) (c:=loopAt Tryz.prog 36 0) (n:=52) (b:=0) (x:=.exit 0) (l':=[(7,.lr 0 1 0 m false)]) (objs':=[some (.rows 9 1 m (fun j _=>.s (fxT (fN 1).length (tB (fN 1)) rlI rfI L (Int.ofNat m) b j)))]) (D:=Nat)
  (fun i:Nat=>([(0,.i .i64 1),(5,.sv 1 L (byF b)),(6,.i .i64 (Int.ofNat m)),(7,.lr 0 1 0 i false),(8,.i .i64 (Int.ofNat i))],[some (.rows 9 1 i (fun j _=>.s (fxT (fN 1).length (tB (fN 1)) rlI rfI L (Int.ofNat m) b j)))])) (fun i=>m-i) (fun i=>i<=m) (fun _=>Nat.zero_le _) ?_ 0 (Nat.zero_le _)
 · refine key.weak ⟨rfl,.inl rfl,rfl,.inl rfl,rfl,.inl rfl,rfl,.inr ⟨rfl,.inl ⟨0,1,0,false,rfl⟩⟩,rfl,.inl rfl,trivial⟩ ?_
   intro o ho
   simp at ho;subst ho
   exact ⟨_,rfl,rfl⟩
 intro i hi
 rcases Nat.lt_or_ge i m with hlt | q
 · have h1:decide (Int.ofNat i<Int.ofNat m)=true:=decide_eq_true (by simp;omega)
   have z:=ii0 i
   have zi:Int.ofNat i<=100:=by simp only [Int.ofNat_eq_natCast];omega
   have zm:Int.ofNat m<=100:=by simp only [Int.ofNat_eq_natCast];omega
   have ri:rg (Int.ofNat i+1):=⟨by omega,by omega⟩
   have r2:rg (Int.ofNat i*36):=⟨by omega,by omega⟩
   have r3:rg ((Int.ofNat i+1)*36):=⟨by omega,by omega⟩
   have l0:(fN 1).length<=11:=fN_le (by decide)
   have l1:=rl_le (Int.ofNat i) (by omega)
   have l2:=rl_le (Int.ofNat m) (by omega)
   have c0:=rnuL_con 1 (by decide)
   have c1:=rn_con (Int.ofNat i) z (by omega)
   have c2:=rn_con (Int.ofNat m) (ii0 m) (by omega)
   have hl:i*36<=L:=by omega
   have sl:(0<=Int.ofNat i*36/\(0<=(if Int.ofNat L<(Int.ofNat i+1)*36 then Int.ofNat L else (Int.ofNat i+1)*36))/\Int.toNat (Int.ofNat i*36)<=Int.toNat (if Int.ofNat L<(Int.ofNat i+1)*36 then Int.ofNat L else (Int.ofNat i+1)*36)/\Int.toNat (if Int.ofNat L<(Int.ofNat i+1)*36 then Int.ofNat L else (Int.ofNat i+1)*36)<=L):=by
    simp only [Int.ofNat_eq_natCast]
    refine ⟨by omega,?_,?_,?_⟩<;>split<;>omega
   have u:IsU (appZ (addN (addN (fN 1).length (rlI (Int.ofNat i))) (rlI (Int.ofNat m))) (appZ (addN (fN 1).length (rlI (Int.ofNat i))) (appZ (fN 1).length (byF (tB (fN 1))) (byF (rfI (Int.ofNat i)))) (byF (rfI (Int.ofNat m)))) (shiftF (Int.toNat (Int.ofNat i*36)) (byF b))):=
    isU_app (isU_app (isU_app (isU_by _) (isU_by _)) (isU_by _)) (isU_sh (isU_by _) _)
   have e1:=addN_eq (fN 1).length (rlI (Int.ofNat i))
   have e2:=addN_eq (addN (fN 1).length (rlI (Int.ofNat i))) (rlI (Int.ofNat m))
   have pl:Int.toNat (if Int.ofNat L<(Int.ofNat i+1)*36 then Int.ofNat L else (Int.ofNat i+1)*36)-Int.toNat (Int.ofNat i*36)<=540:=by
    have:=sl.2.2.2
    omega
   generalize hP:Int.toNat (if Int.ofNat L<(Int.ofNat i+1)*36 then Int.ofNat L else (Int.ofNat i+1)*36)-Int.toNat (Int.ofNat i*36)=P at pl
   refine rd_nrm (fR_lq (fN 1).length (tB (fN 1)) rlI rfI L i (Int.ofNat m) b (fun j=>fxT (fN 1).length (tB (fN 1)) rlI rfI L (Int.ofNat m) b j) h1) (by
    rw [hP]
    have e3:=addN_eq (addN (addN (fN 1).length (rlI (Int.ofNat i))) (rlI (Int.ofNat m))) P
    repeat' first | exact trivial | exact h1 | exact c0 | exact c1 | exact c2 | exact ri | exact r2 | exact r3 | exact sl | exact sl.1 | exact sl.2.1 | exact sl.2.2.1 | exact sl.2.2.2 | exact fun j _=>u j | apply And.intro | omega | exact rfl) (i+1) hlt (by show m-(i+1)<m-i;omega) rfl ?_ ?_
   · rw [addN_eq];exact .refl _
   · rw [addN_eq]
     refine ⟨.rowsW fun j z hj hz=>.of ?_,trivial⟩
     obtain rfl:z=0:=by omega
     rw [appZ_s (f:=fun j _=>.s (fxT (fN 1).length (tB (fN 1)) rlI rfI L (Int.ofNat m) b j)) (g:=listF 1 [.s (fxT (fN 1).length (tB (fN 1)) rlI rfI L (Int.ofNat m) b i)] 1) (n:=i) (i:=j) (j:=0) (a:=fxT (fN 1).length (tB (fN 1)) rlI rfI L (Int.ofNat m) b j) (b:=fxT (fN 1).length (tB (fN 1)) rlI rfI L (Int.ofNat m) b i) rfl (by rw [show j-i=0 by omega];rfl)]
     split
     · rfl
     · obtain rfl:j=i:=by omega
       rfl
 · obtain rfl:i=m:=Nat.le_antisymm hi q
   have h1:decide (Int.ofNat i<Int.ofNat i)=false:=decide_eq_false (by simp)
   exact rd_out (fE_lq L i (Int.ofNat i) b _ h1) ⟨h1,rfl⟩ rfl rfl (.refl _) (.refl _)
theorem rfr_con {n:Nat} {B V:Nat->Int} {D:Nat->List Nat} (h:UOk n B V D) (hl:(rcT n B V D).length<=540) :
 Con Tryz.prog 36 [.i .i64 1,.sv 3 n (uF B V D)] [] (.lr 0 1 0 (nfr (rcT n B V D)) false) [.set (.rows 9 1 (nfr (rcT n B V D)) (fun j _=>.s (fxT (fN 1).length (tB (fN 1)) rlI rfI (rcT n B V D).length (Int.ofNat (nfr (rcT n B V D))) (tB (rcT n B V D)) j)))]:=by
 have lp:=f_lp (rcT n B V D).length (nfr (rcT n B V D)) (tB (rcT n B V D)) hl rfl
 have e:Int.tdiv (Int.ofNat (rcT n B V D).length+36-1) 36=Int.ofNat (nfr (rcT n B V D)):=tdN_eq _
 rw [<-e] at lp
 have q:=frO_con n B V D _ _ _ (fun j=>fxT (fN 1).length (tB (fN 1)) rlI rfI (rcT n B V D).length (Int.tdiv (Int.ofNat (rcT n B V D).length+36-1) 36) (tB (rcT n B V D)) j) (by omega) (rby_con h) lp
 rw [e] at q
 exact q
theorem rwidth_con {n:Nat} {B V:Nat->Int} {D:Nat->List Nat} (hn:n<=281474976710656) (hb:∀i,i<n->Byt (D i)) :
 Con Tryz.prog 17 [.sv 3 n (uF B V D)] [] (.tup [.i .i64 (bif encB n B V D then Int.ofNat (nfr (rcT n B V D)) else 0),.i .i64 (encE n B V D)]) []:=by
 unfold encE
 have r:=rrec_con hn hb (B:=B) (V:=V)
 cases h:encB n B V D with
 | false=>
   rw [h] at r
   exact rwF_con n B V D false rfl r
 | true=>
   rw [h] at r
   unfold encB at h
   rw [Bool.and_eq_true,Bool.not_eq_true'] at h
   have hl:(rcT n B V D).length<=540:=by
    have:=of_decide_eq_false h.2
    simp at this;omega
   exact rwT_con n B V D true _ _ rfl r (rfr_con (mb_ok h.1 hb) hl)
theorem own0_fq (n:Nat) (B V:Nat->Int) (D:Nat->List Nat):VF Tryz.prog 16 [.sv 3 n (uF B V D)] [] (Orc.c Orc.z) (.sv 3 n (uF B V D)) [] [1] [] ((3=3/\0+n<=n)/\
 True) 2 (fun Lf=>(True/\True/\0+n<=140737488355328/\(3*(0+n)+1536)*32<=562949953421312)/\Lf):=by unfold VF;kernel_rfl
theorem own_con (n:Nat) (B V:Nat->Int) (D:Nat->List Nat) (hn:n<=5000000000000):Con Tryz.prog 16 [.sv 3 n (uF B V D)] [] (.sv 3 n (uF B V D)) []:=by
 exact con_f (own0_fq (n:=n) (B:=B) (V:=V) (D:=D)) ⟨⟨rfl,by simp⟩,trivial⟩ (by repeat' first | exact trivial | assumption | exact rfl | exact nT (by assumption) | exact nF (by assumption) | omega | apply And.intro | decide)
theorem wdT0_vq (et:List Nat) (ec:Int) (n:Nat) (B V:Nat->Int) (D:Nat->List Nat) (h:decide (ec=0)=true):VD Tryz.prog 15 [.sv 3 n (uF B V D)] [] (Orc.cal []
 (.tup [.s et,.i .i64 ec]) [] (Orc.f (Orc.inl Orc.z))) (.tup [.i .i64 (Int.tdiv (Int.ofNat (List.length et)+(36:Int)-(1:Int)) 36),.i .i64 0]) [] [] 0 (fun Lf=>Con
 Tryz.prog 30 [.sv 3 n (uF B V D)] [] (.tup [.s et,.i .i64 ec]) []/\(!decide (ec=0))=false/\rg (Int.ofNat (List.length et)+36)/\rg (Int.ofNat (List.length et)+(36
 :Int)-(1:Int))/\((36:Int)≠(0:Int)/\(-9223372036854775808)<=Int.tdiv (Int.ofNat (List.length et)+(36:Int)-(1:Int)) 36/\Int.tdiv (Int.ofNat (List.length
 et)+(36:Int)-(1:Int)) (36:Int)<=(9223372036854775807:Int))/\Lf):=by unfold VD VQ;kernel_rfl
theorem wdT_con (n:Nat) (B V:Nat->Int) (D:Nat->List Nat) (et:List Nat) (ec:Int) (het:et.length<=1000000) (h:decide (ec=0)=true) (kenc:Con Tryz.prog 30 [.sv 3 n (uF B V D)] [] (.tup [.s et,.i .i64 ec]) []):Con Tryz.prog 15 [.sv 3 n (uF B V D)] [] (.tup [.i .i64 (Int.tdiv (Int.ofNat (List.length et)+36-1) 36),.i .i64 0]) []:=by
 have hz:0<=Int.tdiv (Int.ofNat (List.length et)+36-1) 36/\Int.tdiv (Int.ofNat (List.length et)+36-1) 36<=1000036:=td_bd het
 exact con_d (wdT0_vq (et:=et) (ec:=ec) (n:=n) (B:=B) (V:=V) (D:=D) (h:=h)) (by repeat' first | exact trivial | assumption | exact rfl | exact nT (by assumption) | exact nF (by assumption) | assumption | exact nnT (by assumption) | exact nnF (by assumption) | (unfold rg;simp;omega) | (unfold rg;omega) | (simp;omega) | omega | apply And.intro | decide)
theorem wdF0_vq (et:List Nat) (ec:Int) (n:Nat) (B V:Nat->Int) (D:Nat->List Nat) (h:decide (ec=0)=false):VD Tryz.prog 15 [.sv 3 n (uF B V D)] [] (Orc.cal []
 (.tup [.s et,.i .i64 ec]) [] (Orc.t Orc.z)) (.tup [.i .i64 0,.i .i64 ec]) [] [] 0 (fun Lf=>Con Tryz.prog 30 [.sv 3 n (uF B V D)] [] (.tup [.s et,.i .i64 ec]) []/\
 (!decide (ec=0))=true/\Lf):=by unfold VD VQ;kernel_rfl
theorem wdF_con (n:Nat) (B V:Nat->Int) (D:Nat->List Nat) (et:List Nat) (ec:Int) (h:decide (ec=0)=false) (kenc:Con Tryz.prog 30 [.sv 3 n (uF B V D)] [] (.tup [.s et,.i .i64 ec]) []):Con Tryz.prog 15 [.sv 3 n (uF B V D)] [] (.tup [.i .i64 0,.i .i64 ec]) []:=by
 exact con_d (wdF0_vq (et:=et) (ec:=ec) (n:=n) (B:=B) (V:=V) (D:=D) (h:=h)) (by repeat' first | exact trivial | assumption | exact rfl | exact nT (by assumption) | exact nF (by assumption) | assumption | apply And.intro | decide)
theorem law0_vq (c:CS) (s:SS) (cc:CS) (ss:SS) (ec:Int) (nn:Int) (rr:Int) (n:Nat) (B V:Nat->Int) (D:Nat->List Nat) (h:decide (15<nn)=false):VD
 Tryz.prog 4 [.sv 3 n (uF B V D)] [] (Orc.cal [] (.b true) [] (Orc.c (Orc.cal [] (.sv 3 n (uF B V D)) [] (Orc.cal [] (.tup [.i .i64 nn,.i .i64 ec]) [] (Orc.cal [] (.tup [.i
 .i64 nn,.i .i64 ec]) [] (Orc.t (Orc.t (Orc.t (Orc.f (Orc.t (Orc.t (Orc.f (Orc.f (Orc.cal [] (.tup [.p 0 0,.i .i64 0]) [.set chO,.set nsO,.set noO,.set (SS.o s),.set
 (r3O c false)] (Orc.cal [] (.tup [cfA,.i .i64 0]) [] (Orc.cal [0,1,2,3,4] (.tup [.p 5 0,.l0,.i .i64 0]) [.keep,.keep,.keep,.keep,.keep,.set (lgO 1 1 1 1 0 0 [])]
 (Orc.cal [] (.sv 3 n (uF B V D)) [] (Orc.cal [0,1,2,3,4,6] (.i .i64 ec) [.keep,.keep,.keep,.set (SS.o ss),.set (r3O cc false),.set (lgO 1 1 1 1 rr nn [])] (Orc.t
 (Orc.t (Orc.inl (Orc.c (Orc.t (Orc.t (Orc.t (Orc.t Orc.z)))))))))))))))))))))))))) (.b (decide (15-nn=15-nn))) [] [] 7 (fun Lf=>Con Tryz.prog 9 [] [] (.b true) []/\
 True/\Con Tryz.prog 16 [.sv 3 n (uF B V D)] [] (.sv 3 n (uF B V D)) []/\Con Tryz.prog 15 [.sv 3 n (uF B V D)] [] (.tup [.i .i64 nn,.i .i64 ec]) []/\Con Tryz.prog 17 [.sv
 3 n (uF B V D)] [] (.tup [.i .i64 nn,.i .i64 ec]) []/\(!!decide (nn=nn))=true/\(!!decide (nn=nn))=true/\(!!decide (nn=nn))=true/\(!decide (nn=nn))=false
 /\(!!decide (ec=ec))=true/\(!!decide (ec=ec))=true/\(!decide (ec=ec))=false/\decide (15<nn)=false/\Con Tryz.prog 6 [.i .i64 1] [] (.tup [.p 0 0,.i .i64
 0]) [.set chO,.set nsO,.set noO,.set (SS.o s),.set (r3O c false)]/\Con Tryz.prog 7 [.i .i64 1] [] (.tup [cfA,.i .i64 0]) []/\Con Tryz.prog 8 [.p 0 0,cfA,.i .i64 1,
 .i .i64 1,.i .i64 1] [some chO,some nsO,some noO,some (SS.o s),some (r3O c false)] (.tup [.p 5 0,.l0,.i .i64 0]) [.keep,.keep,.keep,.keep,.keep,.set (lgO 1 1 1 1
 0 0 [])]/\Con Tryz.prog 16 [.sv 3 n (uF B V D)] [] (.sv 3 n (uF B V D)) []/\Con Tryz.prog 10 [.p 5 0,cfA,.sv 3 n (uF B V D)] [some chO,some nsO,some noO,some (SS.o s),
 some (r3O c false),some (lgO 1 1 1 1 0 0 [])] (.i .i64 ec) [.keep,.keep,.keep,.set (SS.o ss),.set (r3O cc false),.set (lgO 1 1 1 1 rr nn [])]/\decide (ec=ec)=true
 /\decide (ec=ec)=true/\True/\True/\rg (15-nn)/\decide (ec=ec)=true/\decide (ec=ec)=true/\rg (15-nn)/\decide (ec=ec)=true/\decide (ec=ec)=true
 /\Lf):=by unfold VD VQ;kernel_rfl
theorem law_con (n:Nat) (B V:Nat->Int) (D:Nat->List Nat) (c cc:CS) (s ss:SS) (nn ec rr:Int) (hnn:0<=nn/\nn<=15) (h:decide (15<nn)=false) (kawk:Con Tryz.prog 9 [] [] (.b true) []) (kown0:Con Tryz.prog 16 [.sv 3 n (uF B V D)] [] (.sv 3 n (uF B V D)) []) (kwid:Con Tryz.prog 15 [.sv 3 n (uF B V D)] [] (.tup [.i .i64 nn,.i .i64 ec]) []) (krwd:Con Tryz.prog 17 [.sv 3 n (uF B V D)] [] (.tup [.i .i64 nn,.i .i64 ec]) []) (knwc:Con Tryz.prog 6 [.i .i64 1] [] (.tup [.p 0 0,.i .i64 0]) [.set chO,.set nsO,.set noO,.set s.o,.set (r3O c false)]) (kfsc:Con Tryz.prog 7 [.i .i64 1] [] (.tup [cfA,.i .i64 0]) []) (kopW:Con Tryz.prog 8 [.p 0 0,cfA,.i .i64 1,.i .i64 1,.i .i64 1] [some chO,some nsO,some noO,some s.o,some (r3O c false)] (.tup [.p 5 0,.l0,.i .i64 0]) [.keep,.keep,.keep,.keep,.keep,.set (lgO 1 1 1 1 0 0 [])]) (kapd:Con Tryz.prog 10 [.p 5 0,cfA,.sv 3 n (uF B V D)] [some chO,some nsO,some noO,some s.o,some (r3O c false),some (lgO 1 1 1 1 0 0 [])] (.i .i64 ec) [.keep,.keep,.keep,.set ss.o,.set (r3O cc false),.set (lgO 1 1 1 1 rr nn [])]):Con Tryz.prog 4 [.sv 3 n (uF B V D)] [] (.b (decide (15-nn=15-nn))) []:=by
 exact con_d (law0_vq (c:=c) (s:=s) (cc:=cc) (ss:=ss) (ec:=ec) (nn:=nn) (rr:=rr) (n:=n) (B:=B) (V:=V) (D:=D) (h:=h)) (by repeat' first | exact trivial | assumption | exact rfl | exact nT (by assumption) | exact nF (by assumption) | assumption | assumption | assumption | assumption | assumption | assumption | assumption | assumption | exact nnT (by assumption) | exact nnF (by assumption) | (unfold rg;omega) | (simp;done) | apply And.intro | decide)
noncomputable def wdN (n:Nat) (B V:Nat->Int) (D:Nat->List Nat):Int:=bif encB n B V D then Int.ofNat (nfr (rcT n B V D)) else 0
theorem rc_540 {n:Nat} {B V:Nat->Int} {D:Nat->List Nat} (h:encB n B V D=true):(rcT n B V D).length<=540:=by
 unfold encB at h
 rw [Bool.and_eq_true,Bool.not_eq_true'] at h
 have:=of_decide_eq_false h.2
 simp at this;omega
theorem wdN_le (n:Nat) (B V:Nat->Int) (D:Nat->List Nat):0<=wdN n B V D/\wdN n B V D<=15:=by
 unfold wdN
 cases h:encB n B V D with
 | false=>exact ⟨Int.le_refl 0,(by decide:(0:Int)<=15)⟩
 | true=>
   have:=rc_540 h
   have e:nfr (rcT n B V D)<=15:=by unfold nfr;omega
   exact ⟨ii0 _,Int.ofNat_le.2 e⟩
theorem width_con {n:Nat} {B V:Nat->Int} {D:Nat->List Nat} (hn:n<=281474976710656) (hb:∀i,i<n->Byt (D i)):Con Tryz.prog 15 [.sv 3 n (uF B V D)] [] (.tup [.i .i64 (wdN n B V D),.i .i64 (encE n B V D)]) []:=by
 have e:=enc_con n B V D hn hb
 unfold wdN
 cases h:encB n B V D with
 | false=>
   have e2:encE n B V D=2:=by unfold encE;rw [h];rfl
   rw [e2] at e⊢
   exact wdF_con n B V D _ 2 rfl e
 | true=>
   have e2:encE n B V D=0:=by unfold encE;rw [h];rfl
   rw [e2,show encT n B V D=rcT n B V D by unfold encT;rw [h];rfl] at e
   rw [e2]
   have:=rc_540 h
   have q:=wdT_con n B V D _ 0 (by omega) rfl e
   rw [td_eq] at q
   exact q
theorem widths_con (n:Nat) (B V:Nat->Int) (D:Nat->List Nat) (hn:n<=5000000000000) (hb:∀i,i<n->Byt (D i)):Con Tryz.prog 4 [.sv 3 n (uF B V D)] [] (.b true) []:=by
 obtain ⟨c,s,kn,l0,z0⟩:=LV.new
 have y0:∀j,j<128->blkD (c.d j)=[]/\blkQ (c.d j)=0:=fun j hj=>by rw [z0 j hj];exact ⟨by kernel_rfl,by kernel_rfl⟩
 have kop:=LV.openN l0 1 1 1 (by decide) (by decide) (by decide) (fun b h0 h1=>(y0 b.toNat (by omega)).1)
 have wl:=wdN_le n B V D
 have key:∃C S rr,Con Tryz.prog 10 [.p 5 0,cfA,.sv 3 n (uF B V D)] (obL c s ++ [some (lgO 1 1 1 1 0 0 [])]) (.i .i64 (encE n B V D)) [.keep,.keep,.keep,.set (SS.o S),.set (r3O C false),.set (lgO 1 1 1 1 rr (wdN n B V D) [])]:=by
  cases h:encB n B V D with
  | false=>
    refine ⟨c,s,0,?_⟩
    have q:=append_no (by omega) hb h c s 1 1 1 (by decide)
    rw [show encE n B V D=2 by unfold encE;rw [h];rfl,show wdN n B V D=0 by unfold wdN;rw [h];rfl]
    exact q.post (.refl _) (OVL.refl _)
  | true=>
    obtain ⟨_,C,S,q,_⟩:=append_ok (by omega) hb h l0 (by decide) 1 (by decide) 1 1 (by decide) (by decide) (fun j h1 h2=>(y0 j (by omega)).2)
    refine ⟨C,S,1,?_⟩
    rw [show encE n B V D=0 by unfold encE;rw [h];rfl,show wdN n B V D=Int.ofNat (nfr (rcT n B V D)) by unfold wdN;rw [h];rfl]
    exact q
 obtain ⟨C,S,rr,kap⟩:=key
 have q:=law_con n B V D c C s S (wdN n B V D) (encE n B V D) rr wl (decide_eq_false (by omega)) awake_con (own_con n B V D hn) (width_con (by omega) hb) (rwidth_con (by omega) hb) kn fs_con kop kap
 rw [decide_eq_true rfl] at q
 exact q
end Go.Proofs.Ly
