/- Runs over unknown values, told by the kernel: part GF. -/
import Derived.Test.YthhjjpofenjknaaDoorGE
noncomputable section
open Int (ofNat)
set_option linter.unusedSimpArgs false
set_option linter.unusedVariables false
set_option maxRecDepth 20000
namespace Go.Proofs.Cl
open Go Go.Sim Go.Proofs Go.Proofs.Cd Go.Proofs.St Go.Proofs.YthhjjpofenjknaaDoor
theorem mR8 {n:Nat} (hn:n<9223372036854775808):mR n<=8:=by
 obtain ⟨_,mge,_⟩:=mR_ok hn
 rcases Nat.lt_or_ge 8 (mR n) with q | q
 · have h:=mge 8 q
   have:128*128 ^ 8<=n:=(Nat.le_div_iff_mul_le (by decide)).1 h
   have e:128*128 ^ 8=9223372036854775808:=by decide
   omega
 · exact q
def Form (n:Nat) (b:Nat->Nat):Prop:=∀i,i<wl n->ofNat (b i)=wB n i
theorem Form.lo {n:Nat} {b:Nat->Nat} (h:Form n b) {i:Nat} (hi:i<mR n):b i=n / 128 ^ i % 128+128:=by
 have e:=h i (by unfold wl;omega)
 unfold wB at e
 rw [show Nat.blt i (mR n)=true by rw [Nat.blt_eq];exact hi,cond_true,chN_eq] at e
 exact Int.ofNat.inj e
theorem Form.hi {n:Nat} {b:Nat->Nat} (h:Form n b):b (mR n)=lst n:=by
 have e:=h (mR n) (by unfold wl;omega)
 unfold wB at e
 rw [show Nat.blt (mR n) (mR n)=false by rw [Bool.eq_false_iff,ne_eq,Nat.blt_eq];omega,cond_false] at e
 exact Int.ofNat.inj e
theorem pow128 (i:Nat):2 ^ (7*i)=128 ^ i:=by rw [Nat.pow_mul]
theorem Form.nV {n:Nat} {b:Nat->Nat} (h:Form n b):∀i,i<=mR n->nV b i=n % 128 ^ i
 | 0,_=>by show 0=n % 1;omega
 | i+1,hi=>by
   have ih:=h.nV i (by omega)
   show Cl.nV b i+b i % 128*2 ^ (7*i)= _
   rw [ih,h.lo (by omega),pow128,Nat.pow_succ,Nat.mod_mul]
   have:(n / 128 ^ i % 128+128) % 128=n / 128 ^ i % 128:=by omega
   rw [this,Nat.mul_comm]
theorem Form.nm {n:Nat} {b:Nat->Nat} {L:Nat} (h:Form n b) (hn:n<9223372036854775808) (hL:wl n<=L):∀k i,i+k=9->i<=mR n->nm b L k i=some (n,wl n,0):=by
 obtain ⟨_,mge,mlt⟩:=mR_ok hn
 have m8:=mR8 hn
 intro k
 induction k with
 | zero=>intro i h1 h2;omega
 | succ k ih=>
   intro i h1 h2
   show (match Nat.beq i L with
    | true=>some (0,0,10)
    | false=>match Nat.ble 128 (b i) with
      | true=>Cl.nm b L k (i+1)
      | false=>match Nat.beq (b i) 0 && Nat.blt 0 i with
        | true=>some (0,0,11)
        | false=>some (Cl.nV b (i+1),i+1,0))=some (n,wl n,0)
   rw [show Nat.beq i L=false by rw [Bool.eq_false_iff,ne_eq,Nat.beq_eq];unfold wl at hL;omega]
   rcases Nat.lt_or_ge i (mR n) with q | q
   · rw [Nat.ble_eq_true_of_le (show 128<=b i by rw [h.lo q];omega)]
     exact ih (i+1) (by omega) (by omega)
   · have e:i=mR n:=by omega
     subst e
     have hb:=h.hi
     have hl:lst n<128:=mlt
     rw [show Nat.ble 128 (b (mR n))=false by rw [Bool.eq_false_iff,ne_eq,Nat.ble_eq,hb];omega]
     have hz:(Nat.beq (b (mR n)) 0 && Nat.blt 0 (mR n))=false:=by
      cases hp:Nat.blt 0 (mR n) with
      | false=>simp
      | true=>
        have hp:0<mR n:=by rwa [Nat.blt_eq] at hp
        have h3:=mge (mR n-1) (by omega)
        have h4:n / 128 ^ (mR n-1) / 128=n / 128 ^ mR n:=by
         rw [div_s,show mR n-1+1=mR n by omega]
        have h5:lst n≠0:=by
         show n / 128 ^ mR n≠0
         rw [<-h4];omega
        rw [hb,show Nat.beq (lst n) 0=false by rw [Bool.eq_false_iff,ne_eq,Nat.beq_eq];exact h5];rfl
     rw [hz]
     have hv:Cl.nV b (mR n+1)=n:=by
      show Cl.nV b (mR n)+b (mR n) % 128*2 ^ (7*mR n)=n
      rw [h.nV _ (Nat.le_refl _),hb,pow128,Nat.mod_eq_of_lt hl]
      show n % 128 ^ mR n+n / 128 ^ mR n*128 ^ mR n=n
      rw [Nat.mul_comm];exact Nat.mod_add_div n (128 ^ mR n)
     rw [hv];rfl
theorem Form.reads {n:Nat} {b:Nat->Nat} {L:Nat} (h:Form n b) (hn:n<9223372036854775808) (hL:wl n<=L):nmv b L=n/\nmz b L=wl n/\nme b L=0:=by
 have k:=h.nm hn hL 9 0 rfl (Nat.zero_le _)
 refine ⟨?_,?_,?_⟩
 · unfold nmv;rw [k];rfl
 · unfold nmz;rw [k];rfl
 · unfold nme;rw [k];rfl
theorem wB_lt {n:Nat} (hn:n<9223372036854775808) (i:Nat):∃m:Nat,m<256/\wB n i=ofNat m:=by
 unfold wB
 cases Nat.blt i (mR n) with
 | true=>exact ⟨_,by omega,chN_eq _⟩
 | false=>exact ⟨lst n,by have:=(mR_ok hn).2.2;unfold lst;omega,rfl⟩
theorem wG_lt {g:Nat->Int} {k n:Nat} (hn:n<9223372036854775808) (h:∀i,∃m:Nat,m<256/\g i=ofNat m) (i:Nat):∃m:Nat,m<256/\wG g k n i=ofNat m:=by
 unfold wG
 cases Nat.blt i k with
 | true=>exact h i
 | false=>exact wB_lt hn _
theorem wG_left {g:Nat->Int} {k n i:Nat} (h:i<k):wG g k n i=g i:=by
 unfold wG
 rw [show Nat.blt i k=true by rw [Nat.blt_eq];exact h];rfl
theorem wG_right {g:Nat->Int} {k n:Nat} (i:Nat):wG g k n (k+i)=wB n i:=by
 unfold wG
 rw [show Nat.blt (k+i) k=false by rw [Bool.eq_false_iff,ne_eq,Nat.blt_eq];omega,cond_false,Nat.add_sub_cancel_left]
end Go.Proofs.Cl
namespace Go.Proofs.Cl
open Go Go.Sim Go.Proofs Go.Proofs.Cd Go.Proofs.YthhjjpofenjknaaDoor
theorem newR_vq (L:Nat) (b:Nat->Nat):VD PG 43 [.sv 1 L (byF b)] [] (.cal [] (.sv 1 L (byF b)) [] .z) (.p 0 0) [.set (rdO L b 0)] [0] 1 (fun Lf=>Con PG 65 [.sv 1 L (byF b)] [] (.sv 1 L (byF b)) []/\Lf):=by unfold VD VQ;kernel_rfl
theorem text_vq (L:Nat) (b:Nat->Nat) (M z n:Nat) (h1:decide (ofNat M<ofNat n)=false) (h2:decide (ofNat L-ofNat z<ofNat n)=false):VD PG 67 [.sv 1 L (byF b),.i .i64 (ofNat M)] [] (.cal [] (.tup [.i .i64 (ofNat n),.i .i64 (ofNat z),.i .i64 0]) [] (.c (.f (.f .z)))) (.tup [.s (bytesF (Int.toNat (ofNat z+ofNat n)-z) (shiftF z (byF b))),.i .i64 (ofNat z+ofNat n),.i .i64 0]) [] [] 0 (fun Lf=>Con PG 66 [.sv 1 L (byF b)] [] (.tup [.i .i64 (ofNat n),.i .i64 (ofNat z),.i .i64 0]) []/\decide (ofNat M<ofNat n)=false/\rg (ofNat L-ofNat z)/\decide (ofNat L-ofNat z<ofNat n)=false/\rg (ofNat z+ofNat n)/\(0<=ofNat z/\0<=ofNat z+ofNat n/\z<=Int.toNat (ofNat z+ofNat n)/\Int.toNat (ofNat z+ofNat n)<=L)/\U8s (Int.toNat (ofNat z+ofNat n)-z) (shiftF z (byF b))/\rg (ofNat z+ofNat n)/\Lf):=by unfold VD VQ;kernel_rfl
theorem rdText_vq (L:Nat) (b:Nat->Nat) (z:Nat) (tt:List Nat):VD PG 45 [.p 0 0,.i .i64 1100] [some (rdO L b 0)] (.inl (oc 2 (.cal [] (.tup [.s tt,.i .i64 (ofNat z),.i .i64 0]) [] .z))) (.s tt) [.set (.cells 130 2 [] (setAll .e 0 [.sv 1 (L-z) (shiftF z (byF b)),.i .i64 0]))] [] 1 (fun Lf=>True/\True/\True/\Con PG 67 [.sv 1 L (byF b),.i .i64 1100] [] (.tup [.s tt,.i .i64 (ofNat z),.i .i64 0]) []/\True/\True/\(0<=ofNat z/\True/\z<=L/\L<=L)/\True/\Lf):=by unfold VD VQ;kernel_rfl
theorem rdErr_vq (L:Nat) (b:Nat->Nat) (e:Int):VD PG 46 [.p 0 0] [some (rdO L b e)] (.c .z) (.i .i64 e) [.keep] [] 1 (fun Lf=>True/\True/\Lf):=by unfold VD VQ;kernel_rfl
theorem rdLeft_vq (L:Nat) (b:Nat->Nat) (e:Int):VD PG 47 [.p 0 0] [some (rdO L b e)] (.c .z) (.i .i64 (ofNat L)) [.keep] [] 1 (fun Lf=>True/\True/\Lf):=by unfold VD VQ;kernel_rfl
theorem newR_con (L:Nat) (b:Nat->Nat) (hL:L<=1073741824):Con PG 43 [.sv 1 L (byF b)] [] (.p 0 0) [.set (rdO L b 0)]:=
 con_d (newR_vq L b) ⟨cloneB_con L b hL,rfl⟩
theorem rdErr_con (L:Nat) (b:Nat->Nat) (e:Int):Con PG 46 [.p 0 0] [some (rdO L b e)] (.i .i64 e) [.keep]:=con_d (rdErr_vq L b e) ⟨trivial,trivial,rfl⟩
theorem rdLeft_con (L:Nat) (b:Nat->Nat) (e:Int):Con PG 47 [.p 0 0] [some (rdO L b e)] (.i .i64 (ofNat L)) [.keep]:=con_d (rdLeft_vq L b e) ⟨trivial,trivial,rfl⟩
theorem shift_by (z:Nat) (b:Nat->Nat):shiftF z (byF b)=byF (shB z b):=by
 funext i j
 rw [shiftF_eq];rfl
def TForm (t:List Nat) (b:Nat->Nat):Prop:=(∀i,i<wl t.length->ofNat (b i)=wB t.length i)/\∀i,i<t.length->b (wl t.length+i)=t.getD i 0
theorem bytesF_eq {t:List Nat} {f:Nat->Nat->CV} {n:Nat} (hn:n=t.length) (ht:∀x∈t,x<256) (h:∀i,i<n->f i 0=.i .u8 (ofNat (t.getD i 0))):bytesF n f=t:=by
 subst hn
 refine List.ext_getElem? fun i=>?_
 unfold bytesF
 rw [List.getElem?_map]
 by_cases h2:i<t.length
 · rw [List.getElem?_range h2,List.getElem?_eq_getElem h2]
   have e:t.getD i 0=t[i]:=by rw [List.getD_eq_getElem?_getD,List.getElem?_eq_getElem h2];rfl
   show some (Go.Sim.byteOf (f i 0))= _
   rw [h i h2]
   show some ((t.getD i 0) % 256)=some t[i]
   rw [e,Nat.mod_eq_of_lt (ht _ (List.getElem_mem h2))]
 · rw [List.getElem?_eq_none (by simpa using h2),List.getElem?_eq_none (by omega)];rfl
theorem rdText_con (L:Nat) (b:Nat->Nat) (t:List Nat) (hb:∀k,b k<256) (ht:∀x∈t,x<256) (h1:t.length<=1100) (hL:wl t.length+t.length<=L) (hLm:L<=1073741824) (f:TForm t b) :
 Con PG 45 [.p 0 0,.i .i64 1100] [some (rdO L b 0)] (.s t) [.set (rdO (L-(wl t.length+t.length)) (shB (wl t.length+t.length) b) 0)]:=by
 obtain ⟨e1,e2,e3⟩:=Form.reads (n:=t.length) (b:=b) (L:=L) f.1 (by omega) (by omega)
 have nu:=num_con b L hb
 rw [e1,e2,e3] at nu
 generalize hz:wl t.length=z at *
 have d1:decide (ofNat 1100<ofNat t.length)=false:=decide_eq_false (by simp;omega)
 have d2:decide (ofNat L-ofNat z<ofNat t.length)=false:=decide_eq_false (by simp;omega)
 have eN:Int.toNat (ofNat z+ofNat t.length)=z+t.length:=by simp;omega
 have u:U8s (Int.toNat (ofNat z+ofNat t.length)-z) (shiftF z (byF b)):=fun i hi=>by
  rw [shift_by];exact ⟨_,rfl⟩
 have tx:=con_d (text_vq L b 1100 z t.length d1 d2) ⟨nu,d1,⟨by simp;omega,by simp;omega⟩,d2,⟨by simp;omega,by simp;omega⟩,⟨by simp,by simp;omega,by omega,by omega⟩,u,⟨by simp;omega,by simp;omega⟩,rfl⟩
 have eS:bytesF (Int.toNat (ofNat z+ofNat t.length)-z) (shiftF z (byF b))=t:=bytesF_eq (by omega) ht fun i hi=>by
  rw [shift_by]
  show CV.i .u8 (ofNat (b (z+i)))= _
  have q:=f.2 i (by omega)
  rw [hz] at q
  rw [q]
 have e4:(ofNat z+ofNat t.length)=ofNat (z+t.length):=rfl
 rw [eS,e4] at tx
 have r:=con_d (rdText_vq L b (z+t.length) t) ⟨trivial,trivial,trivial,tx,trivial,trivial,⟨by simp;omega,trivial,hL,Nat.le_refl _⟩,trivial,rfl⟩
 rw [shift_by] at r
 exact r
end Go.Proofs.Cl
namespace Go.Proofs.Cl
open Go Go.Sim Go.Proofs Go.Proofs.Cd Go.Proofs.Jn
structure AK where
 p:Nat
 d:Nat
 st:List Nat
 pb:Nat
 pv:List Nat
def aO (j:JS) (k:AK):AObj:=cellsO 54 [.p 0 0,.i .i64 (ofNat j.gen),.i .i64 (ofNat j.area),.i .i64 (ofNat j.recs),.i .i64 j.room,.b j.dead,.i .i64 (ofNat k.p),.i .i64 (ofNat k.d),.s k.st,.i .i64 (ofNat k.pb),.s k.pv]
def rcV (k x:Nat) (t:List Nat):AV:=.agg [.i .i64 (ofNat k),.i .i64 (ofNat x),.s t]
def rcW (k:Int) (x:Nat) (t:List Nat):AV:=.agg [.i .i64 k,.i .i64 (ofNat x),.s t]
abbrev k0 (t:List Nat):AK:=⟨0,0,t,0,[]⟩
end Go.Proofs.Cl
namespace Go.Proofs.Cl
open Go Go.Sim Go.Proofs Go.Proofs.Cd Go.Proofs.St Go.Proofs.Jn Go.Proofs.YthhjjpofenjknaaDoor
theorem by1_vq (L1 L2:Nat) (G1 G2:Nat->Int) (x:Nat) (t:List Nat):VD PG 35 [rcW 1 x t] [] (.cal [1] (.tup []) [.set (wO L1),.set (shO 2 L1),.set (AObj.rows 5 1 L1 (iF G1))] (.cal [1,2,3] (.tup []) [.set (wO L2),.set (shO 3 L2),.gone,.set (AObj.rows 5 1 L2 (iF G2))] (.c (.cal [1,2,4] (.sv 1 L2 (iF G2)) [.keep,.keep,.gone] .z)))) (.sv 1 L2 (iF G2)) [] [] 5 (fun Lf=>True/\Con PG 53 [.p 0 0,.i .i64 1] [some w0O] (.tup []) [.set (wO L1),.set (shO 2 L1),.set (AObj.rows 5 1 L1 (iF G1))]/\True/\Con PG 53 [.p 0 0,.i .i64 (ofNat x)] [some (wO L1),some (shO 2 L1),some (AObj.rows 5 1 L1 (iF G1))] (.tup []) [.set (wO L2),.set (shO 3 L2),.gone,.set (AObj.rows 5 1 L2 (iF G2))]/\True/\Con PG 55 [.p 0 0] [some (wO L2),some (shO 2 L2),some (AObj.rows 5 1 L2 (iF G2))] (.sv 1 L2 (iF G2)) [.keep,.keep,.gone]/\Lf):=by unfold VD VQ;kernel_rfl
theorem by2_vq (L1 L2 L3:Nat) (G1 G2 G3:Nat->Int) (x:Nat) (t:List Nat):VD PG 35 [rcW 2 x t] [] (.cal [1] (.tup []) [.set (wO L1),.set (shO 2 L1),.set (AObj.rows 5 1 L1 (iF G1))] (.cal [1,2,3] (.tup []) [.set (wO L2),.set (shO 3 L2),.gone,.set (AObj.rows 5 1 L2 (iF G2))] (.c (.cal [1,2,4] (.tup []) [.set (wO L3),.set (shO 3 L3),.gone,.set (AObj.rows 5 1 L3 (iF G3))] (.cal [1,2,5] (.sv 1 L3 (iF G3)) [.keep,.keep,.gone] .z))))) (.sv 1 L3 (iF G3)) [] [] 6 (fun Lf=>True/\Con PG 53 [.p 0 0,.i .i64 2] [some w0O] (.tup []) [.set (wO L1),.set (shO 2 L1),.set (AObj.rows 5 1 L1 (iF G1))]/\True/\Con PG 53 [.p 0 0,.i .i64 (ofNat x)] [some (wO L1),some (shO 2 L1),some (AObj.rows 5 1 L1 (iF G1))] (.tup []) [.set (wO L2),.set (shO 3 L2),.gone,.set (AObj.rows 5 1 L2 (iF G2))]/\True/\True/\Con PG 54 [.p 0 0,.s t] [some (wO L2),some (shO 2 L2),some (AObj.rows 5 1 L2 (iF G2))] (.tup []) [.set (wO L3),.set (shO 3 L3),.gone,.set (AObj.rows 5 1 L3 (iF G3))]/\Con PG 55 [.p 0 0] [some (wO L3),some (shO 2 L3),some (AObj.rows 5 1 L3 (iF G3))] (.sv 1 L3 (iF G3)) [.keep,.keep,.gone]/\Lf):=by unfold VD VQ;kernel_rfl
theorem by3_vq (L1 L2 L3:Nat) (G1 G2 G3:Nat->Int) (x:Nat) (t:List Nat):VD PG 35 [rcW 3 x t] [] (.cal [1] (.tup []) [.set (wO L1),.set (shO 2 L1),.set (AObj.rows 5 1 L1 (iF G1))] (.cal [1,2,3] (.tup []) [.set (wO L2),.set (shO 3 L2),.gone,.set (AObj.rows 5 1 L2 (iF G2))] (.c (.cal [1,2,4] (.tup []) [.set (wO L3),.set (shO 3 L3),.gone,.set (AObj.rows 5 1 L3 (iF G3))] (.cal [1,2,5] (.sv 1 L3 (iF G3)) [.keep,.keep,.gone] .z))))) (.sv 1 L3 (iF G3)) [] [] 6 (fun Lf=>True/\Con PG 53 [.p 0 0,.i .i64 3] [some w0O] (.tup []) [.set (wO L1),.set (shO 2 L1),.set (AObj.rows 5 1 L1 (iF G1))]/\True/\Con PG 53 [.p 0 0,.i .i64 (ofNat x)] [some (wO L1),some (shO 2 L1),some (AObj.rows 5 1 L1 (iF G1))] (.tup []) [.set (wO L2),.set (shO 3 L2),.gone,.set (AObj.rows 5 1 L2 (iF G2))]/\True/\True/\Con PG 54 [.p 0 0,.s t] [some (wO L2),some (shO 2 L2),some (AObj.rows 5 1 L2 (iF G2))] (.tup []) [.set (wO L3),.set (shO 3 L3),.gone,.set (AObj.rows 5 1 L3 (iF G3))]/\Con PG 55 [.p 0 0] [some (wO L3),some (shO 2 L3),some (AObj.rows 5 1 L3 (iF G3))] (.sv 1 L3 (iF G3)) [.keep,.keep,.gone]/\Lf):=by unfold VD VQ;kernel_rfl
theorem ro1_vq (L1 L2 x:Nat) (B0 B1 B2:Nat->Nat):VD PG 33 [.sv 1 L1 (byF B0)] [] (.cal [] (.p 0 0) [.set (rdO L1 B0 0)] (.cal [1] (.i .i64 1) [.set (rdO L2 B1 0)] (.cal [1] (.i .i64 (ofNat x)) [.set (rdO 0 B2 0)] (.c (.cal [1] (.i .i64 0) [.keep] (oc 2 (.cal [1] (.i .i64 0) [.keep] (oc 2 .z)))))))) (.tup [.agg [.i .i64 1,.i .i64 (ofNat x),.s []],.b true]) [] [] 3 (fun Lf=>Con PG 43 [.sv 1 L1 (byF B0)] [] (.p 0 0) [.set (rdO L1 B0 0)]/\Con PG 44 [.p 0 0] [some (rdO L1 B0 0)] (.i .i64 1) [.set (rdO L2 B1 0)]/\Con PG 44 [.p 0 0] [some (rdO L2 B1 0)] (.i .i64 (ofNat x)) [.set (rdO 0 B2 0)]/\True/\True/\Con PG 46 [.p 0 0] [some (rdO 0 B2 0)] (.i .i64 0) [.keep]/\Con PG 47 [.p 0 0] [some (rdO 0 B2 0)] (.i .i64 0) [.keep]/\Lf):=by unfold VD VQ;kernel_rfl
theorem ro2_vq (L1 L2 L3 x:Nat) (t:List Nat) (B0 B1 B2 B3:Nat->Nat):VD PG 33 [.sv 1 L1 (byF B0)] [] (.cal [] (.p 0 0) [.set (rdO L1 B0 0)] (.cal [1] (.i .i64 2) [.set (rdO L2 B1 0)] (.cal [1] (.i .i64 (ofNat x)) [.set (rdO L3 B2 0)] (.c (.cal [1] (.s t) [.set (rdO 0 B3 0)] (.cal [1] (.i .i64 0) [.keep] (oc 2 (.cal [1] (.i .i64 0) [.keep] (oc 2 .z))))))))) (.tup [.agg [.i .i64 2,.i .i64 (ofNat x),.s t],.b true]) [] [] 3 (fun Lf=>Con PG 43 [.sv 1 L1 (byF B0)] [] (.p 0 0) [.set (rdO L1 B0 0)]/\Con PG 44 [.p 0 0] [some (rdO L1 B0 0)] (.i .i64 2) [.set (rdO L2 B1 0)]/\Con PG 44 [.p 0 0] [some (rdO L2 B1 0)] (.i .i64 (ofNat x)) [.set (rdO L3 B2 0)]/\True/\True/\Con PG 45 [.p 0 0,.i .i64 1100] [some (rdO L3 B2 0)] (.s t) [.set (rdO 0 B3 0)]/\True/\Con PG 46 [.p 0 0] [some (rdO 0 B3 0)] (.i .i64 0) [.keep]/\Con PG 47 [.p 0 0] [some (rdO 0 B3 0)] (.i .i64 0) [.keep]/\Lf):=by unfold VD VQ;kernel_rfl
theorem ro3_vq (L1 L2 L3 x:Nat) (t:List Nat) (B0 B1 B2 B3:Nat->Nat):VD PG 33 [.sv 1 L1 (byF B0)] [] (.cal [] (.p 0 0) [.set (rdO L1 B0 0)] (.cal [1] (.i .i64 3) [.set (rdO L2 B1 0)] (.cal [1] (.i .i64 (ofNat x)) [.set (rdO L3 B2 0)] (.c (.cal [1] (.s t) [.set (rdO 0 B3 0)] (.cal [1] (.i .i64 0) [.keep] (oc 2 (.cal [1] (.i .i64 0) [.keep] (oc 2 .z))))))))) (.tup [.agg [.i .i64 3,.i .i64 (ofNat x),.s t],.b true]) [] [] 3 (fun Lf=>Con PG 43 [.sv 1 L1 (byF B0)] [] (.p 0 0) [.set (rdO L1 B0 0)]/\Con PG 44 [.p 0 0] [some (rdO L1 B0 0)] (.i .i64 3) [.set (rdO L2 B1 0)]/\Con PG 44 [.p 0 0] [some (rdO L2 B1 0)] (.i .i64 (ofNat x)) [.set (rdO L3 B2 0)]/\True/\True/\Con PG 45 [.p 0 0,.i .i64 1100] [some (rdO L3 B2 0)] (.s t) [.set (rdO 0 B3 0)]/\True/\Con PG 46 [.p 0 0] [some (rdO 0 B3 0)] (.i .i64 0) [.keep]/\Con PG 47 [.p 0 0] [some (rdO 0 B3 0)] (.i .i64 0) [.keep]/\Lf):=by unfold VD VQ;kernel_rfl
theorem tk1_vq (x:Nat) (t:List Nat) (j:JS) (s:SS) (k:AK) (h1:decide (ofNat x<ofNat k.p)=false):VD PG 22 [.p 1 6,rcW 1 x t] [some s.o,some (aO j k)] (.cal [] (.b true) [] (oc 2 (.f .z))) (.b true) [.keep,.set (aO j { k with p:=x})] [] 3 (fun Lf=>True/\Con PG 23 [.i .i64 (ofNat x)] [] (.b true) []/\True/\True/\True/\True/\decide (ofNat x<ofNat (AK.p k))=false/\True/\True/\Lf):=by unfold VD VQ;kernel_rfl
theorem tk2_vq (x:Nat) (t:List Nat) (j:JS) (s:SS) (k:AK) (h1:decide (ofNat x<ofNat k.p)=false):VD PG 22 [.p 1 6,rcW 2 x t] [some s.o,some (aO j k)] (.cal [] (.b true) [] (oc 3 (ot 3 (.cal [] (.b true) [] (.t (.f (.c .z))))))) (.b true) [.keep,.set (aO j { k with p:=x,pb:=x,pv:=t})] [] 3 (fun Lf=>True/\Con PG 23 [.i .i64 (ofNat x)] [] (.b true) []/\True/\True/\True/\True/\(!decide (ofNat x<ofNat (AK.p k)))=true/\True/\r2 ((!decide (ofNat x<ofNat (AK.p k)))=true) (Con PG 25 [.s t] [] (.b true) []/\(!decide (ofNat x<ofNat (AK.p k)))=true/\True/\decide (ofNat x<ofNat (AK.p k))=false/\True/\True/\True/\True/\True/\Lf)):=by unfold VD VQ;kernel_rfl
theorem tk3_vq (x:Nat) (t:List Nat) (j:JS) (s:SS) (k:AK) (h1:decide (ofNat x<=ofNat k.d)=false):VD PG 22 [.p 1 6,rcW 3 x t] [some s.o,some (aO j k)] (.cal [] (.b true) [] (oc 4 (.f .z))) (.b true) [.keep,.set (aO j { k with d:=x,st:=t,pb:=0,pv:=[]})] [] 3 (fun Lf=>True/\Con PG 23 [.i .i64 (ofNat x)] [] (.b true) []/\True/\True/\True/\True/\decide (ofNat x<=ofNat (AK.d k))=false/\True/\True/\True/\True/\True/\Lf):=by unfold VD VQ;kernel_rfl
theorem ct_vc (x:Int) (K:Res->Orc->Prop):runK PG 1000000 (.call 23 [.i .i64 x] (mkH [])) (.s (.t (.t .z)) (.f (.f .z))) K=((decide (1<=x)=true->decide (1<=x)=true/\decide (1<=x)=true/\K (.rv (.b (decide (x<=1099511627776))) ⟨.e,0,[]⟩) .z)/\(decide (1<=x)=false->decide (1<=x)=false/\decide (1<=x)=false/\K (.rv (.b false) ⟨.e,0,[]⟩) .z)):=by kernel_rfl
theorem iv_vc (t:List Nat) (K:Res->Orc->Prop):runK PG 1000000 (.call 25 [.s t] (mkH [])) (.s (ot 3 .z) (of_ 3 .z)) K=((decide (1<=ofNat (List.length t))=true->decide (1<=ofNat (List.length t))=true/\decide (1<=ofNat (List.length t))=true/\decide (1<=ofNat (List.length t))=true/\K (.rv (.b (decide (ofNat (List.length t)<=100))) ⟨.e,0,[]⟩) .z)/\(decide (1<=ofNat (List.length t))=false->decide (1<=ofNat (List.length t))=false/\decide (1<=ofNat (List.length t))=false/\decide (1<=ofNat (List.length t))=false/\K (.rv (.b false) ⟨.e,0,[]⟩) .z)):=by kernel_rfl
theorem is_vc (t:List Nat) (K:Res->Orc->Prop):runK PG 1000000 (.call 19 [.s t] (mkH [])) (.z) K=(K (.rv (.b (decide (ofNat (List.length t)<=1100))) ⟨.e,0,[]⟩) .z):=by kernel_rfl
structure Rc where
 k:Nat
 x:Nat
 t:List Nat
def h2G (k x:Nat):Nat->Int:=wG (wB k) (wl k) x
def Rc.G (r:Rc):Nat->Int:=bif Nat.beq r.k 1 then h2G r.k r.x else wtG (h2G r.k r.x) (wl r.k+wl r.x) r.t
def Rc.L (r:Rc):Nat:=bif Nat.beq r.k 1 then wl r.k+wl r.x else wl r.k+wl r.x+wl r.t.length+r.t.length
def nB (G:Nat->Int):Nat->Nat:=fun i=>(G i).toNat
def Rc.B (r:Rc):Nat->Nat:=nB r.G
structure Rc.ok (r:Rc):Prop where
 k:r.k=1/\r.t=[]\/r.k=2\/r.k=3
 x:1<=r.x/\r.x<=1099511627776
 t:∀y∈r.t,y<256
 l:r.t.length<=1100
theorem wl_1 {k:Nat} (h:k<128):wl k=1:=by
 unfold wl mR mRf
 rw [show Nat.blt k 128=true by rw [Nat.blt_eq];exact h]
theorem wl6 {n:Nat} (h:n<4398046511104):wl n<=6:=by
 obtain ⟨_,mge,_⟩:=mR_ok (n:=n) (by omega)
 unfold wl
 rcases Nat.lt_or_ge 5 (mR n) with q | q
 · have a:=mge 5 q
   have:128*128 ^ 5<=n:=(Nat.le_div_iff_mul_le (by decide)).1 a
   have e:128*128 ^ 5=4398046511104:=by decide
   omega
 · omega
theorem wl2 {n:Nat} (h:n<16384):wl n<=2:=by
 obtain ⟨_,mge,_⟩:=mR_ok (n:=n) (by omega)
 unfold wl
 rcases Nat.lt_or_ge 1 (mR n) with q | q
 · have a:=mge 1 q
   have:128*128 ^ 1<=n:=(Nat.le_div_iff_mul_le (by decide)).1 a
   omega
 · omega
theorem nn_h2 (k x:Nat):∀i,∃m:Nat,h2G k x i=ofNat m:=wG_nn fun i=>wB_nn i
theorem nn_tx {g:Nat->Int} {K:Nat} (t:List Nat) (h:∀i,∃m:Nat,g i=ofNat m) (i:Nat):∃m:Nat,txG g K t i=ofNat m:=by
 unfold txG
 cases Nat.blt i K with
 | true=>exact h i
 | false=>exact ⟨_,rfl⟩
theorem Rc.nn (r:Rc):∀i,∃m:Nat,r.G i=ofNat m:=by
 unfold Rc.G
 cases Nat.beq r.k 1 with
 | true=>exact nn_h2 _ _
 | false=>exact nn_tx _ (wG_nn (nn_h2 _ _))
theorem Rc.G_eq (r:Rc) (i:Nat):ofNat (r.B i)=r.G i:=by
 obtain ⟨m,h⟩:=r.nn i
 unfold Rc.B nB
 rw [h];rfl
theorem Rc.byF (r:Rc):Cl.iF r.G=Cd.byF r.B:=by
 funext i j
 show CV.i .u8 (r.G i)=CV.i .u8 (ofNat (r.B i))
 rw [r.G_eq]
theorem lt_h2 {k x:Nat} (hk:k<9223372036854775808) (hx:x<9223372036854775808):∀i,∃m:Nat,m<256/\h2G k x i=ofNat m:=wG_lt hx fun i=>wB_lt hk i
theorem tget_lt {t:List Nat} (ht:∀y∈t,y<256) (i:Nat):t.getD i 0<256:=by
 rw [List.getD_eq_getElem?_getD]
 by_cases h:i<t.length
 · rw [List.getElem?_eq_getElem h];exact ht _ (List.getElem_mem h)
 · rw [List.getElem?_eq_none (by omega)];decide
theorem Rc.B_lt {r:Rc} (h:r.ok) (i:Nat):r.B i<256:=by
 have hk:r.k<9223372036854775808:=by rcases h.k with ⟨e,_⟩ | e | e<;>omega
 have hx:=h.x
 have key:∃m:Nat,m<256/\r.G i=ofNat m:=by
  unfold Rc.G
  cases Nat.beq r.k 1 with
  | true=>exact lt_h2 hk (by omega) i
  | false=>
    show ∃m:Nat,m<256/\txG _ _ r.t i=ofNat m
    unfold txG
    cases Nat.blt i (wl r.k+wl r.x+wl r.t.length) with
    | true=>exact wG_lt (by have:=h.l;omega) (lt_h2 hk (by omega)) i
    | false=>exact ⟨_,tget_lt h.t _,rfl⟩
 obtain ⟨m,hm,e⟩:=key
 unfold Rc.B nB
 rw [e];exact hm
theorem Rc.L_le {r:Rc} (h:r.ok):r.L<=1128:=by
 have hx:=h.x
 have hl:=h.l
 have w1:wl r.k=1:=wl_1 (by rcases h.k with ⟨e,_⟩ | e | e<;>omega)
 have w2:=wl6 (n:=r.x) (by omega)
 have w3:=wl2 (n:=r.t.length) (by omega)
 unfold Rc.L
 cases Nat.beq r.k 1 with
 | true=>show wl r.k+wl r.x<=_;omega
 | false=>show wl r.k+wl r.x+wl r.t.length+r.t.length<=_;omega
end Go.Proofs.Cl
namespace Go.Proofs.Cl
open Go Go.Sim Go.Proofs Go.Proofs.Cd Go.Proofs.Jn Go.Proofs.YthhjjpofenjknaaDoor
theorem bytes_con (r:Rc) (h:r.ok):Con PG 35 [rcV r.k r.x r.t] [] (.sv 1 r.L (byF r.B)) []:=by
 rw [<-r.byF]
 obtain ⟨k,x,t⟩:=r
 have hx:=h.x
 have hl:=h.l
 have hk:=h.k
 dsimp only at hx hl hk
 have w2:=wl6 (n:=x) (by omega)
 have w3:=wl2 (n:=t.length) (by omega)
 have w1:wl k=1:=wl_1 (by omega)
 have a:=wnum0_con k (by omega)
 have b:=wnumR_con x (wl k) (wB k) (by omega) (by omega)
 rcases hk with ⟨rfl,_⟩ | rfl | rfl
 · exact con_d (by1_vq (wl 1) (wl 1+wl x) (wB 1) (h2G 1 x) x t) ⟨trivial,a,trivial,b,trivial,wby_con _ _ (by omega),rfl⟩
 · exact con_d (by2_vq (wl 2) (wl 2+wl x) (wl 2+wl x+wl t.length+t.length) (wB 2) (h2G 2 x) (wtG (h2G 2 x) (wl 2+wl x) t) x t) (by
    have c:=wtext_con (wl 2+wl x) (h2G 2 x) t (by omega) (by omega)
    have d:=wby_con (wl 2+wl x+wl t.length+t.length) (wtG (h2G 2 x) (wl 2+wl x) t) (by omega)
    repeat' first | exact trivial | exact a | exact b | exact c | exact d | exact rfl | apply And.intro)
 · exact con_d (by3_vq (wl 3) (wl 3+wl x) (wl 3+wl x+wl t.length+t.length) (wB 3) (h2G 3 x) (wtG (h2G 3 x) (wl 3+wl x) t) x t) (by
    have c:=wtext_con (wl 3+wl x) (h2G 3 x) t (by omega) (by omega)
    have d:=wby_con (wl 3+wl x+wl t.length+t.length) (wtG (h2G 3 x) (wl 3+wl x) t) (by omega)
    repeat' first | exact trivial | exact a | exact b | exact c | exact d | exact rfl | apply And.intro)
theorem rdN_con {L n:Nat} {b:Nat->Nat} (hb:∀k,b k<256) (hn:n<9223372036854775808) (hL:wl n<=L) (f:Form n b):Con PG 44 [.p 0 0] [some (rdO L b 0)] (.i .i64 (ofNat n)) [.set (rdO (L-wl n) (shB (wl n) b) 0)]:=by
 obtain ⟨e1,e2,e3⟩:=f.reads hn hL
 have r:=rdNum_con L b hb
 rw [e1,e2,e3] at r
 exact r
def IsRc (r:Rc) (b:Nat->Nat):Prop:=∀i,i<r.L->b i=r.B i
theorem IsRc.form {r:Rc} {b:Nat->Nat} (h:IsRc r b) (hr:r.ok):Form r.k b/\Form r.x (shB (wl r.k) b):=by
 have g:∀i,i<wl r.k+wl r.x->ofNat (b i)=h2G r.k r.x i:=fun i hi=>by
  have hL:i<r.L:=by unfold Rc.L;cases Nat.beq r.k 1 with | true=>exact hi | false=>show i<wl r.k+wl r.x+wl r.t.length+r.t.length;omega
  rw [h i hL,r.G_eq]
  unfold Rc.G
  cases Nat.beq r.k 1 with
  | true=>rfl
  | false=>show txG _ _ r.t i= _;rw [txG_lo (by omega)];exact wG_left (by omega)
 refine ⟨fun i hi=>?_,fun i hi=>?_⟩
 · rw [g i (by omega)];exact wG_left hi
 · show ofNat (b (wl r.k+i))= _
   rw [g _ (by omega)];exact wG_right i
theorem IsRc.text {r:Rc} {b:Nat->Nat} (h:IsRc r b) (hr:r.ok) (hk:r.k≠1):TForm r.t (shB (wl r.x) (shB (wl r.k) b)):=by
 have e1:Nat.beq r.k 1=false:=by rw [Bool.eq_false_iff,ne_eq,Nat.beq_eq];exact hk
 have eL:r.L=wl r.k+wl r.x+wl r.t.length+r.t.length:=by unfold Rc.L;rw [e1];rfl
 have g:∀i,i<wl r.t.length+r.t.length->ofNat (b (wl r.k+wl r.x+i))=txG (wG (h2G r.k r.x) (wl r.k+wl r.x) r.t.length) (wl r.k+wl r.x+wl r.t.length) r.t (wl r.k+wl r.x+i):=fun i hi=>by
  rw [h _ (by omega),r.G_eq]
  unfold Rc.G;rw [e1];rfl
 refine ⟨fun i hi=>?_,fun i hi=>?_⟩
 · show ofNat (b (wl r.k+(wl r.x+i)))= _
   rw [<-Nat.add_assoc,g i (by omega),txG_lo (by omega)];exact wG_right i
 · show b (wl r.k+(wl r.x+(wl r.t.length+i)))= _
   have q:=g (wl r.t.length+i) (by omega)
   rw [show wl r.k+wl r.x+(wl r.t.length+i)=wl r.k+wl r.x+wl r.t.length+i by omega,txG_hi] at q
   rw [show wl r.k+(wl r.x+(wl r.t.length+i))=wl r.k+wl r.x+wl r.t.length+i by omega]
   exact Int.ofNat.inj q
theorem shB_lt {b:Nat->Nat} (h:∀k,b k<256) (z:Nat):∀k,shB z b k<256:=fun k=>h _
theorem recordOf_con (r:Rc) (h:r.ok) (b:Nat->Nat) (hb:∀k,b k<256) (e:IsRc r b):Con PG 33 [.sv 1 r.L (byF b)] [] (.tup [rcV r.k r.x r.t,.b true]) []:=by
 obtain ⟨f1,f2⟩:=e.form h
 have f3:=e.text h
 have hL:=Rc.L_le h
 obtain ⟨k,x,t⟩:=r
 have hx:=h.x
 have hl:=h.l
 have hk:=h.k
 have ht:=h.t
 dsimp only at hx hl hk ht f1 f2 f3
 have w1:wl k=1:=wl_1 (by omega)
 have w2:=wl6 (n:=x) (by omega)
 have w3:=wl2 (n:=t.length) (by omega)
 rcases hk with ⟨rfl,rfl⟩ | rfl | rfl
 · have eL:Rc.L ⟨1,x,[]⟩=wl 1+wl x:=rfl
   rw [eL] at hL⊢
   have n1:=newR_con (wl 1+wl x) b (by omega)
   have r1:=rdN_con (L:=wl 1+wl x) hb (by omega) (by omega) f1
   have r2:=rdN_con (L:=wl 1+wl x-wl 1) (shB_lt hb _) (by omega) (by omega) f2
   rw [show wl 1+wl x-wl 1-wl x=0 by omega] at r2
   exact con_d (ro1_vq (wl 1+wl x) (wl 1+wl x-wl 1) x b (shB (wl 1) b) (shB (wl x) (shB (wl 1) b))) (by
    have c:=rdErr_con 0 (shB (wl x) (shB (wl 1) b)) 0
    have d:=rdLeft_con 0 (shB (wl x) (shB (wl 1) b)) 0
    repeat' first | exact trivial | exact n1 | exact r1 | exact r2 | exact c | exact d | exact rfl | apply And.intro)
 · have eL:Rc.L ⟨2,x,t⟩=wl 2+wl x+wl t.length+t.length:=rfl
   rw [eL] at hL⊢
   have n1:=newR_con (wl 2+wl x+wl t.length+t.length) b (by omega)
   have r1:=rdN_con (L:=wl 2+wl x+wl t.length+t.length) hb (by omega) (by omega) f1
   have r2:=rdN_con (L:=wl 2+wl x+wl t.length+t.length-wl 2) (shB_lt hb _) (by omega) (by omega) f2
   have r3:=rdText_con (wl 2+wl x+wl t.length+t.length-wl 2-wl x) (shB (wl x) (shB (wl 2) b)) t (shB_lt (shB_lt hb _) _) ht hl (by omega) (by omega) (f3 (by decide))
   rw [show wl 2+wl x+wl t.length+t.length-wl 2-wl x-(wl t.length+t.length)=0 by omega] at r3
   exact con_d (ro2_vq (wl 2+wl x+wl t.length+t.length) (wl 2+wl x+wl t.length+t.length-wl 2) (wl 2+wl x+wl t.length+t.length-wl 2-wl x) x t b (shB (wl 2) b) (shB (wl x) (shB (wl 2) b)) (shB (wl t.length+t.length) (shB (wl x) (shB (wl 2) b)))) (by
    have c:=rdErr_con 0 (shB (wl t.length+t.length) (shB (wl x) (shB (wl 2) b))) 0
    have d:=rdLeft_con 0 (shB (wl t.length+t.length) (shB (wl x) (shB (wl 2) b))) 0
    repeat' first | exact trivial | exact n1 | exact r1 | exact r2 | exact r3 | exact c | exact d | exact rfl | apply And.intro)
 · have eL:Rc.L ⟨3,x,t⟩=wl 3+wl x+wl t.length+t.length:=rfl
   rw [eL] at hL⊢
   have n1:=newR_con (wl 3+wl x+wl t.length+t.length) b (by omega)
   have r1:=rdN_con (L:=wl 3+wl x+wl t.length+t.length) hb (by omega) (by omega) f1
   have r2:=rdN_con (L:=wl 3+wl x+wl t.length+t.length-wl 3) (shB_lt hb _) (by omega) (by omega) f2
   have r3:=rdText_con (wl 3+wl x+wl t.length+t.length-wl 3-wl x) (shB (wl x) (shB (wl 3) b)) t (shB_lt (shB_lt hb _) _) ht hl (by omega) (by omega) (f3 (by decide))
   rw [show wl 3+wl x+wl t.length+t.length-wl 3-wl x-(wl t.length+t.length)=0 by omega] at r3
   exact con_d (ro3_vq (wl 3+wl x+wl t.length+t.length) (wl 3+wl x+wl t.length+t.length-wl 3) (wl 3+wl x+wl t.length+t.length-wl 3-wl x) x t b (shB (wl 3) b) (shB (wl x) (shB (wl 3) b)) (shB (wl t.length+t.length) (shB (wl x) (shB (wl 3) b)))) (by
    have c:=rdErr_con 0 (shB (wl t.length+t.length) (shB (wl x) (shB (wl 3) b))) 0
    have d:=rdLeft_con 0 (shB (wl t.length+t.length) (shB (wl x) (shB (wl 3) b))) 0
    repeat' first | exact trivial | exact n1 | exact r1 | exact r2 | exact r3 | exact c | exact d | exact rfl | apply And.intro)
theorem count_con (x:Int):Con PG 23 [.i .i64 x] [] (.b (decide (1<=x/\x<=1099511627776))) []:=by
 refine con_plain rfl ((ct_vc x _).mpr ⟨fun h=>?_,fun h=>?_⟩)
 · have h':=of_decide_eq_true h
   have e:decide (1<=x/\x<=1099511627776)=decide (x<=1099511627776):=by simp [h']
   rw [e];exact ⟨h,h,_,_,rfl,rfl⟩
 · have h':=of_decide_eq_false h
   have e:decide (1<=x/\x<=1099511627776)=false:=by simp [h']
   rw [e];exact ⟨h,h,_,_,rfl,rfl⟩
theorem value_con (t:List Nat):Con PG 25 [.s t] [] (.b (decide (1<=t.length/\t.length<=100))) []:=by
 refine con_plain rfl ((iv_vc t _).mpr ⟨fun h=>?_,fun h=>?_⟩)
 · have h':=of_decide_eq_true h
   have e:decide (1<=t.length/\t.length<=100)=decide (ofNat t.length<=100):=by
    have:1<=t.length:=by simp at h';omega
    simp [this];omega
   rw [e];exact ⟨h,h,h,_,_,rfl,rfl⟩
 · have h':=of_decide_eq_false h
   have e:decide (1<=t.length/\t.length<=100)=false:=by simp at h'⊢;omega
   rw [e];exact ⟨h,h,h,_,_,rfl,rfl⟩
theorem isState_con (t:List Nat):Con PG 19 [.s t] [] (.b (decide (ofNat t.length<=1100))) []:=con_plain rfl ((is_vc t _).mpr ⟨_,_,rfl,rfl⟩)
end Go.Proofs.Cl
namespace Go.Proofs.Cl
open Go Go.Sim Go.Proofs Go.Proofs.Cd Go.Proofs.St Go.Proofs.YthhjjpofenjknaaDoor
open Go.Proofs.Jn hiding rg
theorem rpR_lq (s:SS) (j:JS) (k k2:AK) (n kd x:Nat) (u:List Nat) (M:Nat->Nat) (B:Nat->Nat->Nat) (i:Nat) (h:decide (ofNat i<ofNat n)=true):LD PG (loopAt PG 21 0) 29 2 [(0,.sv 1 n (recF M B)),(1,.fn (.func 22) [.p 1 6] []),(9,.sv 1 n (recF M B)),(10,.i .i64 (ofNat n)),(11,.i .i64 (ofNat i))] [some s.o,some (aO j k)] (.t (.cal [] (.tup [rcV kd x u,.b true]) [] (oc 3 (.cal [0,1] (.b true) [.keep,.set (aO j k2)] (oc 3 .z))))) .nrm [0,1] [(0,.sv 1 n (recF M B)),(1,.fn (.func 22) [.p 1 6] []),(9,.sv 1 n (recF M B)),(10,.i .i64 (ofNat n)),(11,.i .i64 (ofNat i+1))] [some s.o,some (aO j k2)] 3 (fun Lf=>decide (ofNat i<ofNat n)=true/\(0<=ofNat i/\ofNat i<↑n)/\True/\Con PG 33 [.sv 1 (M i) (byF (B i))] [] (.tup [rcV kd x u,.b true]) []/\True/\Con PG 22 [.p 1 6,rcV kd x u] [some (SS.o s),some (aO j k)] (.b true) [.keep,.set (aO j k2)]/\True/\rg (ofNat i+1)/\Lf):=by unfold LD LQ;kernel_rfl
theorem rpE_lq (s:SS) (j:JS) (k:AK) (n:Nat) (M:Nat->Nat) (B:Nat->Nat->Nat) (i:Nat) (h:decide (ofNat i<ofNat n)=false):LD PG (loopAt PG 21 0) 29 2 [(0,.sv 1 n (recF M B)),(1,.fn (.func 22) [.p 1 6] []),(9,.sv 1 n (recF M B)),(10,.i .i64 (ofNat n)),(11,.i .i64 (ofNat i))] [some s.o,some (aO j k)] (.f .z) (.exit 0) [0,1] [] [some s.o,some (aO j k)] 2 (fun Lf=>decide (ofNat i<ofNat n)=false/\Lf):=by unfold LD LQ;kernel_rfl
theorem open_vq (s s2:SS) (j:JS) (k2:AK) (t:List Nat) (n:Nat) (M:Nat->Nat) (B:Nat->Nat->Nat):VD PG 5 [.p 0 0,.s t] [some s.o] (.cal [] (.b true) [] (.c (.cal [0] (.tup [.p 1 0,.sv 1 n (recF M B),.i .i64 0]) [.set (SS.o s2),.set (JS.o j)] (.c (.inl (.lop [0,2] [0,1,9,10,11] 2 (.exit 0) [] [some (SS.o s2),some (aO j k2)] (.c .z))))))) (.tup [.p 1 0,.i .i64 0]) [.set s2.o,.set (aO j k2)] [2] 3 (fun Lf=>Con PG 19 [.s t] [] (.b true) []/\True/\Con PG 20 [.p 0 0] [some (SS.o s)] (.tup [.p 1 0,.sv 1 n (recF M B),.i .i64 0]) [.set (SS.o s2),.set (JS.o j)]/\True/\LDoes PG (loopAt PG 21 0) 29 2 (mkT [(0,.sv 1 n (recF M B)),(1,AV.fn (Fn.func 22) [.p 1 6] []),(9,.sv 1 n (recF M B)),(10,.i .i64 (ofNat n)),(11,.i .i64 0)]) [some (SS.o s2),some (aO j (k0 t))] (.exit 0) (mkT []) [some (SS.o s2),some (aO j k2)]/\True/\Lf):=by unfold VD VQ;kernel_rfl
theorem apAa_vq (s:SS) (j:JS) (k:AK) (S2:SS) (E2 E1 N1:Int) (F2:Nat->Nat->CV) (L:Nat) (bs:Nat->Nat) (h0:j.dead=false) (h1:decide (E1=0)=true) (h2:decide (E2=0)=true):VD PG 34 [.p 1 0,.sv 1 L (byF bs)] [some s.o,some (aO j k)] (.inl (.c (.f (.c (.cal [2] (.tup [.i .i64 N1,.i .i64 E1]) [.gone] (.f (.inl (.inl (.cal [0,6,4,5,3] (.i .i64 E2) [.set (SS.o S2),.set (cellsO 46 [.sv 1 1 F2]),.keep,.keep,.gone] (.f .z)))))))))) (.i .i64 0) [.set S2.o,.set (aO ({ j with recs:=j.recs+1,room:=j.room-N1}:JS) k)] [] 7 (fun Lf=>True/\True/\JS.dead j=false/\True/\Con PG 49 [.i .i64 (JS.room j),.l 0 0 1 1 1 true] [some (cellsO 87 [.sv 1 L (byF bs)])] (.tup [.i .i64 N1,.i .i64 E1]) [.gone]/\(!decide (E1=0))=false/\True/\rg (ofNat (JS.area j)*60)/\rg (2+ofNat (JS.area j)*60)/\rg (2+ofNat (JS.area j)*(60:Int)+(60:Int))/\True/\rg (2+ofNat (JS.area j)*(60:Int)+(60:Int)-JS.room j)/\True/\True/\True/\Con PG 50 [.p 0 0,.i .i64 (2+ofNat (JS.area j)*(60:Int)+(60:Int)-JS.room j),cutV] [some (SS.o s),some (cellsO 46 [.l 4 0 1 1 1 true]),some (cellsO 3 [.i .i64 (ofNat (JS.gen j))]),some (cellsO 3 [.i .i64 (ofNat (JS.recs j))]),some (cellsO 87 [.sv 1 L (byF bs)])] (.i .i64 E2) [.set (SS.o S2),.set (cellsO 46 [.sv 1 1 F2]),.keep,.keep,.gone]/\(!decide (E2=0))=false/\True/\rg (ofNat (JS.recs j)+1)/\True/\True/\rg (JS.room j-N1)/\True/\Lf):=by unfold VD VQ;kernel_rfl
theorem apBa_vq (s:SS) (j:JS) (k:AK) (S2:SS) (E2 E1 N1:Int) (F2:Nat->Nat->CV) (L:Nat) (bs:Nat->Nat) (h0:j.dead=false) (h1:decide (E1=0)=true) (h2:decide (E2=0)=false):VD PG 34 [.p 1 0,.sv 1 L (byF bs)] [some s.o,some (aO j k)] (.inl (.c (.f (.c (.cal [2] (.tup [.i .i64 N1,.i .i64 E1]) [.gone] (.f (.inl (.inl (.cal [0,6,4,5,3] (.i .i64 E2) [.set (SS.o S2),.set (cellsO 46 [.sv 1 1 F2]),.keep,.keep,.gone] (.t (.inl .z))))))))))) (.i .i64 13) [.set S2.o,.set (aO ({ j with dead:=true}:JS) k)] [] 7 (fun Lf=>True/\True/\JS.dead j=false/\True/\Con PG 49 [.i .i64 (JS.room j),.l 0 0 1 1 1 true] [some (cellsO 87 [.sv 1 L (byF bs)])] (.tup [.i .i64 N1,.i .i64 E1]) [.gone]/\(!decide (E1=0))=false/\True/\rg (ofNat (JS.area j)*60)/\rg (2+ofNat (JS.area j)*60)/\rg (2+ofNat (JS.area j)*(60:Int)+(60:Int))/\True/\rg (2+ofNat (JS.area j)*(60:Int)+(60:Int)-JS.room j)/\True/\True/\True/\Con PG 50 [.p 0 0,.i .i64 (2+ofNat (JS.area j)*(60:Int)+(60:Int)-JS.room j),cutV] [some (SS.o s),some (cellsO 46 [.l 4 0 1 1 1 true]),some (cellsO 3 [.i .i64 (ofNat (JS.gen j))]),some (cellsO 3 [.i .i64 (ofNat (JS.recs j))]),some (cellsO 87 [.sv 1 L (byF bs)])] (.i .i64 E2) [.set (SS.o S2),.set (cellsO 46 [.sv 1 1 F2]),.keep,.keep,.gone]/\(!decide (E2=0))=true/\True/\Lf):=by unfold VD VQ;kernel_rfl
theorem apCa_vq (s:SS) (j:JS) (k:AK) (E1 N1:Int) (L:Nat) (bs:Nat->Nat) (h0:j.dead=false) (h1:decide (E1=0)=false):VD PG 34 [.p 1 0,.sv 1 L (byF bs)] [some s.o,some (aO j k)] (.inl (.c (.f (.c (.cal [2] (.tup [.i .i64 N1,.i .i64 E1]) [.gone] (.t .z)))))) (.i .i64 E1) [.keep,.keep] [] 3 (fun Lf=>True/\True/\JS.dead j=false/\True/\Con PG 49 [.i .i64 (JS.room j),.l 0 0 1 1 1 true] [some (cellsO 87 [.sv 1 L (byF bs)])] (.tup [.i .i64 N1,.i .i64 E1]) [.gone]/\(!decide (E1=0))=true/\Lf):=by unfold VD VQ;kernel_rfl
theorem recordOf_con2 (r:Rc) (h:r.ok) (b:Nat->Nat) (e:IsRc r b):Con PG 33 [.sv 1 r.L (byF b)] [] (.tup [rcV r.k r.x r.t,.b true]) []:=
 (recordOf_con r h r.B (Rc.B_lt h) fun _ _=>rfl).pre ⟨.svW fun i z hi hz=>.of (by show CV.i .u8 (ofNat (b i))=CV.i .u8 (ofNat (r.B i));rw [e i hi]),trivial⟩
def AK.take (k:AK) (r:Rc):AK:=bif Nat.beq r.k 1 then { k with p:=r.x} else bif Nat.beq r.k 2 then { k with p:=r.x,pb:=r.x,pv:=r.t} else { k with d:=r.x,st:=r.t,pb:=0,pv:=[]}
structure Tk (k:AK) (r:Rc):Prop where
 ok:r.ok
 p:r.k<=2->k.p<=r.x
 v:r.k=2->1<=r.t.length/\r.t.length<=100
 d:r.k=3->k.d<r.x
theorem take_con (s:SS) (j:JS) (k:AK) (r:Rc) (h:Tk k r):Con PG 22 [.p 1 6,rcV r.k r.x r.t] [some s.o,some (aO j k)] (.b true) [.keep,.set (aO j (k.take r))]:=by
 have hx:=h.ok.x
 have c:=count_con (ofNat r.x)
 rw [decide_eq_true (⟨by simp;omega,by simp;omega⟩:(1:Int)<=ofNat r.x/\ofNat r.x<=1099511627776)] at c
 obtain ⟨kd,x,t⟩:=r
 have hp:=h.p
 have hv:=h.v
 have hd:=h.d
 dsimp only at hp hv hd hx c⊢
 rcases h.ok.k with ⟨e,_⟩ | e | e
 · dsimp only at e
   subst e
   have g:decide (ofNat x<ofNat k.p)=false:=decide_eq_false (by have:=hp (by decide);simp;omega)
   exact con_d (tk1_vq x t j s k g) (by repeat' first | exact trivial | exact c | exact g | exact nt g | exact nnf g | exact rfl | apply And.intro)
 · dsimp only at e
   subst e
   have g:decide (ofNat x<ofNat k.p)=false:=decide_eq_false (by have:=hp (by decide);simp;omega)
   have w:=value_con t
   rw [decide_eq_true (hv rfl)] at w
   exact con_d (tk2_vq x t j s k g) (by repeat' first | exact trivial | exact c | exact w | exact g | exact nt g | exact nnf g | exact rfl | apply And.intro)
 · dsimp only at e
   subst e
   have g:decide (ofNat x<=ofNat k.d)=false:=decide_eq_false (by have:=hd rfl;simp;omega)
   exact con_d (tk3_vq x t j s k g) (by repeat' first | exact trivial | exact c | exact g | exact nt g | exact nnf g | exact rfl | apply And.intro)
def AK.run (k:AK) (R:Nat->Rc):Nat->AK
 | 0=>k
 | n+1=>(AK.run k R n).take (R n)
theorem rp_lp (s:SS) (j:JS) (k:AK) (n:Nat) (hn:n<=1000000) (M:Nat->Nat) (B:Nat->Nat->Nat) (R:Nat->Rc) (hR:∀i,i<n->Tk (k.run R i) (R i)) (hM:∀i,i<n->M i=(R i).L) (hB:∀i,i<n->IsRc (R i) (B i)) :
 LDoes PG (loopAt PG 21 0) 29 2 (mkT [(0,.sv 1 n (recF M B)),(1,.fn (.func 22) [.p 1 6] []),(9,.sv 1 n (recF M B)),(10,.i .i64 (ofNat n)),(11,.i .i64 0)]) [some s.o,some (aO j k)] (.exit 0) (mkT []) [some s.o,some (aO j (k.run R n))]:=by
 refine loop_q (fun i:Nat=>([(0,.sv 1 n (recF M B)),(1,.fn (.func 22) [.p 1 6] []),(9,.sv 1 n (recF M B)),(10,.i .i64 (ofNat n)),(11,.i .i64 (ofNat i))],[some s.o,some (aO j (k.run R i))])) (fun i=>n-i) (fun i=>i<=n) (fun _=>Nat.le_refl _) ?_ 0 (Nat.zero_le _)
 intro i hi
 rcases Nat.lt_or_ge i n with hlt | q
 · have h1:decide (ofNat i<ofNat n)=true:=decide_eq_true (by simp;omega)
   have bi:(0:Int)<=ofNat i/\ofNat i<(↑n:Int):=⟨by simp,by simp;omega⟩
   have ri:rg (ofNat i+1):=⟨by simp<;>omega,by simp<;>omega⟩
   have t:=hR i hlt
   have ro:=recordOf_con2 (R i) t.ok (B i) (hB i hlt)
   rw [<-hM i hlt] at ro
   have tk:=take_con s j (k.run R i) (R i) t
   exact rd_nrm (rpR_lq s j (k.run R i) (k.run R (i+1)) n (R i).k (R i).x (R i).t M B i h1) (by repeat' first | exact trivial | exact h1 | exact bi | exact ri | exact ro | exact tk | exact rfl | apply And.intro) (i+1) hlt (by show n-(i+1)<n-i;omega) rfl (.refl _) (.refl _)
 · obtain rfl:i=n:=Nat.le_antisymm hi q
   exact rd_out (rpE_lq s j (k.run R i) i M B i (decide_eq_false (by simp))) ⟨decide_eq_false (by simp),rfl⟩ rfl rfl (.refl _) (.refl _)
theorem opena_con (s s2:SS) (j:JS) (t:List Nat) (ht:t.length<=1100) (n:Nat) (hn:n<=1000000) (M:Nat->Nat) (B:Nat->Nat->Nat) (R:Nat->Rc) (hR:∀i,i<n->Tk ((k0 t).run R i) (R i)) (hM:∀i,i<n->M i=(R i).L) (hB:∀i,i<n->IsRc (R i) (B i))
 (op:Con PG 20 [.p 0 0] [some s.o] (.tup [.p 1 0,.sv 1 n (recF M B),.i .i64 0]) [.set s2.o,.set j.o]):Con PG 5 [.p 0 0,.s t] [some s.o] (.tup [.p 1 0,.i .i64 0]) [.set s2.o,.set (aO j ((k0 t).run R n))]:=by
 have i:=isState_con t
 rw [decide_eq_true (by simp;omega:ofNat t.length<=1100)] at i
 exact con_d (open_vq s s2 j ((k0 t).run R n) t n M B) (by
  have lp:=rp_lp s2 j (k0 t) n hn M B R hR hM hB
  repeat' first | exact trivial | exact i | exact op | exact lp | exact rfl | apply And.intro)
end Go.Proofs.Cl
namespace Go.Proofs.Cl
open Go Go.Sim Go.Proofs Go.Proofs.Cd Go.Proofs.St Go.Proofs.YthhjjpofenjknaaDoor
open Go.Proofs.Jn hiding rg
def apJ (j:JS) (rm:Nat) (s:SS) (L:Nat) (bs:Nat->Nat):JS:=bif decide (apE j rm s L bs=0) then ({ j with recs:=j.recs+1,room:=j.room-ofNat (npF L)}:JS) else ({ j with dead:=true}:JS)
theorem appenda_con (k:AK) (j:JS) (rm:Nat) (s:SS) (L mm:Nat) (bs:Nat->Nat) (hd:j.dead=false) (hr:j.room=ofNat rm) (h60:rm<=60) (ha:j.area<=1) (hrec:j.recs<=4294967296) (ok:OkM s mm) (hm:mm+npF L<1073741823) (hn:122<=s.n) (hb:∀t,bs t<256) (hL:L<=1128) (hf:npF L<=rm) :
 Con PG 34 [.p 1 0,.sv 1 L (byF bs)] [some s.o,some (aO j k)] (.i .i64 (bif decide (apE j rm s L bs=0) then 0 else 13)) [.set (apS j rm s L bs).o,.set (aO (apJ j rm s L bs) k)]:=by
 have w1:Con PG 49 [.i .i64 j.room,.l 0 0 1 1 1 true] [some (cellsO 87 [.sv 1 L (byF bs)])] (.tup [.i .i64 (ofNat (npF L)),.i .i64 0]) [.gone]:=by
  have h:=fitOk_con j.room 1 (fun _=>L) (fun _=>bs) (by decide) (fun _ _=>hL) (by rw [sumP1,hr];simp;omega)
  rw [sumP1] at h
  exact fit1_con j.room L bs _ (by kernel_rfl) h
 have w2:=commit2_con j.gen j.recs mm L bs s (apQ j rm) ok hb (by omega) hm (by unfold apQ;omega)
 have eQ:(2:Int)+ofNat j.area*60+60-j.room=ofNat (apQ j rm):=by rw [hr];unfold apQ;simp;omega
 have r1:rg (ofNat j.area*60):=⟨by simp<;>omega,by simp<;>omega⟩
 have r2:rg ((2:Int)+ofNat j.area*60):=⟨by simp<;>omega,by simp<;>omega⟩
 have r3:rg ((2:Int)+ofNat j.area*(60:Int)+(60:Int)):=⟨by simp<;>omega,by simp<;>omega⟩
 have r4:rg ((2:Int)+ofNat j.area*(60:Int)+(60:Int)-j.room):=by rw [hr];exact ⟨by simp<;>omega,by simp<;>omega⟩
 have r5:rg (ofNat j.recs+1):=⟨by simp<;>omega,by simp<;>omega⟩
 have r6:rg (j.room-ofNat (npF L)):=by rw [hr];exact ⟨by simp<;>omega,by simp<;>omega⟩
 have w3:Con PG 50 [.p 0 0,.i .i64 ((2:Int)+ofNat j.area*60+60-j.room),cutV] [some s.o,some (cellsO 46 [.l 4 0 1 1 1 true]),some (cellsO 3 [.i .i64 (ofNat j.gen)]),some (cellsO 3 [.i .i64 (ofNat j.recs)]),some (cellsO 87 [.sv 1 L (byF bs)])]
  (.i .i64 (apE j rm s L bs)) [.set (apS j rm s L bs).o,.set (cellsO 46 [.sv 1 1 (recF (fun _=>L) fun _=>bs)]),.keep,.keep,.gone]:=by rw [eQ];exact w2
 unfold apJ
 generalize apE j rm s L bs=E at w3⊢
 generalize apS j rm s L bs=S at w3⊢
 by_cases hE:E=0
 · have d:decide (E=0)=true:=decide_eq_true hE
   rw [d,cond_true,cond_true]
   exact con_d (apAa_vq s j k S E 0 (ofNat (npF L)) (recF (fun _=>L) fun _=>bs) L bs hd (by decide) d) (by
    repeat' first | exact trivial | exact hd | exact w1 | exact w3 | exact r1 | exact r2 | exact r3 | exact r4 | exact r5 | exact r6 | exact nf d | exact d | exact rfl | (decide;done) | apply And.intro)
 · have d:decide (E=0)=false:=decide_eq_false hE
   rw [d,cond_false,cond_false]
   exact con_d (apBa_vq s j k S E 0 (ofNat (npF L)) (recF (fun _=>L) fun _=>bs) L bs hd (by decide) d) (by
    repeat' first | exact trivial | exact hd | exact w1 | exact w3 | exact r1 | exact r2 | exact r3 | exact r4 | exact nt d | exact d | exact rfl | (decide;done) | apply And.intro)
theorem appendaSpace_con (k:AK) (j:JS) (s:SS) (L:Nat) (bs:Nat->Nat) (hd:j.dead=false) (hL:L<=1128) (hf:j.room<ofNat (npF L)):Con PG 34 [.p 1 0,.sv 1 L (byF bs)] [some s.o,some (aO j k)] (.i .i64 12) [.keep,.keep]:=by
 have w1:Con PG 49 [.i .i64 j.room,.l 0 0 1 1 1 true] [some (cellsO 87 [.sv 1 L (byF bs)])] (.tup [.i .i64 0,.i .i64 12]) [.gone]:=
  fit1_con j.room L bs _ (by kernel_rfl) (fitSpace_con j.room 1 (fun _=>L) (fun _=>bs) (by decide) (fun _ _=>hL) (by rw [sumP1];exact hf))
 exact con_d (apCa_vq s j k 12 0 L bs hd (by decide)) (by
  repeat' first | exact trivial | exact hd | exact w1 | exact rfl | (decide;done) | apply And.intro)
end Go.Proofs.Cl
namespace Go.Proofs.Cl
open Go Go.Sim Go.Proofs Go.Proofs.Cd Go.Proofs.St Go.Proofs.YthhjjpofenjknaaDoor
open Go.Proofs.Jn hiding rg
theorem wrA_vq (s:SS) (j:JS) (k:AK) (s2:SS) (j2:JS) (k2:AK) (E:Int) (L:Nat) (B:Nat->Nat) (kd x:Nat) (t:List Nat) (h0:decide (E=12)=false) (h1:decide (E=0)=true):VD PG 24 [.p 1 0,rcV kd x t] [some s.o,some (aO j k)] (.cal [] (.sv 1 L (byF B)) [] (.cal [0,1] (.i .i64 E) [.set (SS.o s2),.set (aO j2 k)] (.f (.t (.cal [0,1] (.b true) [.keep,.set (aO j2 k2)] .z))))) (.i .i64 E) [.set s2.o,.set (aO j2 k2)] [] 3 (fun Lf=>True/\Con PG 35 [rcV kd x t] [] (.sv 1 L (byF B)) []/\Con PG 34 [.p 1 0,.sv 1 L (byF B)] [some (SS.o s),some (aO j k)] (.i .i64 E) [.set (SS.o s2),.set (aO j2 k)]/\decide (E=12)=false/\decide (E=0)=true/\True/\Con PG 22 [.p 1 6,rcV kd x t] [some (SS.o s2),some (aO j2 k)] (.b true) [.keep,.set (aO j2 k2)]/\Lf):=by unfold VD VQ;kernel_rfl
theorem wrB_vq (s:SS) (j:JS) (k:AK) (s2:SS) (j2:JS) (E:Int) (L:Nat) (B:Nat->Nat) (kd x:Nat) (t:List Nat) (h0:decide (E=12)=false) (h1:decide (E=0)=false):VD PG 24 [.p 1 0,rcV kd x t] [some s.o,some (aO j k)] (.cal [] (.sv 1 L (byF B)) [] (.cal [0,1] (.i .i64 E) [.set (SS.o s2),.set (aO j2 k)] (.f (.f .z)))) (.i .i64 E) [.set s2.o,.set (aO j2 k)] [] 3 (fun Lf=>True/\Con PG 35 [rcV kd x t] [] (.sv 1 L (byF B)) []/\Con PG 34 [.p 1 0,.sv 1 L (byF B)] [some (SS.o s),some (aO j k)] (.i .i64 E) [.set (SS.o s2),.set (aO j2 k)]/\decide (E=12)=false/\decide (E=0)=false/\Lf):=by unfold VD VQ;kernel_rfl
theorem prR_vq (s:SS) (j:JS) (k:AK) (b1:Bool) (ci:Int) (h:b1=false):VD PG 7 [.p 1 0,.i .i64 ci] [some s.o,some (aO j k)] (.c (.cal [] (.b b1) [] (.t .z))) (.i .i64 2) [.keep,.keep] [] 2 (fun Lf=>True/\Con PG 23 [.i .i64 ci] [] (.b b1) []/\True/\(!b1)=true/\Lf):=by unfold VD VQ;kernel_rfl
theorem prB_vq (s:SS) (j:JS) (k:AK) (x:Nat) (b1:Bool) (h:b1=true) (h1:decide (ofNat x<ofNat k.p)=true):VD PG 7 [.p 1 0,.i .i64 (ofNat x)] [some s.o,some (aO j k)] (.c (.cal [] (.b b1) [] (.f (.t .z)))) (.i .i64 20) [.keep,.keep] [] 2 (fun Lf=>True/\Con PG 23 [.i .i64 (ofNat x)] [] (.b b1) []/\True/\(!b1)=false/\True/\True/\decide (ofNat x<ofNat (AK.p k))=true/\Lf):=by unfold VD VQ;kernel_rfl
theorem prS_vq (s:SS) (j:JS) (k:AK) (x:Nat) (b1:Bool) (h:b1=true) (h1:decide (ofNat x<ofNat k.p)=false) (h2:decide (ofNat x=ofNat k.p)=true):VD PG 7 [.p 1 0,.i .i64 (ofNat x)] [some s.o,some (aO j k)] (.c (.cal [] (.b b1) [] (.f (.f (.t .z))))) (.i .i64 0) [.keep,.keep] [] 2 (fun Lf=>True/\Con PG 23 [.i .i64 (ofNat x)] [] (.b b1) []/\True/\(!b1)=false/\True/\True/\decide (ofNat x<ofNat (AK.p k))=false/\True/\True/\decide (ofNat x=ofNat (AK.p k))=true/\Lf):=by unfold VD VQ;kernel_rfl
theorem prW_vq (s:SS) (j:JS) (k:AK) (s2:SS) (j2:JS) (k2:AK) (E:Int) (x:Nat) (b1:Bool) (h:b1=true) (h1:decide (ofNat x<ofNat k.p)=false) (h2:decide (ofNat x=ofNat k.p)=false):VD PG 7 [.p 1 0,.i .i64 (ofNat x)] [some s.o,some (aO j k)] (.c (.cal [] (.b b1) [] (of_ 3 (.cal [0,1] (.i .i64 E) [.set (SS.o s2),.set (aO j2 k2)] .z)))) (.i .i64 E) [.set s2.o,.set (aO j2 k2)] [] 2 (fun Lf=>True/\Con PG 23 [.i .i64 (ofNat x)] [] (.b b1) []/\True/\(!b1)=false/\True/\True/\decide (ofNat x<ofNat (AK.p k))=false/\True/\True/\decide (ofNat x=ofNat (AK.p k))=false/\Con PG 24 [.p 1 0,rcW 1 x []] [some (SS.o s),some (aO j k)] (.i .i64 E) [.set (SS.o s2),.set (aO j2 k2)]/\Lf):=by unfold VD VQ;kernel_rfl
theorem acR1_vq (s:SS) (j:JS) (k:AK) (t:List Nat) (b1:Bool) (ci cj:Int) (h:b1=false):VD PG 8 [.p 1 0,.i .i64 ci,.i .i64 cj,.s t] [some s.o,some (aO j k)] (.c (.cal [] (.b b1) [] (of_ 3 (.t (oc 5 .z))))) (.i .i64 2) [.keep,.keep] [] 2 (fun Lf=>True/\Con PG 23 [.i .i64 ci] [] (.b b1) []/\True/\r3 ((!!b1)=false) ((!b1)=true/\Lf)):=by unfold VD VQ;kernel_rfl
theorem acR2_vq (s:SS) (j:JS) (k:AK) (t:List Nat) (b1 b2:Bool) (ci cj:Int) (h:b1=true) (h2:b2=false):VD PG 8 [.p 1 0,.i .i64 ci,.i .i64 cj,.s t] [some s.o,some (aO j k)] (.c (.cal [] (.b b1) [] (.t (.t (.cal [] (.b b2) [] (.t (of_ 4 (.t (.c .z))))))))) (.i .i64 2) [.keep,.keep] [] 2 (fun Lf=>True/\Con PG 23 [.i .i64 ci] [] (.b b1) []/\True/\r2 ((!!b1)=true) (Con PG 23 [.i .i64 cj] [] (.b b2) []/\(!!b1)=true/\True/\(!b1)=false/\r3 ((!!b2)=false) ((!b2)=true/\Lf))):=by unfold VD VQ;kernel_rfl
theorem acR3_vq (s:SS) (j:JS) (k:AK) (t:List Nat) (b1 b2 b3:Bool) (ci cj:Int) (h:b1=true) (h2:b2=true) (h3:b3=false):VD PG 8 [.p 1 0,.i .i64 ci,.i .i64 cj,.s t] [some s.o,some (aO j k)] (.c (.cal [] (.b b1) [] (.t (.t (.cal [] (.b b2) [] (.t (.f (.t (.t (.cal [] (.b b3) [] (.t (.f (.t .z))))))))))))) (.i .i64 2) [.keep,.keep] [] 2 (fun Lf=>True/\Con PG 23 [.i .i64 ci] [] (.b b1) []/\True/\r2 ((!!b1)=true) (Con PG 23 [.i .i64 cj] [] (.b b2) []/\(!!b1)=true/\True/\(!b1)=false/\r2 ((!!b2)=true) (Con PG 25 [.s t] [] (.b b3) []/\(!!b2)=true/\True/\(!b2)=false/\(!b3)=true/\Lf))):=by unfold VD VQ;kernel_rfl
theorem acB_vq (s:SS) (j:JS) (k:AK) (x y:Nat) (t:List Nat) (b1 b2 b3:Bool) (h:b1=true) (h2:b2=true) (h3:b3=true) (h4:decide (ofNat x<ofNat k.p)=true):VD PG 8 [.p 1 0,.i .i64 (ofNat x),.i .i64 (ofNat y),.s t] [some s.o,some (aO j k)] (.c (.cal [] (.b b1) [] (.t (.t (.cal [] (.b b2) [] (.t (.f (.t (.t (.cal [] (.b b3) [] (.t (.f (.f (.t .z)))))))))))))) (.i .i64 20) [.keep,.keep] [] 2 (fun Lf=>True/\Con PG 23 [.i .i64 (ofNat x)] [] (.b b1) []/\True/\r2 ((!!b1)=true) (Con PG 23 [.i .i64 (ofNat y)] [] (.b b2) []/\(!!b1)=true/\True/\(!b1)=false/\r2 ((!!b2)=true) (Con PG 25 [.s t] [] (.b b3) []/\(!!b2)=true/\True/\(!b2)=false/\(!b3)=false/\True/\True/\decide (ofNat x<ofNat (AK.p k))=true/\Lf))):=by unfold VD VQ;kernel_rfl
theorem acS_vq (s:SS) (j:JS) (k:AK) (x y:Nat) (t:List Nat) (b1 b2 b3:Bool) (h:b1=true) (h2:b2=true) (h3:b3=true) (h4:decide (ofNat x<ofNat k.p)=false) (h5:decide (ofNat y=ofNat k.d+1)=false):VD PG 8 [.p 1 0,.i .i64 (ofNat x),.i .i64 (ofNat y),.s t] [some s.o,some (aO j k)] (.c (.cal [] (.b b1) [] (.t (.t (.cal [] (.b b2) [] (.t (.f (.t (.t (.cal [] (.b b3) [] (.t (of_ 3 (.t .z))))))))))))) (.i .i64 25) [.keep,.keep] [] 2 (fun Lf=>True/\Con PG 23 [.i .i64 (ofNat x)] [] (.b b1) []/\True/\r2 ((!!b1)=true) (Con PG 23 [.i .i64 (ofNat y)] [] (.b b2) []/\(!!b1)=true/\True/\(!b1)=false/\r2 ((!!b2)=true) (Con PG 25 [.s t] [] (.b b3) []/\(!!b2)=true/\True/\(!b2)=false/\(!b3)=false/\True/\True/\decide (ofNat x<ofNat (AK.p k))=false/\True/\True/\rg (ofNat (AK.d k)+1)/\(!decide (ofNat y=ofNat (AK.d k)+1))=true/\Lf))):=by unfold VD VQ;kernel_rfl
theorem acE_vq (s:SS) (j:JS) (k:AK) (x y:Nat) (t:List Nat) (b1 b2 b3:Bool) (h:b1=true) (h2:b2=true) (h3:b3=true) (h4:decide (ofNat x<ofNat k.p)=false) (h5:decide (ofNat y=ofNat k.d+1)=true) (h6:decide (ofNat k.pb=ofNat x)=true) (h7:natsEq k.pv t=true):VD PG 8 [.p 1 0,.i .i64 (ofNat x),.i .i64 (ofNat y),.s t] [some s.o,some (aO j k)] (.c (.cal [] (.b b1) [] (.t (.t (.cal [] (.b b2) [] (.t (.f (.t (.t (.cal [] (.b b3) [] (.t (of_ 4 (.t (.t .z)))))))))))))) (.i .i64 0) [.keep,.keep] [] 3 (fun Lf=>True/\Con PG 23 [.i .i64 (ofNat x)] [] (.b b1) []/\True/\r2 ((!!b1)=true) (Con PG 23 [.i .i64 (ofNat y)] [] (.b b2) []/\(!!b1)=true/\True/\(!b1)=false/\r2 ((!!b2)=true) (Con PG 25 [.s t] [] (.b b3) []/\(!!b2)=true/\True/\(!b2)=false/\(!b3)=false/\True/\True/\decide (ofNat x<ofNat (AK.p k))=false/\True/\True/\rg (ofNat (AK.d k)+1)/\(!decide (ofNat y=ofNat (AK.d k)+1))=false/\True/\True/\True/\decide (ofNat (AK.pb k)=ofNat x)=true/\True/\natsEq (AK.pv k) t=true/\Lf))):=by unfold VD VQ;kernel_rfl
theorem acN_vq (s:SS) (j:JS) (k:AK) (x y:Nat) (t:List Nat) (b1 b2 b3:Bool) (h:b1=true) (h2:b2=true) (h3:b3=true) (h4:decide (ofNat x<ofNat k.p)=false) (h5:decide (ofNat y=ofNat k.d+1)=true) (h6:decide (ofNat k.pb=ofNat x)=true) (h7:natsEq k.pv t=false):VD PG 8 [.p 1 0,.i .i64 (ofNat x),.i .i64 (ofNat y),.s t] [some s.o,some (aO j k)] (.c (.cal [] (.b b1) [] (.t (.t (.cal [] (.b b2) [] (.t (.f (.t (.t (.cal [] (.b b3) [] (.t (of_ 4 (.t (.f .z)))))))))))))) (.i .i64 20) [.keep,.keep] [] 3 (fun Lf=>True/\Con PG 23 [.i .i64 (ofNat x)] [] (.b b1) []/\True/\r2 ((!!b1)=true) (Con PG 23 [.i .i64 (ofNat y)] [] (.b b2) []/\(!!b1)=true/\True/\(!b1)=false/\r2 ((!!b2)=true) (Con PG 25 [.s t] [] (.b b3) []/\(!!b2)=true/\True/\(!b2)=false/\(!b3)=false/\True/\True/\decide (ofNat x<ofNat (AK.p k))=false/\True/\True/\rg (ofNat (AK.d k)+1)/\(!decide (ofNat y=ofNat (AK.d k)+1))=false/\True/\True/\True/\decide (ofNat (AK.pb k)=ofNat x)=true/\True/\natsEq (AK.pv k) t=false/\Lf))):=by unfold VD VQ;kernel_rfl
theorem acW_vq (s:SS) (j:JS) (k:AK) (s2:SS) (j2:JS) (k2:AK) (E:Int) (x y:Nat) (t:List Nat) (b1 b2 b3:Bool) (h:b1=true) (h2:b2=true) (h3:b3=true) (h4:decide (ofNat x<ofNat k.p)=false) (h5:decide (ofNat y=ofNat k.d+1)=true) (h6:decide (ofNat k.pb=ofNat x)=false):VD PG 8 [.p 1 0,.i .i64 (ofNat x),.i .i64 (ofNat y),.s t] [some s.o,some (aO j k)] (.c (.cal [] (.b b1) [] (.t (.t (.cal [] (.b b2) [] (.t (.f (.t (.t (.cal [] (.b b3) [] (.t (of_ 5 (.cal [0,1] (.i .i64 E) [.set (SS.o s2),.set (aO j2 k2)] .z))))))))))))) (.i .i64 E) [.set s2.o,.set (aO j2 k2)] [] 3 (fun Lf=>True/\Con PG 23 [.i .i64 (ofNat x)] [] (.b b1) []/\True/\r2 ((!!b1)=true) (Con PG 23 [.i .i64 (ofNat y)] [] (.b b2) []/\(!!b1)=true/\True/\(!b1)=false/\r2 ((!!b2)=true) (Con PG 25 [.s t] [] (.b b3) []/\(!!b2)=true/\True/\(!b2)=false/\(!b3)=false/\True/\True/\decide (ofNat x<ofNat (AK.p k))=false/\True/\True/\rg (ofNat (AK.d k)+1)/\(!decide (ofNat y=ofNat (AK.d k)+1))=false/\True/\True/\True/\decide (ofNat (AK.pb k)=ofNat x)=false/\Con PG 24 [.p 1 0,rcW 2 x t] [some (SS.o s),some (aO j k)] (.i .i64 E) [.set (SS.o s2),.set (aO j2 k2)]/\Lf))):=by unfold VD VQ;kernel_rfl
theorem leR1_vq (s:SS) (j:JS) (k:AK) (t:List Nat) (b1:Bool) (ci:Int) (h:b1=false):VD PG 9 [.p 1 0,.i .i64 ci,.s t] [some s.o,some (aO j k)] (.c (.cal [] (.b b1) [] (of_ 3 (.t (.c .z))))) (.i .i64 2) [.keep,.keep] [] 2 (fun Lf=>True/\Con PG 23 [.i .i64 ci] [] (.b b1) []/\True/\r3 ((!!b1)=false) ((!b1)=true/\Lf)):=by unfold VD VQ;kernel_rfl
theorem leR2_vq (s:SS) (j:JS) (k:AK) (t:List Nat) (b1 b3:Bool) (ci:Int) (h:b1=true) (h2:b3=false):VD PG 9 [.p 1 0,.i .i64 ci,.s t] [some s.o,some (aO j k)] (.c (.cal [] (.b b1) [] (.t (.t (.cal [] (.b b3) [] (.t (.f (.t .z)))))))) (.i .i64 2) [.keep,.keep] [] 2 (fun Lf=>True/\Con PG 23 [.i .i64 ci] [] (.b b1) []/\True/\r2 ((!!b1)=true) (Con PG 19 [.s t] [] (.b b3) []/\(!!b1)=true/\True/\(!b1)=false/\(!b3)=true/\Lf)):=by unfold VD VQ;kernel_rfl
theorem leS_vq (s:SS) (j:JS) (k:AK) (x:Nat) (t:List Nat) (b1 b3:Bool) (h:b1=true) (h3:b3=true) (h4:decide (ofNat x<=ofNat k.d)=true):VD PG 9 [.p 1 0,.i .i64 (ofNat x),.s t] [some s.o,some (aO j k)] (.c (.cal [] (.b b1) [] (.t (.t (.cal [] (.b b3) [] (.t (.f (.f (.t .z))))))))) (.i .i64 25) [.keep,.keep] [] 2 (fun Lf=>True/\Con PG 23 [.i .i64 (ofNat x)] [] (.b b1) []/\True/\r2 ((!!b1)=true) (Con PG 19 [.s t] [] (.b b3) []/\(!!b1)=true/\True/\(!b1)=false/\(!b3)=false/\True/\True/\decide (ofNat x<=ofNat (AK.d k))=true/\Lf)):=by unfold VD VQ;kernel_rfl
theorem leW_vq (s:SS) (j:JS) (k:AK) (s2:SS) (j2:JS) (k2:AK) (E:Int) (x:Nat) (t:List Nat) (b1 b3:Bool) (h:b1=true) (h3:b3=true) (h4:decide (ofNat x<=ofNat k.d)=false):VD PG 9 [.p 1 0,.i .i64 (ofNat x),.s t] [some s.o,some (aO j k)] (.c (.cal [] (.b b1) [] (.t (.t (.cal [] (.b b3) [] (.t (of_ 3 (.cal [0,1] (.i .i64 E) [.set (SS.o s2),.set (aO j2 k2)] .z)))))))) (.i .i64 E) [.set s2.o,.set (aO j2 k2)] [] 2 (fun Lf=>True/\Con PG 23 [.i .i64 (ofNat x)] [] (.b b1) []/\True/\r2 ((!!b1)=true) (Con PG 19 [.s t] [] (.b b3) []/\(!!b1)=true/\True/\(!b1)=false/\(!b3)=false/\True/\True/\decide (ofNat x<=ofNat (AK.d k))=false/\Con PG 24 [.p 1 0,rcW 3 x t] [some (SS.o s),some (aO j k)] (.i .i64 E) [.set (SS.o s2),.set (aO j2 k2)]/\Lf)):=by unfold VD VQ;kernel_rfl
theorem gp_vq (s:SS) (j:JS) (k:AK):VD PG 10 [.p 1 0] [some s.o,some (aO j k)] (.c .z) (.i .i64 (ofNat (AK.p k))) [.keep,.keep] [] 2 (fun Lf=>True/\True/\True/\Lf):=by unfold VD VQ;kernel_rfl
theorem gd_vq (s:SS) (j:JS) (k:AK):VD PG 11 [.p 1 0] [some s.o,some (aO j k)] (.c .z) (.i .i64 (ofNat (AK.d k))) [.keep,.keep] [] 2 (fun Lf=>True/\True/\True/\Lf):=by unfold VD VQ;kernel_rfl
theorem gs_vq (s:SS) (j:JS) (k:AK):VD PG 12 [.p 1 0] [some s.o,some (aO j k)] (.c .z) (.s (AK.st k)) [.keep,.keep] [] 2 (fun Lf=>True/\True/\True/\Lf):=by unfold VD VQ;kernel_rfl
theorem ga_vq (s:SS) (j:JS) (k:AK):VD PG 13 [.p 1 0] [some s.o,some (aO j k)] (.c .z) (.agg [.i .i64 (ofNat (AK.pb k)),.s (AK.pv k)]) [.keep,.keep] [] 3 (fun Lf=>True/\True/\True/\Lf):=by unfold VD VQ;kernel_rfl
end Go.Proofs.Cl
namespace Go.Proofs.Cl
open Go Go.Sim Go.Proofs Go.Proofs.Cd Go.Proofs.St Go.Proofs.YthhjjpofenjknaaDoor
open Go.Proofs.Jn hiding rg
theorem run_congr {k:AK} {R R':Nat->Rc}:∀{n:Nat},(∀i,i<n->R i=R' i)->k.run R n=k.run R' n
 | 0,_=>rfl
 | n+1,h=>by
   show (k.run R n).take (R n)=(k.run R' n).take (R' n)
   rw [run_congr (n:=n) fun i hi=>h i (by omega),h n (by omega)]
structure AI (t0:List Nat) (s:SS) (j:JS) (k:AK) (mm n:Nat) (R:Nat->Rc):Prop where
 ji:∃m b,JI s j mm n m b/\(∀i,i<n->m i=(R i).L)/\∀i,i<n->IsRc (R i) (b i)
 tk:∀i,i<n->Tk ((k0 t0).run R i) (R i)
 ke:(k0 t0).run R n=k
 t0:t0.length<=1100
def rS (n:Nat) (R:Nat->Rc) (r:Rc) (i:Nat):Rc:=if i=n then r else R i
theorem AI.open_con {t0:List Nat} {s:SS} {j:JS} {k:AK} {mm n:Nat} {R:Nat->Rc} (a:AI t0 s j k mm n R):Con PG 5 [.p 0 0,.s t0] [some s.o] (.tup [.p 1 0,.i .i64 0]) [.set s.o,.set (aO j k)]:=by
 obtain ⟨m,b,h,hm,hb⟩:=a.ji
 have op:=h.open_con
 have key:=opena_con s s j t0 a.t0 n (by have:=h.few;omega) (Jn.opM s j.area) (Jn.opB s j.area) R a.tk (fun i hi=>by rw [h.opM hi,hm i hi]) (fun i hi t ht=>by
  have:t<m i:=by rw [hm i hi];exact ht
  rw [h.opB hi this];exact hb i hi t ht) (op.post (.refl _) (OVL.refl _))
 rw [a.ke] at key
 exact key
theorem AI.more {t0:List Nat} {s s2:SS} {j j2:JS} {k:AK} {mm mm2 n:Nat} {R:Nat->Rc} (a:AI t0 s j k mm n R) (r:Rc) (h:Tk k r) {m2:Nat->Nat} {b2:Nat->Nat->Nat} (ji:JI s2 j2 mm2 (n+1) m2 b2)
 (h1:∀i,i<n->m2 i=(R i).L/\IsRc (R i) (b2 i)) (h2:m2 n=r.L/\IsRc r (b2 n)):AI t0 s2 j2 (k.take r) mm2 (n+1) (rS n R r):=by
 have eR:∀i,i<n->rS n R r i=R i:=fun i hi=>if_neg (by omega)
 have en:rS n R r n=r:=if_pos rfl
 refine ⟨⟨m2,b2,ji,fun i hi=>?_,fun i hi=>?_⟩,fun i hi=>?_,?_,a.t0⟩
 · rcases Nat.lt_or_ge i n with q | q
   · rw [eR i q];exact (h1 i q).1
   · obtain rfl:i=n:=by omega
     rw [en];exact h2.1
 · rcases Nat.lt_or_ge i n with q | q
   · rw [eR i q];exact (h1 i q).2
   · obtain rfl:i=n:=by omega
     rw [en];exact h2.2
 · rcases Nat.lt_or_ge i n with q | q
   · rw [eR i q,run_congr (R:=rS n R r) (R':=R) fun z hz=>eR z (by omega)];exact a.tk i q
   · obtain rfl:i=n:=by omega
     rw [en,run_congr (R:=rS i R r) (R':=R) fun z hz=>eR z hz,a.ke];exact h
 · show ((k0 t0).run (rS n R r) n).take (rS n R r n)= _
   rw [en,run_congr (R:=rS n R r) (R':=R) fun z hz=>eR z hz,a.ke]
theorem AI.write {t0:List Nat} {s:SS} {j:JS} {k:AK} {mm n:Nat} {R:Nat->Rc} (a:AI t0 s j k mm n R) (c:Jn.Calm s) (r:Rc) (h:Tk k r) (hn:24*(n+1)<=60\/j.room>=24\/(r.L<=50/\2<=j.room)) (hm:mm<1000000000) :
 ∃s2 j2,Con PG 24 [.p 1 0,rcV r.k r.x r.t] [some s.o,some (aO j k)] (.i .i64 0) [.set s2.o,.set (aO j2 (k.take r))]/\AI t0 s2 j2 (k.take r) (mm+24) (n+1) (rS n R r)/\Jn.Calm s2/\j2.room=j.room-ofNat (npF r.L):=by
 obtain ⟨m,b,ji,hm1,hb1⟩:=a.ji
 have hL:=Rc.L_le h.ok
 have n24:=npF_24 hL
 have e2:r.L<=50->npF r.L<=2:=fun q=>by unfold npF;split<;>omega
 have hrm:=ji.rm
 have hfit:=ji.fit
 have hf:npF r.L<=60-sumP m n 0:=by
  have h24:=sumP_24 (m:=m) n fun i hi=>ji.len i hi
  rcases hn with q | q | ⟨q,q2⟩
  · omega
  · rw [hrm] at q;simp at q;omega
  · have:=e2 q;rw [hrm] at q2;simp at q2;omega
 obtain ⟨e0,c2,ji2⟩:=ji.appendC c hL (Rc.B_lt h.ok) hf
 have ap:=appenda_con k j (60-sumP m n 0) s r.L mm r.B ji.dead hrm (by omega) ji.area (by rw [ji.recs];have:=ji.few;omega) ji.okm (by omega) ji.hn (Rc.B_lt h.ok) hL hf
 unfold apJ at ap
 rw [decide_eq_true e0,cond_true,cond_true] at ap
 have by_:=bytes_con r h.ok
 have tk:=take_con (apS j (60-sumP m n 0) s r.L r.B) (j.more r.L) k r h
 refine ⟨apS j (60-sumP m n 0) s r.L r.B,j.more r.L,?_,?_,c2,rfl⟩
 · exact con_d (wrA_vq s j k (apS j (60-sumP m n 0) s r.L r.B) (j.more r.L) (k.take r) 0 r.L r.B r.k r.x r.t (by decide) (by decide)) (by
    repeat' first | exact trivial | exact by_ | exact ap | exact tk | exact rfl | (decide;done) | apply And.intro)
 · have ji3:JI (apS j (60-sumP m n 0) s r.L r.B) (j.more r.L) (mm+24) (n+1) (mS n m r.L) (bS n b r.B):={ ji2 with okm:=ji2.okm.mono (by omega)}
   exact a.more r h ji3 (fun i hi=>⟨by rw [mS_lt hi];exact hm1 i hi,by rw [bS_lt hi];exact hb1 i hi⟩) ⟨mS_eq _ _ _,by rw [bS_eq];exact fun _ _=>rfl⟩
theorem AI.new (t0:List Nat) (h:t0.length<=1100):AI t0 nS0 nJ0 (k0 t0) 1 0 (fun _=>⟨1,1,[]⟩):=⟨⟨_,_,nJI,fun i hi=>absurd hi (Nat.not_lt_zero _),fun i hi=>absurd hi (Nat.not_lt_zero _)⟩,fun i hi=>absurd hi (Nat.not_lt_zero _),rfl,h⟩
theorem anew_con (t0:List Nat) (h:t0.length<=1100):Con PG 5 [.p 0 0,.s t0] [some (SS.new 122).o] (.tup [.p 1 0,.i .i64 0]) [.set nS0.o,.set (aO nJ0 (k0 t0))]:=
 opena_con (SS.new 122) nS0 nJ0 t0 h 0 (by omega) (fun _=>0) (fun _ _=>0) (fun _=>⟨1,1,[]⟩) (fun i hi=>absurd hi (Nat.not_lt_zero _)) (fun i hi=>absurd hi (Nat.not_lt_zero _)) (fun i hi=>absurd hi (Nat.not_lt_zero _)) open0_con
end Go.Proofs.Cl
namespace Go.Proofs.Cl
open Go Go.Sim Go.Proofs Go.Proofs.Cd Go.Proofs.St Go.Proofs.YthhjjpofenjknaaDoor
open Go.Proofs.Jn hiding rg
theorem beg_vq (z s0:SS) (j0:JS) (k0:AK):VD PG 14 [.s [115]] [] (.cal [] (.tup [.p 0 0,.i .i64 0]) [.set (SS.o z)] (.cal [0] (.tup [.p 1 0,.i .i64 0]) [.set (SS.o s0),.set (aO j0 k0)] (.c .z))) (.tup [.p 0 0,.p 1 0]) [.set s0.o,.set (aO j0 k0)] [0,1] 2 (fun Lf=>Con PG 26 [.i .i64 122] [] (.tup [.p 0 0,.i .i64 0]) [.set (SS.o z)]/\Con PG 5 [.p 0 0,.s [115]] [some (SS.o z)] (.tup [.p 1 0,.i .i64 0]) [.set (SS.o s0),.set (aO j0 k0)]/\Lf):=by unfold VD VQ;kernel_rfl
theorem awk_vq (s0 s1 s2 s3 s4 s5:SS) (j0 j1 j2 j3 j4 j5:JS) (k0 k1 k2 k3 k4 k5:AK):VD PG 6 [] [] (.cal [] (.tup [.p 0 0,.p 1 0]) [.set (SS.o s0),.set (aO j0 k0)] (oc 2 (.cal [0,1] (.i .i64 0) [.set (SS.o s1),.set (aO j1 k1)] (oc 4 (.cal [0,1] (.i .i64 20) [.keep,.keep] (oc 4 (.cal [0,1] (.i .i64 0) [.set (SS.o s2),.set (aO j2 k2)] (oc 4 (.cal [0,1] (.i .i64 25) [.keep,.keep] (oc 4 (.cal [0,1] (.i .i64 20) [.keep,.keep] (oc 4 (.cal [0,1] (.i .i64 0) [.set (SS.o s3),.set (aO j3 k3)] (oc 3 (.cal [0,1] (.agg [.i .i64 6,.s [119]]) [.keep,.keep] (oc 2 (.cal [0,1] (.i .i64 6) [.keep,.keep] (oc 4 (.cal [0,1] (.s [115]) [.keep,.keep] (oc 4 (.cal [0,1] (.i .i64 0) [.set (SS.o s4),.set (aO j4 k4)] (oc 4 (.cal [0,1] (.i .i64 25) [.keep,.keep] (oc 4 (.cal [0,1] (.i .i64 0) [.set (SS.o s5),.set (aO j5 k5)] (oc 3 (.cal [0] (.tup [.p 1 0,.i .i64 0]) [.set (SS.o s5),.set (aO j5 k5)] (oc 2 (.cal [0,2] (.i .i64 6) [.keep,.keep] (oc 4 (.cal [0,2] (.i .i64 4) [.keep,.keep] (oc 4 (.cal [0,2] (.s [117]) [.keep,.keep] (oc 4 (.cal [0,2] (.agg [.i .i64 0,.s []]) [.keep,.keep] (oc 3 .z)))))))))))))))))))))))))))))))))))) (.b true) [] [] 3 (fun Lf=>Con PG 14 [.s [115]] [] (.tup [.p 0 0,.p 1 0]) [.set (SS.o s0),.set (aO j0 k0)]/\True/\Con PG 7 [.p 1 0,.i .i64 5] [some (SS.o s0),some (aO j0 k0)] (.i .i64 0) [.set (SS.o s1),.set (aO j1 k1)]/\Con PG 7 [.p 1 0,.i .i64 4] [some (SS.o s1),some (aO j1 k1)] (.i .i64 20) [.keep,.keep]/\Con PG 8 [.p 1 0,.i .i64 5,.i .i64 1,.s [118]] [some (SS.o s1),some (aO j1 k1)] (.i .i64 0) [.set (SS.o s2),.set (aO j2 k2)]/\Con PG 8 [.p 1 0,.i .i64 5,.i .i64 2,.s [119]] [some (SS.o s2),some (aO j2 k2)] (.i .i64 25) [.keep,.keep]/\Con PG 8 [.p 1 0,.i .i64 5,.i .i64 1,.s [119]] [some (SS.o s2),some (aO j2 k2)] (.i .i64 20) [.keep,.keep]/\Con PG 8 [.p 1 0,.i .i64 6,.i .i64 1,.s [119]] [some (SS.o s2),some (aO j2 k2)] (.i .i64 0) [.set (SS.o s3),.set (aO j3 k3)]/\Con PG 13 [.p 1 0] [some (SS.o s3),some (aO j3 k3)] (.agg [.i .i64 6,.s [119]]) [.keep,.keep]/\True/\Con PG 10 [.p 1 0] [some (SS.o s3),some (aO j3 k3)] (.i .i64 6) [.keep,.keep]/\Con PG 12 [.p 1 0] [some (SS.o s3),some (aO j3 k3)] (.s [115]) [.keep,.keep]/\Con PG 9 [.p 1 0,.i .i64 1,.s [116]] [some (SS.o s3),some (aO j3 k3)] (.i .i64 0) [.set (SS.o s4),.set (aO j4 k4)]/\Con PG 9 [.p 1 0,.i .i64 1,.s [117]] [some (SS.o s4),some (aO j4 k4)] (.i .i64 25) [.keep,.keep]/\Con PG 9 [.p 1 0,.i .i64 4,.s [117]] [some (SS.o s4),some (aO j4 k4)] (.i .i64 0) [.set (SS.o s5),.set (aO j5 k5)]/\Con PG 5 [.p 0 0,.s [115]] [some (SS.o s5)] (.tup [.p 1 0,.i .i64 0]) [.set (SS.o s5),.set (aO j5 k5)]/\Con PG 10 [.p 1 0] [some (SS.o s5),some (aO j5 k5)] (.i .i64 6) [.keep,.keep]/\Con PG 11 [.p 1 0] [some (SS.o s5),some (aO j5 k5)] (.i .i64 4) [.keep,.keep]/\Con PG 12 [.p 1 0] [some (SS.o s5),some (aO j5 k5)] (.s [117]) [.keep,.keep]/\Con PG 13 [.p 1 0] [some (SS.o s5),some (aO j5 k5)] (.agg [.i .i64 0,.s []]) [.keep,.keep]/\True/\Lf):=by unfold VD VQ;kernel_rfl
theorem cnt_con (x:Nat) (h:1<=x/\x<=1099511627776):Con PG 23 [.i .i64 (ofNat x)] [] (.b true) []:=by
 have c:=count_con (ofNat x)
 rwa [decide_eq_true (⟨by simp;omega,by simp;omega⟩:(1:Int)<=ofNat x/\ofNat x<=1099511627776)] at c
theorem val_con (t:List Nat) (h:1<=t.length/\t.length<=100):Con PG 25 [.s t] [] (.b true) []:=by
 have c:=value_con t
 rwa [decide_eq_true h] at c
theorem sta_con (t:List Nat) (h:t.length<=1100):Con PG 19 [.s t] [] (.b true) []:=by
 have c:=isState_con t
 rwa [decide_eq_true (by simp;omega:ofNat t.length<=1100)] at c
structure Ex (s:SS) (j:JS) (k:AK) (i:Nat):Prop where
 a:∃mm n R,AI [115] s j k mm n R/\mm<=24*i+1
 c:Jn.Calm s
 r:60-2*ofNat i<=j.room
theorem Ex.write {s:SS} {j:JS} {k:AK} {i:Nat} (e:Ex s j k i) (hi:i<=20) (r:Rc) (h:Tk k r) (hL:r.L<=50):∃s2 j2,Con PG 24 [.p 1 0,rcV r.k r.x r.t] [some s.o,some (aO j k)] (.i .i64 0) [.set s2.o,.set (aO j2 (k.take r))]/\Ex s2 j2 (k.take r) (i+1):=by
 obtain ⟨mm,n,R,a,hm⟩:=e.a
 have er:=e.r
 obtain ⟨s2,j2,w,a2,c2,r2⟩:=a.write e.c r h (.inr (.inr ⟨hL,by simp at er⊢;omega⟩)) (by omega)
 have n2:npF r.L<=2:=by unfold npF;split<;>omega
 exact ⟨s2,j2,w,⟨_,_,_,a2,by omega⟩,c2,by rw [r2];simp at er⊢;omega⟩
theorem Ex.promise {s:SS} {j:JS} {k:AK} {i:Nat} (e:Ex s j k i) (hi:i<=20) (x:Nat) (hx:1<=x/\x<=1099511627776) (hp:k.p<x):∃s2 j2,Con PG 7 [.p 1 0,.i .i64 (ofNat x)] [some s.o,some (aO j k)] (.i .i64 0) [.set s2.o,.set (aO j2 { k with p:=x})]/\Ex s2 j2 { k with p:=x} (i+1):=by
 have w2:=wl6 (n:=x) (by omega)
 have w1:wl 1=1:=wl_1 (by decide)
 have ok:Rc.ok ⟨1,x,[]⟩:=⟨.inl ⟨rfl,rfl⟩,hx,by simp,by simp⟩
 obtain ⟨s2,j2,w,e2⟩:=e.write hi ⟨1,x,[]⟩ ⟨ok,fun _=>by show k.p<=x;omega,fun h=>(by cases h),fun h=>(by cases h)⟩ (by show wl 1+wl x<=50;omega)
 have h1:decide (ofNat x<ofNat k.p)=false:=decide_eq_false (by simp;omega)
 have h2:decide (ofNat x=ofNat k.p)=false:=decide_eq_false (by simp;omega)
 have ct:=cnt_con x hx
 refine ⟨s2,j2,?_,e2⟩
 exact con_d (prW_vq s j k s2 j2 { k with p:=x} 0 x true rfl h1 h2) (by repeat' first | exact trivial | exact ct | exact w | exact h1 | exact h2 | exact nt h1 | exact nt h2 | exact rfl | (decide;done) | apply And.intro)
theorem Ex.accept {s:SS} {j:JS} {k:AK} {i:Nat} (e:Ex s j k i) (hi:i<=20) (x:Nat) (hx:1<=x/\x<=1099511627776) (y:Nat) (hy:1<=y/\y<=1099511627776) (hyd:y=k.d+1) (hp:k.p<=x) (hb:k.pb≠x) (t:List Nat) (ht:1<=t.length/\t.length<=30) (h256:∀z∈t,z<256) :
 ∃s2 j2,Con PG 8 [.p 1 0,.i .i64 (ofNat x),.i .i64 (ofNat y),.s t] [some s.o,some (aO j k)] (.i .i64 0) [.set s2.o,.set (aO j2 { k with p:=x,pb:=x,pv:=t})]/\Ex s2 j2 { k with p:=x,pb:=x,pv:=t} (i+1):=by
 have w2:=wl6 (n:=x) (by omega)
 have w1:wl 2=1:=wl_1 (by decide)
 have w3:=wl2 (n:=t.length) (by omega)
 have ok:Rc.ok ⟨2,x,t⟩:=⟨.inr (.inl rfl),hx,h256,by show t.length<=1100;omega⟩
 obtain ⟨s2,j2,w,e2⟩:=e.write hi ⟨2,x,t⟩ ⟨ok,fun _=>hp,fun _=>⟨ht.1,by show t.length<=100;omega⟩,fun h=>(by cases h)⟩ (by show wl 2+wl x+wl t.length+t.length<=50;omega)
 have h1:decide (ofNat x<ofNat k.p)=false:=decide_eq_false (by simp;omega)
 have h2:decide (ofNat y=ofNat k.d+1)=true:=decide_eq_true (by rw [hyd];rfl)
 have h3:decide (ofNat k.pb=ofNat x)=false:=decide_eq_false (by simp;omega)
 have ct:=cnt_con x hx
 have cy:=cnt_con y hy
 have iv:=val_con t ⟨ht.1,by omega⟩
 have ri:rg (ofNat k.d+1):=⟨by simp<;>omega,by simp<;>omega⟩
 refine ⟨s2,j2,?_,e2⟩
 exact con_d (acW_vq s j k s2 j2 { k with p:=x,pb:=x,pv:=t} 0 x y t true true true rfl rfl rfl h1 h2 h3) (by repeat' first | exact trivial | exact ct | exact cy | exact iv | exact w | exact ri | exact h1 | exact h2 | exact h3 | exact nt h1 | exact nf h2 | exact nnt h2 | exact nt h3 | exact rfl | (decide;done) | apply And.intro)
theorem Ex.learn {s:SS} {j:JS} {k:AK} {i:Nat} (e:Ex s j k i) (hi:i<=20) (x:Nat) (hx:1<=x/\x<=1099511627776) (hd:k.d<x) (t:List Nat) (ht:t.length<=30) (h256:∀z∈t,z<256) :
 ∃s2 j2,Con PG 9 [.p 1 0,.i .i64 (ofNat x),.s t] [some s.o,some (aO j k)] (.i .i64 0) [.set s2.o,.set (aO j2 { k with d:=x,st:=t,pb:=0,pv:=[]})]/\Ex s2 j2 { k with d:=x,st:=t,pb:=0,pv:=[]} (i+1):=by
 have w2:=wl6 (n:=x) (by omega)
 have w1:wl 3=1:=wl_1 (by decide)
 have w3:=wl2 (n:=t.length) (by omega)
 have ok:Rc.ok ⟨3,x,t⟩:=⟨.inr (.inr rfl),hx,h256,by show t.length<=1100;omega⟩
 obtain ⟨s2,j2,w,e2⟩:=e.write hi ⟨3,x,t⟩ ⟨ok,fun h=>absurd (show 3<=2 from h) (by decide),fun h=>(by cases h),fun _=>hd⟩ (by show wl 3+wl x+wl t.length+t.length<=50;omega)
 have h1:decide (ofNat x<=ofNat k.d)=false:=decide_eq_false (by simp;omega)
 have ct:=cnt_con x hx
 have is:=sta_con t (by omega)
 refine ⟨s2,j2,?_,e2⟩
 exact con_d (leW_vq s j k s2 j2 { k with d:=x,st:=t,pb:=0,pv:=[]} 0 x t true true rfl rfl h1) (by repeat' first | exact trivial | exact ct | exact is | exact w | exact h1 | exact nt h1 | exact rfl | (decide;done) | apply And.intro)
theorem gp_con (s:SS) (j:JS) (k:AK):Con PG 10 [.p 1 0] [some s.o,some (aO j k)] (.i .i64 (ofNat k.p)) [.keep,.keep]:=con_d (gp_vq s j k) (by repeat' first | exact trivial | exact rfl | apply And.intro)
theorem gd_con (s:SS) (j:JS) (k:AK):Con PG 11 [.p 1 0] [some s.o,some (aO j k)] (.i .i64 (ofNat k.d)) [.keep,.keep]:=con_d (gd_vq s j k) (by repeat' first | exact trivial | exact rfl | apply And.intro)
theorem gs_con (s:SS) (j:JS) (k:AK):Con PG 12 [.p 1 0] [some s.o,some (aO j k)] (.s k.st) [.keep,.keep]:=con_d (gs_vq s j k) (by repeat' first | exact trivial | exact rfl | apply And.intro)
theorem ga_con (s:SS) (j:JS) (k:AK):Con PG 13 [.p 1 0] [some s.o,some (aO j k)] (.agg [.i .i64 (ofNat k.pb),.s k.pv]) [.keep,.keep]:=con_d (ga_vq s j k) (by repeat' first | exact trivial | exact rfl | apply And.intro)
theorem ex0:Ex nS0 nJ0 (k0 [115]) 0:=⟨⟨_,_,_,AI.new [115] (by decide),by decide⟩,nS0_calm,by decide⟩
theorem begin_con:Con PG 14 [.s [115]] [] (.tup [.p 0 0,.p 1 0]) [.set nS0.o,.set (aO nJ0 (k0 [115]))]:=
 con_d (beg_vq (SS.new 122) nS0 nJ0 (k0 [115])) (by
  have n:=new_con 122 (by decide) (by decide)
  have o:=anew_con [115] (by decide)
  repeat' first | exact trivial | exact n | exact o | exact rfl | (decide;done) | apply And.intro)
theorem awake_con:Con PG 6 [] [] (.b true) []:=by
 obtain ⟨s1,j1,p1,e1⟩:=ex0.promise (by decide) 5 (by decide) (by decide)
 obtain ⟨s2,j2,a1,e2⟩:=e1.accept (by decide) 5 (by decide) 1 (by decide) rfl (by decide) (by decide) [118] (by decide) (by decide)
 obtain ⟨s3,j3,a4,e3⟩:=e2.accept (by decide) 6 (by decide) 1 (by decide) rfl (by decide) (by decide) [119] (by decide) (by decide)
 obtain ⟨s4,j4,l1,e4⟩:=e3.learn (by decide) 1 (by decide) (by decide) [116] (by decide) (by decide)
 obtain ⟨s5,j5,l3,e5⟩:=e4.learn (by decide) 4 (by decide) (by decide) [117] (by decide) (by decide)
 have p4:=con_d (prB_vq s1 j1 { k0 [115] with p:=5} 4 true rfl (by decide)) (by
  have ct:=cnt_con 4 (by decide)
  repeat' first | exact trivial | exact ct | exact rfl | (decide;done) | apply And.intro)
 have a2:=con_d (acS_vq s2 j2 { k0 [115] with p:=5,pb:=5,pv:=[118]} 5 2 [119] true true true rfl rfl rfl (by decide) (by decide)) (by
  have cx:=cnt_con 5 (by decide)
  have cy:=cnt_con 2 (by decide)
  have iv:=val_con [119] (by decide)
  repeat' first | exact trivial | exact cx | exact cy | exact iv | exact rfl | (decide;done) | apply And.intro)
 have a3:=con_d (acN_vq s2 j2 { k0 [115] with p:=5,pb:=5,pv:=[118]} 5 1 [119] true true true rfl rfl rfl (by decide) (by decide) (by decide) (by kernel_rfl)) (by
  have cx:=cnt_con 5 (by decide)
  have cy:=cnt_con 1 (by decide)
  have iv:=val_con [119] (by decide)
  repeat' first | exact trivial | exact cx | exact cy | exact iv | exact rfl | (decide;done) | kernel_rfl | apply And.intro)
 have l2:=con_d (leS_vq s4 j4 { k0 [115] with p:=6,d:=1,st:=[116],pb:=0,pv:=[]} 1 [117] true true rfl rfl (by decide)) (by
  have cx:=cnt_con 1 (by decide)
  have is:=sta_con [117] (by decide)
  repeat' first | exact trivial | exact cx | exact is | exact rfl | (decide;done) | apply And.intro)
 obtain ⟨mm,n,R,ai,_⟩:=e5.a
 have op:=ai.open_con
 exact con_d (awk_vq nS0 s1 s2 s3 s4 s5 nJ0 j1 j2 j3 j4 j5 (k0 [115]) { k0 [115] with p:=5} { k0 [115] with p:=5,pb:=5,pv:=[118]} { k0 [115] with p:=6,pb:=6,pv:=[119]} { k0 [115] with p:=6,d:=1,st:=[116],pb:=0,pv:=[]} { k0 [115] with p:=6,d:=4,st:=[117],pb:=0,pv:=[]})
  (by
    have g1:=ga_con s3 j3 { k0 [115] with p:=6,pb:=6,pv:=[119]}
    have g2:=gp_con s3 j3 { k0 [115] with p:=6,pb:=6,pv:=[119]}
    have g3:=gs_con s3 j3 { k0 [115] with p:=6,pb:=6,pv:=[119]}
    have g4:=gp_con s5 j5 { k0 [115] with p:=6,d:=4,st:=[117],pb:=0,pv:=[]}
    have g5:=gd_con s5 j5 { k0 [115] with p:=6,d:=4,st:=[117],pb:=0,pv:=[]}
    have g6:=gs_con s5 j5 { k0 [115] with p:=6,d:=4,st:=[117],pb:=0,pv:=[]}
    have g7:=ga_con s5 j5 { k0 [115] with p:=6,d:=4,st:=[117],pb:=0,pv:=[]}
    repeat' first | exact trivial | exact begin_con | exact p1 | exact p4 | exact a1 | exact a2 | exact a3 | exact a4 | exact l1 | exact l2 | exact l3 | exact op | exact g1 | exact g2 | exact g3 | exact g4 | exact g5 | exact g6 | exact g7 | exact rfl | (decide;done) | apply And.intro)
end Go.Proofs.Cl
namespace Go.Proofs.Cl
open Go Go.Sim Go.Proofs Go.Proofs.Cd Go.Proofs.St Go.Proofs.YthhjjpofenjknaaDoor
open Go.Proofs.Jn hiding rg
theorem nxRa_lq (s:SS) (j:JS) (k:AK) (g i:Nat) (G N I P L:Nat->Nat) (D:Nat->Nat->Nat) (h0:decide (ofNat i<60)=true):LD PG (loopAt PG 75 0) 59 2 [(0,.p 1 0),(6,.i .i64 (ofNat g)),(33,.sv 5 60 (ptF G N I P L D)),(34,.i .i64 60),(35,.i .i64 (ofNat i))] [some s.o,some (aO j k)] (.t .z) .nrm [0,1] [(0,.p 1 0),(6,.i .i64 (if ofNat (G i)>ofNat g then ofNat (G i) else ofNat g)),(33,.sv 5 60 (ptF G N I P L D)),(34,.i .i64 60),(35,.i .i64 (ofNat i+1))] [some s.o,some (aO j k)] 3 (fun Lf=>decide (ofNat i<60)=true/\(0<=ofNat i/\ofNat i<60)/\True/\True/\rg (ofNat i+1)/\Lf):=by unfold LD LQ;kernel_rfl
theorem nxEa_lq (s:SS) (j:JS) (k:AK) (g i:Nat) (F:Nat->Nat->CV) (h0:decide (ofNat i<60)=false):LD PG (loopAt PG 75 0) 59 2 [(0,.p 1 0),(6,.i .i64 (ofNat g)),(33,.sv 5 60 F),(34,.i .i64 60),(35,.i .i64 (ofNat i))] [some s.o,some (aO j k)] (.f .z) (.exit 0) [0,1] [(0,.p 1 0),(6,.i .i64 (ofNat g))] [some s.o,some (aO j k)] 2 (fun Lf=>decide (ofNat i<60)=false/\Lf):=by unfold LD LQ;kernel_rfl
theorem nxa1_vq (s:SS) (j:JS) (k:AK) (F:Nat->Nat->CV) (M:Nat) (h0:decide (1073741824<=ofNat j.gen)=false) (h1:decide (Int.tmod (ofNat M+1) 2=Int.tmod (ofNat j.gen) 2)=true) (h2:decide (1073741824<ofNat M+1+1)=false):VD PG 75 [.p 1 0] [some s.o,some (aO j k)] (.f (.inl (.cal [0] (.tup [.sv 5 60 F,.i .i64 0]) [.keep,.gone] (.c (.lop [0,1] [0,6,33,34,35] 2 (.exit 0) [(0,.p 1 0),(6,.i .i64 (ofNat M))] [some (SS.o s),some (aO j k)] (.t (.f .z))))))) (.tup [.i .i64 (ofNat M+(1:Int)+(1:Int)),.i .i64 0]) [.keep,.keep] [] 3 (fun Lf=>True/\decide (1073741824<=ofNat (JS.gen j))=false/\True/\True/\rg (1-ofNat (JS.area j))/\Con PG 31 [.p 0 0,.i .i64 (1-ofNat (JS.area j))] [some (SS.o s)] (.tup [.sv 5 60 F,.i .i64 0]) [.keep,.gone]/\True/\LDoes PG (loopAt PG 75 0) 59 2 (mkT [(0,.p 1 0),(6,.i .i64 (ofNat (JS.gen j))),(33,.sv 5 60 F),(34,.i .i64 60),(35,.i .i64 0)]) [some (SS.o s),some (aO j k)] (.exit 0) (mkT [(0,.p 1 0),(6,.i .i64 (ofNat M))]) [some (SS.o s),some (aO j k)]/\rg (ofNat M+1)/\(2:Int)≠(0:Int)/\True/\(2:Int)≠(0:Int)/\decide (Int.tmod (ofNat M+1) 2=Int.tmod (ofNat (JS.gen j)) 2)=true/\rg (ofNat M+(1:Int)+(1:Int))/\decide (1073741824<ofNat M+(1:Int)+(1:Int))=false/\Lf):=by unfold VD VQ;kernel_rfl
theorem nxa2_vq (s:SS) (j:JS) (k:AK) (F:Nat->Nat->CV) (M:Nat) (h0:decide (1073741824<=ofNat j.gen)=false) (h1:decide (Int.tmod (ofNat M+1) 2=Int.tmod (ofNat j.gen) 2)=true) (h2:decide (1073741824<ofNat M+1+1)=true):VD PG 75 [.p 1 0] [some s.o,some (aO j k)] (.f (.inl (.cal [0] (.tup [.sv 5 60 F,.i .i64 0]) [.keep,.gone] (.c (.lop [0,1] [0,6,33,34,35] 2 (.exit 0) [(0,.p 1 0),(6,.i .i64 (ofNat M))] [some (SS.o s),some (aO j k)] (.t (.t .z))))))) (.tup [.i .i64 0,.i .i64 15]) [.keep,.keep] [] 3 (fun Lf=>True/\decide (1073741824<=ofNat (JS.gen j))=false/\True/\True/\rg (1-ofNat (JS.area j))/\Con PG 31 [.p 0 0,.i .i64 (1-ofNat (JS.area j))] [some (SS.o s)] (.tup [.sv 5 60 F,.i .i64 0]) [.keep,.gone]/\True/\LDoes PG (loopAt PG 75 0) 59 2 (mkT [(0,.p 1 0),(6,.i .i64 (ofNat (JS.gen j))),(33,.sv 5 60 F),(34,.i .i64 60),(35,.i .i64 0)]) [some (SS.o s),some (aO j k)] (.exit 0) (mkT [(0,.p 1 0),(6,.i .i64 (ofNat M))]) [some (SS.o s),some (aO j k)]/\rg (ofNat M+1)/\(2:Int)≠(0:Int)/\True/\(2:Int)≠(0:Int)/\decide (Int.tmod (ofNat M+1) 2=Int.tmod (ofNat (JS.gen j)) 2)=true/\rg (ofNat M+(1:Int)+(1:Int))/\decide (1073741824<ofNat M+(1:Int)+(1:Int))=true/\Lf):=by unfold VD VQ;kernel_rfl
theorem nxa3_vq (s:SS) (j:JS) (k:AK) (F:Nat->Nat->CV) (M:Nat) (h0:decide (1073741824<=ofNat j.gen)=false) (h1:decide (Int.tmod (ofNat M+1) 2=Int.tmod (ofNat j.gen) 2)=false) (h2:decide (1073741824<ofNat M+1)=false):VD PG 75 [.p 1 0] [some s.o,some (aO j k)] (.f (.inl (.cal [0] (.tup [.sv 5 60 F,.i .i64 0]) [.keep,.gone] (.c (.lop [0,1] [0,6,33,34,35] 2 (.exit 0) [(0,.p 1 0),(6,.i .i64 (ofNat M))] [some (SS.o s),some (aO j k)] (.f (.f .z))))))) (.tup [.i .i64 (ofNat M+1),.i .i64 0]) [.keep,.keep] [] 3 (fun Lf=>True/\decide (1073741824<=ofNat (JS.gen j))=false/\True/\True/\rg (1-ofNat (JS.area j))/\Con PG 31 [.p 0 0,.i .i64 (1-ofNat (JS.area j))] [some (SS.o s)] (.tup [.sv 5 60 F,.i .i64 0]) [.keep,.gone]/\True/\LDoes PG (loopAt PG 75 0) 59 2 (mkT [(0,.p 1 0),(6,.i .i64 (ofNat (JS.gen j))),(33,.sv 5 60 F),(34,.i .i64 60),(35,.i .i64 0)]) [some (SS.o s),some (aO j k)] (.exit 0) (mkT [(0,.p 1 0),(6,.i .i64 (ofNat M))]) [some (SS.o s),some (aO j k)]/\rg (ofNat M+1)/\(2:Int)≠(0:Int)/\True/\(2:Int)≠(0:Int)/\decide (Int.tmod (ofNat M+1) 2=Int.tmod (ofNat (JS.gen j)) 2)=false/\decide (1073741824<ofNat M+1)=false/\Lf):=by unfold VD VQ;kernel_rfl
theorem nxa4_vq (s:SS) (j:JS) (k:AK) (F:Nat->Nat->CV) (M:Nat) (h0:decide (1073741824<=ofNat j.gen)=false) (h1:decide (Int.tmod (ofNat M+1) 2=Int.tmod (ofNat j.gen) 2)=false) (h2:decide (1073741824<ofNat M+1)=true):VD PG 75 [.p 1 0] [some s.o,some (aO j k)] (.f (.inl (.cal [0] (.tup [.sv 5 60 F,.i .i64 0]) [.keep,.gone] (.c (.lop [0,1] [0,6,33,34,35] 2 (.exit 0) [(0,.p 1 0),(6,.i .i64 (ofNat M))] [some (SS.o s),some (aO j k)] (.f (.t .z))))))) (.tup [.i .i64 0,.i .i64 15]) [.keep,.keep] [] 3 (fun Lf=>True/\decide (1073741824<=ofNat (JS.gen j))=false/\True/\True/\rg (1-ofNat (JS.area j))/\Con PG 31 [.p 0 0,.i .i64 (1-ofNat (JS.area j))] [some (SS.o s)] (.tup [.sv 5 60 F,.i .i64 0]) [.keep,.gone]/\True/\LDoes PG (loopAt PG 75 0) 59 2 (mkT [(0,.p 1 0),(6,.i .i64 (ofNat (JS.gen j))),(33,.sv 5 60 F),(34,.i .i64 60),(35,.i .i64 0)]) [some (SS.o s),some (aO j k)] (.exit 0) (mkT [(0,.p 1 0),(6,.i .i64 (ofNat M))]) [some (SS.o s),some (aO j k)]/\rg (ofNat M+1)/\(2:Int)≠(0:Int)/\True/\(2:Int)≠(0:Int)/\decide (Int.tmod (ofNat M+1) 2=Int.tmod (ofNat (JS.gen j)) 2)=false/\decide (1073741824<ofNat M+1)=true/\Lf):=by unfold VD VQ;kernel_rfl
theorem nxWa_vq (s:SS) (j:JS) (k:AK) (h0:decide (1073741824<=ofNat j.gen)=true):VD PG 75 [.p 1 0] [some s.o,some (aO j k)] (.t .z) (.tup [.i .i64 0,.i .i64 15]) [.keep,.keep] [] 2 (fun Lf=>True/\decide (1073741824<=ofNat (JS.gen j))=true/\Lf):=by unfold VD VQ;kernel_rfl
theorem rwAa_vq (s:SS) (j:JS) (k:AK) (S2 S3:SS) (E1 E2 E3 E4 N1:Int) (V n:Nat) (m:Nat->Nat) (b:Nat->Nat->Nat) (h0:j.dead=false) (h1:decide (E1=0)=true) (h3:decide (E3=0)=true) (h2:decide (E2=0)=true) (h4:decide (E4=0)=true):VD PG 57 [.p 1 0,.sv 1 n (recF m b)] [some s.o,some (aO j k)] (.inl (.c (.f (.c (.cal [] (.tup [.i .i64 N1,.i .i64 E1]) [] (.f (.cal [0,1] (.tup [.i .i64 (ofNat V),.i .i64 E3]) [.keep,.keep] (.f (.inl (.inl (.inl (.cal [0,4,2,3] (.i .i64 E2) [.set (SS.o S2),.keep,.keep,.keep] (ot 7 (.cal [0] (.i .i64 E4) [.set (SS.o S3)] (.t (.f (.f .z))))))))))))))))) (.i .i64 0) [.set S3.o,.set (cellsO 54 [.p 0 0,.i .i64 (ofNat V),.i .i64 (1-ofNat j.area),.i .i64 (ofNat n),.i .i64 (60-N1),.b j.dead,.i .i64 (ofNat k.p),.i .i64 (ofNat k.d),.s k.st,.i .i64 (ofNat k.pb),.s k.pv])] [] 5 (fun Lf=>True/\True/\JS.dead j=false/\Con PG 49 [.i .i64 60,.sv 1 n (recF m b)] [] (.tup [.i .i64 N1,.i .i64 E1]) []/\(!decide (E1=0))=false/\Con PG 75 [.p 1 0] [some (SS.o s),some (aO j k)] (.tup [.i .i64 (ofNat V),.i .i64 E3]) [.keep,.keep]/\(!decide (E3=0))=false/\True/\rg (1-ofNat (JS.area j))/\True/\rg ((1-ofNat (JS.area j))*60)/\rg (2+(1-ofNat (JS.area j))*60)/\Con PG 50 [.p 0 0,.i .i64 (2+(1-ofNat (JS.area j))*60),cutV] [some (SS.o s),some (cellsO 46 [.sv 1 n (recF m b)]),some (cellsO 3 [.i .i64 (ofNat V)]),some (cellsO 3 [.i .i64 (ofNat 0)])] (.i .i64 E2) [.set (SS.o S2),.keep,.keep,.keep]/\r3 ((!!decide (E2=0))=true) (True/\r4 ((!!decide (E2=0))=true) (Con PG 38 [.p 0 0,.i .i64 (ofNat V),.i .i64 (1-ofNat (JS.area j))] [some (SS.o S2)] (.i .i64 E4) [.set (SS.o S3)]/\(!!decide (E2=0))=true/\(!decide (E2=0))=false/\(!decide (E4=0))=false/\True/\True/\rg (60-N1)/\True/\True/\Lf))):=by unfold VD VQ;kernel_rfl
theorem rwBa_vq (s:SS) (j:JS) (k:AK) (S2 S3:SS) (E1 E2 E3 E4 N1:Int) (V n:Nat) (m:Nat->Nat) (b:Nat->Nat->Nat) (h0:j.dead=false) (h1:decide (E1=0)=true) (h3:decide (E3=0)=true) (h2:decide (E2=0)=true) (h4:decide (E4=0)=false):VD PG 57 [.p 1 0,.sv 1 n (recF m b)] [some s.o,some (aO j k)] (.inl (.c (.f (.c (.cal [] (.tup [.i .i64 N1,.i .i64 E1]) [] (.f (.cal [0,1] (.tup [.i .i64 (ofNat V),.i .i64 E3]) [.keep,.keep] (.f (.inl (.inl (.inl (.cal [0,4,2,3] (.i .i64 E2) [.set (SS.o S2),.keep,.keep,.keep] (ot 7 (.cal [0] (.i .i64 E4) [.set (SS.o S3)] (.t (.f (.t (.inl .z)))))))))))))))))) (.i .i64 13) [.set S3.o,.set (aO ({ j with dead:=true}:JS) k)] [] 5 (fun Lf=>True/\True/\JS.dead j=false/\Con PG 49 [.i .i64 60,.sv 1 n (recF m b)] [] (.tup [.i .i64 N1,.i .i64 E1]) []/\(!decide (E1=0))=false/\Con PG 75 [.p 1 0] [some (SS.o s),some (aO j k)] (.tup [.i .i64 (ofNat V),.i .i64 E3]) [.keep,.keep]/\(!decide (E3=0))=false/\True/\rg (1-ofNat (JS.area j))/\True/\rg ((1-ofNat (JS.area j))*60)/\rg (2+(1-ofNat (JS.area j))*60)/\Con PG 50 [.p 0 0,.i .i64 (2+(1-ofNat (JS.area j))*60),cutV] [some (SS.o s),some (cellsO 46 [.sv 1 n (recF m b)]),some (cellsO 3 [.i .i64 (ofNat V)]),some (cellsO 3 [.i .i64 (ofNat 0)])] (.i .i64 E2) [.set (SS.o S2),.keep,.keep,.keep]/\r3 ((!!decide (E2=0))=true) (True/\r4 ((!!decide (E2=0))=true) (Con PG 38 [.p 0 0,.i .i64 (ofNat V),.i .i64 (1-ofNat (JS.area j))] [some (SS.o S2)] (.i .i64 E4) [.set (SS.o S3)]/\(!!decide (E2=0))=true/\(!decide (E2=0))=false/\(!decide (E4=0))=true/\True/\Lf))):=by unfold VD VQ;kernel_rfl
theorem rwCa_vq (s:SS) (j:JS) (k:AK) (S2:SS) (E1 E2 E3 N1:Int) (V n:Nat) (m:Nat->Nat) (b:Nat->Nat->Nat) (h0:j.dead=false) (h1:decide (E1=0)=true) (h3:decide (E3=0)=true) (h2:decide (E2=0)=false):VD PG 57 [.p 1 0,.sv 1 n (recF m b)] [some s.o,some (aO j k)] (.inl (.c (.f (.c (.cal [] (.tup [.i .i64 N1,.i .i64 E1]) [] (.f (.cal [0,1] (.tup [.i .i64 (ofNat V),.i .i64 E3]) [.keep,.keep] (.f (.inl (.inl (.inl (.cal [0,4,2,3] (.i .i64 E2) [.set (SS.o S2),.keep,.keep,.keep] (of_ 8 (.t (.c (.inl .z)))))))))))))))) (.i .i64 13) [.set S2.o,.set (aO ({ j with dead:=true}:JS) k)] [] 5 (fun Lf=>True/\True/\JS.dead j=false/\Con PG 49 [.i .i64 60,.sv 1 n (recF m b)] [] (.tup [.i .i64 N1,.i .i64 E1]) []/\(!decide (E1=0))=false/\Con PG 75 [.p 1 0] [some (SS.o s),some (aO j k)] (.tup [.i .i64 (ofNat V),.i .i64 E3]) [.keep,.keep]/\(!decide (E3=0))=false/\True/\rg (1-ofNat (JS.area j))/\True/\rg ((1-ofNat (JS.area j))*60)/\rg (2+(1-ofNat (JS.area j))*60)/\Con PG 50 [.p 0 0,.i .i64 (2+(1-ofNat (JS.area j))*60),cutV] [some (SS.o s),some (cellsO 46 [.sv 1 n (recF m b)]),some (cellsO 3 [.i .i64 (ofNat V)]),some (cellsO 3 [.i .i64 (ofNat 0)])] (.i .i64 E2) [.set (SS.o S2),.keep,.keep,.keep]/\r2 ((!!decide (E2=0))=false) (r6 ((!!decide (E2=0))=false) ((!decide (E2=0))=true/\True/\Lf))):=by unfold VD VQ;kernel_rfl
theorem rwDa_vq (s:SS) (j:JS) (k:AK) (E1 E3 N1:Int) (V n:Nat) (m:Nat->Nat) (b:Nat->Nat->Nat) (h0:j.dead=false) (h1:decide (E1=0)=true) (h3:decide (E3=0)=false):VD PG 57 [.p 1 0,.sv 1 n (recF m b)] [some s.o,some (aO j k)] (.inl (.c (.f (.c (.cal [] (.tup [.i .i64 N1,.i .i64 E1]) [] (.f (.cal [0,1] (.tup [.i .i64 (ofNat V),.i .i64 E3]) [.keep,.keep] (.t .z)))))))) (.i .i64 E3) [.keep,.keep] [] 2 (fun Lf=>True/\True/\JS.dead j=false/\Con PG 49 [.i .i64 60,.sv 1 n (recF m b)] [] (.tup [.i .i64 N1,.i .i64 E1]) []/\(!decide (E1=0))=false/\Con PG 75 [.p 1 0] [some (SS.o s),some (aO j k)] (.tup [.i .i64 (ofNat V),.i .i64 E3]) [.keep,.keep]/\(!decide (E3=0))=true/\Lf):=by unfold VD VQ;kernel_rfl
theorem nxa_lp (s:SS) (j:JS) (k:AK) (g:Nat) (G N I P L:Nat->Nat) (D:Nat->Nat->Nat) :
 LDoes PG (loopAt PG 75 0) 59 2 (mkT (nxT g 0 (ptF G N I P L D))) [some s.o,some (aO j k)] (.exit 0) (mkT [(0,.p 1 0),(6,.i .i64 (ofNat (mxG G g 60)))]) [some s.o,some (aO j k)]:=by
 refine loop_q (fun i:Nat=>(nxT (mxG G g i) i (ptF G N I P L D),[some s.o,some (aO j k)])) (fun i=>60-i) (fun i=>i<=60) (fun _=>Nat.le_refl _) ?_ 0 (Nat.zero_le _)
 intro i hi
 rcases Nat.lt_or_ge i 60 with hlt | q
 · have h0:decide (ofNat i<60)=true:=decide_eq_true (by simp;omega)
   have bi:(0:Int)<=ofNat i/\ofNat i<(60:Int):=⟨by simp,by simp;omega⟩
   have ri:rg (ofNat i+1):=⟨by simp<;>omega,by simp<;>omega⟩
   have e:(if ofNat (G i)>ofNat (mxG G g i) then ofNat (G i) else ofNat (mxG G g i))=ofNat (mxG G g (i+1)):=by
    show _=ofNat (if G i>mxG G g i then G i else mxG G g i)
    by_cases c:G i>mxG G g i
    · rw [if_pos c,if_pos (by simp;omega)]
    · rw [if_neg c,if_neg (by simp;omega)]
   have R:=nxRa_lq s j k (mxG G g i) i G N I P L D h0
   rw [e] at R
   exact rd_nrm R (by repeat' first | exact trivial | exact h0 | exact bi | exact ri | exact rfl | apply And.intro) (i+1) hlt (by show 60-(i+1)<60-i;omega) rfl (.refl _) (.refl _)
 · obtain rfl:i=60:=Nat.le_antisymm hi q
   exact rd_out (nxEa_lq s j k (mxG G g 60) 60 (ptF G N I P L D) (by decide)) ⟨by decide,rfl⟩ rfl rfl (.refl _) (.refl _)
theorem nexta_con (s:SS) (j:JS) (k:AK) (hg:j.gen<1073741824) (ha:j.area<=1) (on:s.off=false) (hn:122<=s.n) (h512:s.n<=512) (hb:Byt s) :
 Con PG 75 [.p 1 0] [some s.o,some (aO j k)] (bif Nat.ble (nxV s j) 1073741824 then .tup [.i .i64 (ofNat (nxV s j)),.i .i64 0] else .tup [.i .i64 0,.i .i64 15]) [.keep,.keep]:=by
 have h0:decide (1073741824<=ofNat j.gen)=false:=decide_eq_false (by simp;omega)
 have eA:(1:Int)-ofNat j.area=ofNat (1-j.area):=by simp;omega
 have w1:Con PG 31 [.p 0 0,.i .i64 ((1:Int)-ofNat j.area)] [some s.o] (.tup [.sv 5 60 (prF s (1-j.area)),.i .i64 0]) [.keep,.gone]:=by
  rw [eA];exact look_con s (1-j.area) on hn h512 hb (by omega)
 have w2:=nxa_lp s j k j.gen (aG s (1-j.area)) (aN s (1-j.area)) (Jn.aI s (1-j.area)) (aP s (1-j.area)) (aL s (1-j.area)) (aD s (1-j.area))
 rw [<-prF_a] at w2
 have hM:nxG s j<=4294967296:=mxG_le (by omega) (fun i=>stG_le _) 60
 have r0:rg ((1:Int)-ofNat j.area):=⟨by simp<;>omega,by simp<;>omega⟩
 have w2':LDoes PG (loopAt PG 75 0) 59 2 (mkT (nxT j.gen 0 (prF s (1-j.area)))) [some s.o,some (aO j k)] (.exit 0) (mkT [(0,.p 1 0),(6,.i .i64 (ofNat (nxG s j)))]) [some s.o,some (aO j k)]:=w2
 unfold nxV
 generalize nxG s j=M at hM w2'⊢
 have r1:rg (ofNat M+1):=⟨by simp<;>omega,by simp<;>omega⟩
 have r2:rg (ofNat M+(1:Int)+(1:Int)):=⟨by simp<;>omega,by simp<;>omega⟩
 have d:decide (Int.tmod (ofNat M+1) 2=Int.tmod (ofNat j.gen) 2)=Nat.beq ((M+1) % 2) (j.gen % 2):=deq ((M+1) % 2) (j.gen % 2)
 have z:(2:Int)≠0:=by decide
 cases c:Nat.beq ((M+1) % 2) (j.gen % 2) with
 | true=>
   rw [c] at d
   rw [cond_true]
   cases c2:Nat.ble (M+1+1) 1073741824 with
   | true=>
     rw [cond_true]
     have d2:decide ((1073741824:Int)<ofNat M+(1:Int)+(1:Int))=false:=by rw [Nat.ble_eq] at c2;exact decide_eq_false (by simp;omega)
     exact con_d (nxa1_vq s j k _ M h0 d d2) (by repeat' first | exact trivial | exact h0 | exact r0 | exact r1 | exact r2 | exact w1 | exact w2' | exact z | exact d | exact d2 | exact nf d | exact nt d2 | exact rfl | apply And.intro)
   | false=>
     rw [cond_false]
     have d2:decide ((1073741824:Int)<ofNat M+(1:Int)+(1:Int))=true:=by rw [Bool.eq_false_iff,ne_eq,Nat.ble_eq] at c2;exact decide_eq_true (by simp;omega)
     exact con_d (nxa2_vq s j k _ M h0 d d2) (by repeat' first | exact trivial | exact h0 | exact r0 | exact r1 | exact r2 | exact w1 | exact w2' | exact z | exact d | exact d2 | exact nf d | exact nf d2 | exact rfl | apply And.intro)
 | false=>
   rw [c] at d
   rw [cond_false]
   cases c2:Nat.ble (M+1) 1073741824 with
   | true=>
     rw [cond_true]
     have d2:decide ((1073741824:Int)<ofNat M+(1:Int))=false:=by rw [Nat.ble_eq] at c2;exact decide_eq_false (by simp;omega)
     exact con_d (nxa3_vq s j k _ M h0 d d2) (by repeat' first | exact trivial | exact h0 | exact r0 | exact r1 | exact w1 | exact w2' | exact z | exact d | exact d2 | exact nt d | exact nt d2 | exact rfl | apply And.intro)
   | false=>
     rw [cond_false]
     have d2:decide ((1073741824:Int)<ofNat M+(1:Int))=true:=by rw [Bool.eq_false_iff,ne_eq,Nat.ble_eq] at c2;exact decide_eq_true (by simp;omega)
     exact con_d (nxa4_vq s j k _ M h0 d d2) (by repeat' first | exact trivial | exact h0 | exact r0 | exact r1 | exact w1 | exact w2' | exact z | exact d | exact d2 | exact nt d | exact nf d2 | exact rfl | apply And.intro)
theorem nextaWorn_con (s:SS) (j:JS) (k:AK) (hg:1073741824<=j.gen):Con PG 75 [.p 1 0] [some s.o,some (aO j k)] (.tup [.i .i64 0,.i .i64 15]) [.keep,.keep]:=by
 have h0:decide (1073741824<=ofNat j.gen)=true:=decide_eq_true (by simp;omega)
 exact con_d (nxWa_vq s j k h0) (by repeat' first | exact trivial | exact h0 | exact nf h0 | exact rfl | apply And.intro)
end Go.Proofs.Cl
namespace Go.Proofs.Cl
open Go Go.Sim Go.Proofs Go.Proofs.Cd Go.Proofs.St Go.Proofs.YthhjjpofenjknaaDoor
open Go.Proofs.Jn hiding rg
theorem rewritea_con (k:AK) (s:SS) (j:JS) (n mm:Nat) (m:Nat->Nat) (b:Nat->Nat->Nat) (hd:j.dead=false) (hl:∀i,i<n->m i<=1128) (hs:sumP m n 0<=60) (hg:j.gen<1073741824) (hv:nxV s j<=1073741824) (ha:j.area<=1) (on:s.off=false) (hn:122<=s.n) (hB:Byt s) (ok:OkM s mm) (hm:mm+61<1073741823) (hb:∀i t,b i t<256) :
 Con PG 57 [.p 1 0,.sv 1 n (recF m b)] [some s.o,some (aO j k)]
  (.i .i64 (bif decide (rwE s j n m b=0) then (bif decide (nmE (rwS s j n m b) (nxV s j) (1-j.area)=0) then 0 else 13) else 13))
  [.set (bif decide (rwE s j n m b=0) then nmS (rwS s j n m b) (nxV s j) (1-j.area) else rwS s j n m b).o,
   .set (aO (bif decide (rwE s j n m b=0) then (bif decide (nmE (rwS s j n m b) (nxV s j) (1-j.area)=0) then rwJ s j n m else { j with dead:=true}) else { j with dead:=true}) k)]:=by
 have hnn:=sumP_ge m n 0
 have w1:=fitOk_con 60 n m b (by omega) hl (by simp;omega)
 have w2:=nexta_con s j k hg ha on hn ok.n hB
 rw [show Nat.ble (nxV s j) 1073741824=true from Nat.ble_eq_true_of_le hv,cond_true] at w2
 have w3:=commit_con (nxV s j) 0 n mm m b s (2+(1-j.area)*60) ok hb (by omega) (by omega) (by omega)
 have h2:=cmtS_ok (nxV s j) 0 n mm m b s (2+(1-j.area)*60) ok (by omega)
 have w4:=name_con (rwS s j n m b) (nxV s j) (1-j.area) (mm+sumP m n 0) h2.1 (by omega) (by have:=h2.2;show 2<=(cmtS _ _ _ _ _ _ _).n;omega)
 have eA:(1:Int)-ofNat j.area=ofNat (1-j.area):=by simp;omega
 have eJ:aO (rwJ s j n m) k=cellsO 54 [.p 0 0,.i .i64 (ofNat (nxV s j)),.i .i64 (1-ofNat j.area),.i .i64 (ofNat n),.i .i64 (60-ofNat (sumP m n 0)),.b j.dead,.i .i64 (ofNat k.p),.i .i64 (ofNat k.d),.s k.st,.i .i64 (ofNat k.pb),.s k.pv]:=by rw [eA];rfl
 generalize rwJ s j n m=J at eJ⊢
 have w3':Con PG 50 [.p 0 0,.i .i64 (2+(1-ofNat j.area)*60),cutV] [some s.o,some (cellsO 46 [.sv 1 n (recF m b)]),some (cellsO 3 [.i .i64 (ofNat (nxV s j))]),some (cellsO 3 [.i .i64 (ofNat 0)])] (.i .i64 (rwE s j n m b)) [.set (rwS s j n m b).o,.keep,.keep,.keep]:=by rw [eA];exact w3
 have w4':Con PG 38 [.p 0 0,.i .i64 (ofNat (nxV s j)),.i .i64 (1-ofNat j.area)] [some (rwS s j n m b).o] (.i .i64 (nmE (rwS s j n m b) (nxV s j) (1-j.area))) [.set (nmS (rwS s j n m b) (nxV s j) (1-j.area)).o]:=by rw [eA];exact w4
 generalize nmE (rwS s j n m b) (nxV s j) (1-j.area)=E4 at w4'⊢
 generalize nmS (rwS s j n m b) (nxV s j) (1-j.area)=S3 at w4'⊢
 generalize rwE s j n m b=E2 at w3'⊢
 generalize rwS s j n m b=S2 at w3' w4'⊢
 have r1:rg ((1:Int)-ofNat j.area):=⟨by simp<;>omega,by simp<;>omega⟩
 have r2:rg (((1:Int)-ofNat j.area)*(60:Int)):=⟨by simp<;>omega,by simp<;>omega⟩
 have r3:rg ((2:Int)+(1-ofNat j.area)*(60:Int)):=⟨by simp<;>omega,by simp<;>omega⟩
 have r4:rg ((60:Int)-ofNat (sumP m n 0)):=⟨by simp<;>omega,by simp<;>omega⟩
 have t0:(!decide ((0:Int)=0))=false:=by decide
 clear w3 h2 w4
 cases d2:decide (E2=0) with
 | false=>
   rw [cond_false,cond_false,cond_false]
   exact con_d (rwCa_vq s j k S2 0 E2 0 (ofNat (sumP m n 0)) (nxV s j) n m b hd (by decide) (by decide) d2) (by
    repeat' first | exact trivial | exact hd | exact w1 | exact w2 | exact w3' | exact r1 | exact r2 | exact r3 | exact t0 | exact nt d2 | exact nnf d2 | exact d2 | exact rfl | apply And.intro)
 | true=>
   rw [cond_true,cond_true,cond_true]
   cases d4:decide (E4=0) with
   | false=>
     rw [cond_false,cond_false]
     exact con_d (rwBa_vq s j k S2 S3 0 E2 0 E4 (ofNat (sumP m n 0)) (nxV s j) n m b hd (by decide) (by decide) d2 d4) (by
      repeat' first | exact trivial | exact hd | exact w1 | exact w2 | exact w3' | exact w4' | exact r1 | exact r2 | exact r3 | exact t0 | exact nf d2 | exact nnt d2 | exact nt d4 | exact nnf d4 | exact d2 | exact d4 | exact rfl | apply And.intro)
   | true=>
     rw [cond_true,cond_true,eJ]
     exact con_d (rwAa_vq s j k S2 S3 0 E2 0 E4 (ofNat (sumP m n 0)) (nxV s j) n m b hd (by decide) (by decide) d2 d4) (by
      repeat' first | exact trivial | exact hd | exact w1 | exact w2 | exact w3' | exact w4' | exact r1 | exact r2 | exact r3 | exact r4 | exact t0 | exact nf d2 | exact nnt d2 | exact nf d4 | exact nnt d4 | exact d2 | exact d4 | exact rfl | apply And.intro)
theorem rewriteaWorn_con (k:AK) (s:SS) (j:JS) (n:Nat) (m:Nat->Nat) (b:Nat->Nat->Nat) (hd:j.dead=false) (hl:∀i,i<n->m i<=1128) (hs:sumP m n 0<=60) (ha:j.area<=1) (on:s.off=false) (h122:122<=s.n) (h512:s.n<=512) (hB:Byt s) (w:1073741824<=j.gen\/1073741824<nxV s j) :
 Con PG 57 [.p 1 0,.sv 1 n (recF m b)] [some s.o,some (aO j k)] (.i .i64 15) [.keep,.keep]:=by
 have hn60:=sumP_ge m n 0
 have ft:=fitOk_con 60 n m b (by omega) hl (by simp;omega)
 have nx:Con PG 75 [.p 1 0] [some s.o,some (aO j k)] (.tup [.i .i64 (ofNat 0),.i .i64 15]) [.keep,.keep]:=by
  by_cases c:1073741824<=j.gen
  · exact nextaWorn_con s j k c
  · have q:=nexta_con s j k (by omega) ha on h122 h512 hB
    rw [bf (show ¬nxV s j<=1073741824 by rcases w with w | w<;>omega),cond_false] at q
    exact q
 exact con_d (rwDa_vq s j k 0 15 (ofNat (sumP m n 0)) 0 n m b hd (by decide) (by decide)) (by
  repeat' first | exact trivial | exact hd | exact ft | exact nx | exact rfl | (decide;done) | apply And.intro)
end Go.Proofs.Cl
namespace Go.Proofs.Cl
open Go Go.Sim Go.Proofs Go.Proofs.Cd Go.Proofs.Jn
def rcF (R:Nat->Rc) (i j:Nat):CV:=Nat.rec (.i .i64 (ofNat (R i).k)) (fun j _=>Nat.rec (.i .i64 (ofNat (R i).x)) (fun _ _=>.s (R i).t) j) j
end Go.Proofs.Cl
namespace Go.Proofs.Cl
open Go Go.Sim Go.Proofs Go.Proofs.Cd Go.Proofs.St Go.Proofs.YthhjjpofenjknaaDoor
open Go.Proofs.Jn hiding rg
theorem rs1_fq (s:SS) (j:JS) (k:AK) (n:Nat) (h1:decide (0<ofNat k.d)=false) (h2:decide (0<ofNat k.pb)=false) (h3:decide (0<ofNat k.p) =
 true):VF PG 56 [.p 1 6] [some s.o,some (aO j k)] (Orc.f (Orc.f (Orc.t Orc.z))) (.sv 3 1 (listF 3 [.i .i64 1,.i .i64 (ofNat k.p),.s []] 1)) [.keep,.keep] [3]
 [] (0+1*3<=3/\True) 4 (fun Lf=>True/\decide (0<ofNat (AK.d k))=false/\True/\True/\decide (0<ofNat (AK.pb k))=false/\True/\decide (0<ofNat
 (AK.p k))=true/\True/\Lf):=by unfold VF;kernel_rfl
theorem rs2_fq (s:SS) (j:JS) (k:AK) (n:Nat) (h1:decide (0<ofNat k.d)=false) (h2:decide (0<ofNat k.pb)=true) (h3:decide (0<ofNat k.p)=true)
 :VF PG 56 [.p 1 6] [some s.o,some (aO j k)] (Orc.f (Orc.t (Orc.t Orc.z))) (.sv 3 2 (listF 3 [.i .i64 2,.i .i64 (ofNat k.pb),.s k.pv,.i .i64 1,.i .i64
 (ofNat k.p),.s []] 2)) [.keep,.keep] [5] [] (0+2*3<=6/\True) 6 (fun Lf=>True/\decide (0<ofNat (AK.d k))=false/\True/\True/\decide (0<ofNat
 (AK.pb k))=true/\True/\True/\True/\True/\True/\decide (0<ofNat (AK.p k))=true/\True/\Lf):=by unfold VF;kernel_rfl
theorem rs3_fq (s:SS) (j:JS) (k:AK) (n:Nat) (h1:decide (0<ofNat k.d)=true) (h2:decide (0<ofNat k.pb)=false) (h3:decide (0<ofNat k.p) =
 false):VF PG 56 [.p 1 6] [some s.o,some (aO j k)] (Orc.t (Orc.f (Orc.f Orc.z))) (.sv 3 1 (listF 3 [.i .i64 3,.i .i64 (ofNat k.d),.s k.st] 1)) [.keep,.keep]
 [3] [] (0+1*3<=3/\True) 4 (fun Lf=>True/\decide (0<ofNat (AK.d k))=true/\True/\True/\True/\True/\decide (0<ofNat (AK.pb k))=false/\True/\
 decide (0<ofNat (AK.p k))=false/\Lf):=by unfold VF;kernel_rfl
theorem rs4_fq (s:SS) (j:JS) (k:AK) (n:Nat) (h1:decide (0<ofNat k.d)=true) (h2:decide (0<ofNat k.pb)=false) (h3:decide (0<ofNat k.p)=true)
 :VF PG 56 [.p 1 6] [some s.o,some (aO j k)] (Orc.t (Orc.f (Orc.t Orc.z))) (.sv 3 2 (listF 3 [.i .i64 3,.i .i64 (ofNat k.d),.s k.st,.i .i64 1,.i .i64
 (ofNat k.p),.s []] 2)) [.keep,.keep] [5] [] (0+2*3<=6/\True) 6 (fun Lf=>True/\decide (0<ofNat (AK.d k))=true/\True/\True/\True/\True/\decide (0 <
 ofNat (AK.pb k))=false/\True/\decide (0<ofNat (AK.p k))=true/\True/\Lf):=by unfold VF;kernel_rfl
theorem rs5_fq (s:SS) (j:JS) (k:AK) (n:Nat) (h1:decide (0<ofNat k.d)=true) (h2:decide (0<ofNat k.pb)=true) (h3:decide (0<ofNat k.p)=true)
 :VF PG 56 [.p 1 6] [some s.o,some (aO j k)] (Orc.t (Orc.t (Orc.t Orc.z))) (.sv 3 3 (listF 3 [.i .i64 3,.i .i64 (ofNat k.d),.s k.st,.i .i64 2,.i .i64
 (ofNat k.pb),.s k.pv,.i .i64 1,.i .i64 (ofNat k.p),.s []] 3)) [.keep,.keep] [7] [] (0+3*3<=9/\True) 8 (fun Lf=>True/\decide (0<ofNat (AK.d k)) =
 true/\True/\True/\True/\True/\decide (0<ofNat (AK.pb k))=true/\True/\True/\True/\True/\True/\decide (0<ofNat (AK.p k))=true/\True/\Lf)
 :=by unfold VF;kernel_rfl
def rl (k:AK):List Rc:=(bif decide (0<ofNat k.d) then [⟨3,k.d,k.st⟩] else []) ++ (bif decide (0<ofNat k.pb) then [⟨2,k.pb,k.pv⟩] else []) ++ (bif decide (0<ofNat k.p) then [⟨1,k.p,[]⟩] else [])
def rlR (k:AK) (i:Nat):Rc:=(rl k).getD i ⟨1,1,[]⟩
structure Some1 (k:AK):Prop where
 a:0<k.p\/0<k.d
 b:k.pb<=k.p
theorem records_con (s:SS) (j:JS) (k:AK) (h:Some1 k):Con PG 56 [.p 1 6] [some s.o,some (aO j k)] (.sv 3 (rl k).length (rcF (rlR k))) [.keep,.keep]:=by
 have three:∀{P:Nat->Prop},P 0->P 1->P 2->∀j,j<3->P j:=fun a b c j h=>match j,h with | 0,_=>a | 1,_=>b | 2,_=>c
 have h1:=h.a
 have h2:=h.b
 cases c1:decide (0<ofNat k.d) with
 | false=>
   have d0:k.d=0:=by have:=of_decide_eq_false c1;simp at this;omega
   have c3:decide (0<ofNat k.p)=true:=decide_eq_true (by simp;omega)
   cases c2:decide (0<ofNat k.pb) with
   | false=>
     have e:rl k=[⟨1,k.p,[]⟩]:=by unfold rl;rw [c1,c2,c3];rfl
     unfold rlR;rw [e]
     refine (con_f (rs1_fq s j k 0 c1 c2 c3) ⟨by decide,trivial⟩ (by repeat' first | exact trivial | assumption | decide | exact rfl | apply And.intro)).post (VW.sv fun i j hi hj=>?_) (OVL.refl _)
     obtain rfl:i=0:=by omega
     revert j
     exact three (by kernel_rfl) (by kernel_rfl) (by kernel_rfl)
   | true=>
     have e:rl k=[⟨2,k.pb,k.pv⟩,⟨1,k.p,[]⟩]:=by unfold rl;rw [c1,c2,c3];rfl
     unfold rlR;rw [e]
     refine (con_f (rs2_fq s j k 0 c1 c2 c3) ⟨by decide,trivial⟩ (by repeat' first | exact trivial | assumption | decide | exact rfl | apply And.intro)).post (VW.sv fun i j hi hj=>?_) (OVL.refl _)
     rcases (by omega:i=0\/i=1) with rfl | rfl<;>revert j
     · exact three (by kernel_rfl) (by kernel_rfl) (by kernel_rfl)
     · exact three (by kernel_rfl) (by kernel_rfl) (by kernel_rfl)
 | true=>
   cases c2:decide (0<ofNat k.pb) with
   | false=>
     cases c3:decide (0<ofNat k.p) with
     | false=>
       have e:rl k=[⟨3,k.d,k.st⟩]:=by unfold rl;rw [c1,c2,c3];rfl
       unfold rlR;rw [e]
       refine (con_f (rs3_fq s j k 0 c1 c2 c3) ⟨by decide,trivial⟩ (by repeat' first | exact trivial | assumption | decide | exact rfl | apply And.intro)).post (VW.sv fun i j hi hj=>?_) (OVL.refl _)
       obtain rfl:i=0:=by omega
       revert j
       exact three (by kernel_rfl) (by kernel_rfl) (by kernel_rfl)
     | true=>
       have e:rl k=[⟨3,k.d,k.st⟩,⟨1,k.p,[]⟩]:=by unfold rl;rw [c1,c2,c3];rfl
       unfold rlR;rw [e]
       refine (con_f (rs4_fq s j k 0 c1 c2 c3) ⟨by decide,trivial⟩ (by repeat' first | exact trivial | assumption | decide | exact rfl | apply And.intro)).post (VW.sv fun i j hi hj=>?_) (OVL.refl _)
       rcases (by omega:i=0\/i=1) with rfl | rfl<;>revert j
       · exact three (by kernel_rfl) (by kernel_rfl) (by kernel_rfl)
       · exact three (by kernel_rfl) (by kernel_rfl) (by kernel_rfl)
   | true=>
     have c3:decide (0<ofNat k.p)=true:=decide_eq_true (by have:=of_decide_eq_true c2;simp at this⊢;omega)
     have e:rl k=[⟨3,k.d,k.st⟩,⟨2,k.pb,k.pv⟩,⟨1,k.p,[]⟩]:=by unfold rl;rw [c1,c2,c3];rfl
     unfold rlR;rw [e]
     refine (con_f (rs5_fq s j k 0 c1 c2 c3) ⟨by decide,trivial⟩ (by repeat' first | exact trivial | assumption | decide | exact rfl | apply And.intro)).post (VW.sv fun i j hi hj=>?_) (OVL.refl _)
     rcases (by omega:i=0\/i=1\/i=2) with rfl | rfl | rfl<;>revert j
     · exact three (by kernel_rfl) (by kernel_rfl) (by kernel_rfl)
     · exact three (by kernel_rfl) (by kernel_rfl) (by kernel_rfl)
     · exact three (by kernel_rfl) (by kernel_rfl) (by kernel_rfl)
def rcO (r:Rc):AObj:=cellsO 61 [.i .i64 (ofNat r.k),.i .i64 (ofNat r.x),.s r.t]
end Go.Proofs.Cl
namespace Go.Proofs.Cl
open Go Go.Sim Go.Proofs Go.Proofs.Cd Go.Proofs.St Go.Proofs.YthhjjpofenjknaaDoor
open Go.Proofs.Jn hiding rg
theorem waR_lq (s:SS) (j:JS) (k:AK) (n:Nat) (R:Nat->Rc) (m:Nat->Nat) (b:Nat->Nat->Nat) (r:Rc) (i:Nat) (h:decide (ofNat i<ofNat n)=true):LD PG (loopAt PG 36 0) 38 3 [(0,.p 1 0),(3,.p 2 0),(5,.lr 3 1 0 i false),(12,.sv 3 n (rcF R)),(13,.i .i64 (ofNat n)),(14,.i .i64 (ofNat i))] [some s.o,some (aO j k),some (rcO r),some (.rows 87 1 i (recF m b))] (.t (.cal [] (.sv 1 (m i) (byF (b i))) [] .z)) .nrm [0,1,2,6] [(0,.p 1 0),(3,.p 2 0),(5,.lr 3 1 0 (addN i 1) false),(12,.sv 3 n (rcF R)),(13,.i .i64 (ofNat n)),(14,.i .i64 (ofNat i+1))] [some s.o,some (aO j k),some (rcO r),some (.rows 87 1 (addN i 1) (appZ i (recF m b) (listF 1 [CV.sv 1 (m i) (byF (b i))] 1)))] 7 (fun Lf=>decide (ofNat i<ofNat n)=true/\(0<=ofNat i/\ofNat i<↑n)/\True/\Con PG 35 [.agg [.i .i64 (ofNat (Rc.k (R i))),.i .i64 (ofNat (Rc.x (R i))),.s (Rc.t (R i))]] [] (.sv 1 (m i) (byF (b i))) []/\(0+i<=i/\True/\i+1<=140737488355328/\(3*(i+1)+1536)*24<=562949953421312)/\rg (ofNat i+1)/\Lf):=by unfold LD LQ;kernel_rfl
theorem waE_lq (s:SS) (j:JS) (k:AK) (n:Nat) (R:Nat->Rc) (m:Nat->Nat) (b:Nat->Nat->Nat) (r:Rc) (i:Nat) (h:decide (ofNat i<ofNat n)=false):LD PG (loopAt PG 36 0) 38 3 [(0,.p 1 0),(3,.p 2 0),(5,.lr 3 1 0 i false),(12,.sv 3 n (rcF R)),(13,.i .i64 (ofNat n)),(14,.i .i64 (ofNat i))] [some s.o,some (aO j k),some (rcO r),some (.rows 87 1 i (recF m b))] (.f .z) (.exit 0) [0,1,2,3] [(0,.p 1 0),(3,.p 2 0),(5,.lr 3 1 0 i false)] [some s.o,some (aO j k),some (rcO r),some (.rows 87 1 i (recF m b))] 4 (fun Lf=>decide (ofNat i<ofNat n)=false/\Lf):=by unfold LD LQ;kernel_rfl
theorem waA_vq (s:SS) (j:JS) (k:AK) (s2:SS) (j2:JS) (E1:Int) (n:Nat) (R:Nat->Rc) (m:Nat->Nat) (b:Nat->Nat->Nat) (r:Rc) (h:decide (E1=0)=false):VD PG 36 [.p 1 0,rcV r.k r.x r.t] [some s.o,some (aO j k)] (.cal [0,1] (.sv 3 n (rcF R)) [.keep,.keep] (.lop [0,1,2] [0,3,5,12,13,14] 3 (.exit 0) [(0,.p 1 0),(3,.p 2 0),(5,.lr 3 1 0 n false)] [some (SS.o s),some (aO j k),some (rcO r),some (AObj.rows 87 1 n (recF m b))] (.cal [0,1,3] (.i .i64 E1) [.set (SS.o s2),.set (aO j2 k),.gone] (.t .z)))) (.i .i64 E1) [.set s2.o,.set (aO j2 k)] [] 4 (fun Lf=>True/\Con PG 56 [.p 1 6] [some (SS.o s),some (aO j k)] (.sv 3 n (rcF R)) [.keep,.keep]/\LDoes PG (loopAt PG 36 0) 38 3 (mkT [(0,.p 1 0),(3,.p 2 0),(5,.l0),(12,.sv 3 n (rcF R)),(13,.i .i64 (ofNat n)),(14,.i .i64 0)]) [some (SS.o s),some (aO j k),some (rcO r)] (.exit 0) (mkT [(0,.p 1 0),(3,.p 2 0),(5,.lr 3 1 0 n false)]) [some (SS.o s),some (aO j k),some (rcO r),some (AObj.rows 87 1 n (recF m b))]/\True/\Con PG 57 [.p 1 0,.lr 2 1 0 n false] [some (SS.o s),some (aO j k),some (AObj.rows 87 1 n (recF m b))] (.i .i64 E1) [.set (SS.o s2),.set (aO j2 k),.gone]/\(!decide (E1=0))=true/\Lf):=by unfold VD VQ;kernel_rfl
theorem waB_vq (s:SS) (j:JS) (k:AK) (s2:SS) (j2:JS) (s3:SS) (j3:JS) (E1 E2:Int) (n:Nat) (R:Nat->Rc) (m:Nat->Nat) (b:Nat->Nat->Nat) (r:Rc) (L:Nat) (B:Nat->Nat) (h:decide (E1=0)=true):VD PG 36 [.p 1 0,rcV r.k r.x r.t] [some s.o,some (aO j k)] (.cal [0,1] (.sv 3 n (rcF R)) [.keep,.keep] (.lop [0,1,2] [0,3,5,12,13,14] 3 (.exit 0) [(0,.p 1 0),(3,.p 2 0),(5,.lr 3 1 0 n false)] [some (SS.o s),some (aO j k),some (rcO r),some (AObj.rows 87 1 n (recF m b))] (.cal [0,1,3] (.i .i64 E1) [.set (SS.o s2),.set (aO j2 k),.gone] (.f (.cal [] (.sv 1 L (byF B)) [] (.cal [0,1] (.i .i64 E2) [.set (SS.o s3),.set (aO j3 k)] .z)))))) (.i .i64 E2) [.set s3.o,.set (aO j3 k)] [] 4 (fun Lf=>True/\Con PG 56 [.p 1 6] [some (SS.o s),some (aO j k)] (.sv 3 n (rcF R)) [.keep,.keep]/\LDoes PG (loopAt PG 36 0) 38 3 (mkT [(0,.p 1 0),(3,.p 2 0),(5,.l0),(12,.sv 3 n (rcF R)),(13,.i .i64 (ofNat n)),(14,.i .i64 0)]) [some (SS.o s),some (aO j k),some (rcO r)] (.exit 0) (mkT [(0,.p 1 0),(3,.p 2 0),(5,.lr 3 1 0 n false)]) [some (SS.o s),some (aO j k),some (rcO r),some (AObj.rows 87 1 n (recF m b))]/\True/\Con PG 57 [.p 1 0,.lr 2 1 0 n false] [some (SS.o s),some (aO j k),some (AObj.rows 87 1 n (recF m b))] (.i .i64 E1) [.set (SS.o s2),.set (aO j2 k),.gone]/\(!decide (E1=0))=false/\True/\Con PG 35 [rcV (Rc.k r) (Rc.x r) (Rc.t r)] [] (.sv 1 L (byF B)) []/\Con PG 34 [.p 1 0,.sv 1 L (byF B)] [some (SS.o s2),some (aO j2 k)] (.i .i64 E2) [.set (SS.o s3),.set (aO j3 k)]/\Lf):=by unfold VD VQ;kernel_rfl
theorem wrC_vq (s:SS) (j:JS) (k:AK) (s2:SS) (j2:JS) (k2:AK) (E1:Int) (n:Nat) (r:Rc) (L:Nat) (B:Nat->Nat) (h:decide (E1=0)=true):VD PG 24 [.p 1 0,rcV r.k r.x r.t] [some s.o,some (aO j k)] (.cal [] (.sv 1 L (byF B)) [] (.cal [0,1] (.i .i64 12) [.keep,.keep] (.c (.cal [0,1] (.i .i64 E1) [.set (SS.o s2),.set (aO j2 k)] (.t (.cal [0,1] (.b true) [.keep,.set (aO j2 k2)] .z)))))) (.i .i64 E1) [.set s2.o,.set (aO j2 k2)] [] 3 (fun Lf=>True/\Con PG 35 [rcV (Rc.k r) (Rc.x r) (Rc.t r)] [] (.sv 1 L (byF B)) []/\Con PG 34 [.p 1 0,.sv 1 L (byF B)] [some (SS.o s),some (aO j k)] (.i .i64 12) [.keep,.keep]/\Con PG 36 [.p 1 0,rcV (Rc.k r) (Rc.x r) (Rc.t r)] [some (SS.o s),some (aO j k)] (.i .i64 E1) [.set (SS.o s2),.set (aO j2 k)]/\decide (E1=0)=true/\True/\Con PG 22 [.p 1 6,rcV (Rc.k r) (Rc.x r) (Rc.t r)] [some (SS.o s2),some (aO j2 k)] (.b true) [.keep,.set (aO j2 k2)]/\Lf):=by unfold VD VQ;kernel_rfl
theorem wrD_vq (s:SS) (j:JS) (k:AK) (s2:SS) (j2:JS) (E1:Int) (n:Nat) (r:Rc) (L:Nat) (B:Nat->Nat) (h:decide (E1=0)=false):VD PG 24 [.p 1 0,rcV r.k r.x r.t] [some s.o,some (aO j k)] (.cal [] (.sv 1 L (byF B)) [] (.cal [0,1] (.i .i64 12) [.keep,.keep] (.c (.cal [0,1] (.i .i64 E1) [.set (SS.o s2),.set (aO j2 k)] (.f .z))))) (.i .i64 E1) [.set s2.o,.set (aO j2 k)] [] 3 (fun Lf=>True/\Con PG 35 [rcV (Rc.k r) (Rc.x r) (Rc.t r)] [] (.sv 1 L (byF B)) []/\Con PG 34 [.p 1 0,.sv 1 L (byF B)] [some (SS.o s),some (aO j k)] (.i .i64 12) [.keep,.keep]/\Con PG 36 [.p 1 0,rcV (Rc.k r) (Rc.x r) (Rc.t r)] [some (SS.o s),some (aO j k)] (.i .i64 E1) [.set (SS.o s2),.set (aO j2 k)]/\decide (E1=0)=false/\Lf):=by unfold VD VQ;kernel_rfl
theorem wa_lp (s:SS) (j:JS) (k:AK) (r:Rc) (n:Nat) (R:Nat->Rc) (m:Nat->Nat) (b:Nat->Nat->Nat) (hn:n<=60) (hR:∀i,i<n->Con PG 35 [rcV (R i).k (R i).x (R i).t] [] (.sv 1 (m i) (byF (b i))) []) :
 LDoes PG (loopAt PG 36 0) 38 3 (mkT [(0,.p 1 0),(3,.p 2 0),(5,.l0),(12,.sv 3 n (rcF R)),(13,.i .i64 (ofNat n)),(14,.i .i64 0)]) [some s.o,some (aO j k),some (rcO r)] (.exit 0) (mkT [(0,.p 1 0),(3,.p 2 0),(5,.lr 3 1 0 n false)]) [some s.o,some (aO j k),some (rcO r),some (.rows 87 1 n (recF m b))]:=by
 have key:LDoes PG (loopAt PG 36 0) 38 3 (mkT [(0,.p 1 0),(3,.p 2 0),(5,.lr 3 1 0 0 false),(12,.sv 3 n (rcF R)),(13,.i .i64 (ofNat n)),(14,.i .i64 0)]) [some s.o,some (aO j k),some (rcO r),some (.rows 87 1 0 (recF m b))] (.exit 0) (mkT [(0,.p 1 0),(3,.p 2 0),(5,.lr 3 1 0 n false)]) [some s.o,some (aO j k),some (rcO r),some (.rows 87 1 n (recF m b))]:=by
  refine loop_q (fun i:Nat=>([(0,.p 1 0),(3,.p 2 0),(5,.lr 3 1 0 i false),(12,.sv 3 n (rcF R)),(13,.i .i64 (ofNat n)),(14,.i .i64 (ofNat i))],[some s.o,some (aO j k),some (rcO r),some (.rows 87 1 i (recF m b))])) (fun i=>n-i) (fun i=>i<=n) (fun _=>by show 3<=4;omega) ?_ 0 (Nat.zero_le _)
  intro i hi
  rcases Nat.lt_or_ge i n with hlt | q
  · have h1:decide (ofNat i<ofNat n)=true:=decide_eq_true (by simp;omega)
    have bi:(0:Int)<=ofNat i/\ofNat i<(↑n:Int):=⟨by simp,by simp;omega⟩
    have by_:=hR i hlt
    have sz:(0:Nat)+i<=i/\True/\i+1<=140737488355328/\(3*(i+1)+1536)*24<=562949953421312:=⟨by omega,trivial,by omega,by omega⟩
    have rr:(-9223372036854775808:Int)<=ofNat i+1/\ofNat i+1<=(9223372036854775807:Int):=⟨by simp;omega,by simp;omega⟩
    refine rd_nrm (waR_lq s j k n R m b r i h1) (by repeat' first | exact trivial | exact h1 | exact bi | exact rr | exact by_ | exact sz | exact rfl | apply And.intro) (i+1) hlt (by show n-(i+1)<n-i;omega) rfl (by rw [addN_eq];exact .refl _) ?_
    rw [addN_eq]
    refine ⟨.refl _,.refl _,.refl _,.rowsW fun t jj ht hj=>?_,trivial⟩
    obtain rfl:jj=0:=by omega
    refine (appZ_CW _ _ _ _ _).trans ?_
    by_cases hc:t<i
    · rw [lt_ hc,cond_true];exact .refl _
    · rw [lf hc,cond_false]
      have:t=i:=by omega
      subst this
      rw [Nat.sub_self]
      exact .refl _
  · obtain rfl:i=n:=Nat.le_antisymm hi q
    exact rd_out (waE_lq s j k i R m b r i (decide_eq_false (by simp))) ⟨decide_eq_false (by simp),rfl⟩ rfl rfl (.refl _) (.refl _)
 exact key.weak ⟨rfl,.inl rfl,rfl,.inl rfl,rfl,.inr ⟨rfl,.inl ⟨3,1,0,false,rfl⟩⟩,rfl,.inl rfl,rfl,.inl rfl,rfl,.inl rfl,trivial⟩ (by refine ⟨.refl _,.refl _,.refl _,?_⟩;intro o ho;simp at ho;subst ho;exact ⟨_,rfl,rfl⟩)
theorem rwaRow {S0:SS} {j0:JS} {k0:AK} {n:Nat} {m:Nat->Nat} {b:Nat->Nat->Nat} {v:AV} {S1:SS} {j1:JS} (hv:ren (nameIn [0,1] 3) v=v) (hv2:embV [0,1] (mkH [some S0.o,some (aO j0 k0),none]) v=v)
 (c0:Con PG 57 [.p 1 0,.sv 1 n (recF m b)] [some S0.o,some (aO j0 k0)] v [.set S1.o,.set (aO j1 k0)]) :
 Con PG 57 [.p 1 0,.lr 2 1 0 n false] [some S0.o,some (aO j0 k0),some (.rows 87 1 n (recF m b))] v [.set S1.o,.set (aO j1 k0),.gone]:=by
 have k1:Con PG 57 [.p 1 0,.sv 1 n (recF m b)] [some S0.o,some (aO j0 k0),none] v [.set S1.o,.set (aO j1 k0),.gone]:=
  c0.more [0,1] (by kernel_rfl) (hasAll_of (by kernel_rfl) (by kernel_rfl)) (by kernel_rfl) (by kernel_rfl) hv2 (by kernel_rfl)
 exact k1.thaw 2 (e:=87) (sz:=1) (n:=n) (f:=recF m b) rfl ⟨.inl rfl,.inl rfl,rfl,trivial⟩ ⟨.inl rfl,.inr ⟨by kernel_rfl,⟨rfl,by omega⟩,rfl⟩,trivial⟩ rfl
end Go.Proofs.Cl
