/- Runs over unknown values, told by the kernel: part GI. -/
import Derived.Test.YthhjjpofenjknaaDoorGH
noncomputable section
open Int (ofNat)
set_option linter.unusedSimpArgs false
set_option linter.unusedVariables false
set_option maxRecDepth 20000
namespace Go.Proofs.Cl
open Go Go.Sim Go.Proofs Go.Proofs.Cd Go.Proofs.St Go.Proofs.YthhjjpofenjknaaDoor
open Go.Proofs.Jn hiding rg
def TP (k:AK) (x:Int) (q:AK):Prop:=ofNat q.p=x/\q.d=k.d/\q.st=k.st/\q.pb=k.pb/\q.pv=k.pv/\ofNat k.p<=x
def TA (k:AK) (x z:Int) (t:List Nat) (q:AK):Prop:=ofNat q.p=x/\q.d=k.d/\q.st=k.st/\ofNat q.pb=x/\q.pv=t/\ofNat k.p<=x/\z=ofNat k.d+1
def TL (k:AK) (z:Int) (t:List Nat) (q:AK):Prop:=q.p=k.p/\ofNat q.d=z/\q.st=t/\q.pb=0/\q.pv=[]/\ofNat k.d<z
inductive Out (t0:List Nat) (M:Nat) (k:AK) (T:AK->Prop) (s2:SS) (j2:JS) (k2:AK):Int->Prop
 | ok (mm n:Nat) (R:Nat->Rc) (hm:mm<=M) (a:AI t0 s2 j2 k2 mm n R) (t:T k2):Out t0 M k T s2 j2 k2 0
 | no (E:Int) (mm n:Nat) (R:Nat->Rc) (h13:E≠13) (h0:E≠0) (hm:mm<=M) (a:AI t0 s2 j2 k2 mm n R) (ek:k2=k):Out t0 M k T s2 j2 k2 E
 | pow (off:s2.off=true) (okS:OkM s2 M) (nx:∀(kk:Int) (tt:Bool),∃j3 k3 mm2 n2 R2,(k3=k\/T k3)/\mm2<=M/\AI t0 (s2.revived kk tt) j3 k3 mm2 n2 R2):Out t0 M k T s2 j2 k2 13
section
variable {t0:List Nat} {s:SS} {j:JS} {k:AK} {mm n:Nat} {R:Nat->Rc}
theorem Put.out (a:AI t0 s j k mm n R) {k1:AK} {s2:SS} {j2:JS} {k2:AK} {E:Int} {T:AK->Prop} (h:Put t0 s j k (mm+90) k1 s2 j2 k2 E) (t:T k1):Out t0 (mm+90) k T s2 j2 k2 E:=by
 cases h with
 | ok ek mm2 n2 R2 hm a2=>exact .ok mm2 n2 R2 hm a2 (by rw [ek];exact t)
 | worn es ej ek=>subst es ej;exact .no 15 mm n R (by decide) (by decide) (by omega) (by rw [ek];exact a) ek
 | pow off okS nx=>
   refine .pow off okS fun kk tt=>?_
   obtain ⟨j3,k3,m2,n2,R2,e,hm,a3⟩:=nx kk tt
   exact ⟨j3,k3,m2,n2,R2,e.imp id (fun e=>by rw [e];exact t),hm,a3⟩
theorem pr_out (a:AI t0 s j k mm n R) (hb:∀y∈t0,y<256) (hm:mm<900000000) (x:Int) :
 ∃E s2 j2 k2,Con PG 7 [.p 1 0,.i .i64 x] [some s.o,some (aO j k)] (.i .i64 E) [.set s2.o,.set (aO j2 k2)]/\Out t0 (mm+90) k (TP k x) s2 j2 k2 E:=by
 have ki:=a.ki hb
 have ct:=count_con x
 by_cases hx:1<=x/\x<=1099511627776
 · rw [decide_eq_true hx] at ct
   obtain ⟨x,rfl⟩:=Int.eq_ofNat_of_zero_le (show 0<=x by omega)
   have hx:1<=ofNat x/\ofNat x<=1099511627776:=hx
   have hxn:1<=x/\x<=1099511627776:=by simp at hx;omega
   by_cases h1:x<k.p
   · have d1:decide (ofNat x<ofNat k.p)=true:=decide_eq_true (by simp;omega)
     exact ⟨20,s,j,k,(con_d (prB_vq s j k x true rfl d1) (by repeat' first | exact trivial | exact ct | exact d1 | exact rfl | (decide;done) | apply And.intro)).post (.refl _) (OVL.refl _),.no 20 mm n R (by decide) (by decide) (by omega) a rfl⟩
   · have d1:decide (ofNat x<ofNat k.p)=false:=decide_eq_false (by simp;omega)
     by_cases h2:x=k.p
     · have d2:decide (ofNat x=ofNat k.p)=true:=decide_eq_true (by rw [h2])
       exact ⟨0,s,j,k,(con_d (prS_vq s j k x true rfl d1 d2) (by repeat' first | exact trivial | exact ct | exact d1 | exact d2 | exact rfl | (decide;done) | apply And.intro)).post (.refl _) (OVL.refl _),
        .ok mm n R (by omega) a ⟨by rw [h2];rfl,rfl,rfl,rfl,rfl,by rw [h2];exact Int.le_refl _⟩⟩
     · have d2:decide (ofNat x=ofNat k.p)=false:=decide_eq_false (by simp;omega)
       have tk:Tk k ⟨1,x,[]⟩:=⟨ok1 hxn.1 hxn.2,fun _=>by show k.p<=x;omega,(fun q=>by cases q),(fun q=>by cases q)⟩
       obtain ⟨E,s2,j2,k2,w,o⟩:=a.put hb ⟨1,x,[]⟩ tk hm
       exact ⟨E,s2,j2,k2,con_d (prW_vq s j k s2 j2 k2 E x true rfl d1 d2) (by repeat' first | exact trivial | exact ct | exact w | exact d1 | exact d2 | exact rfl | (decide;done) | apply And.intro),
        o.out a (by rw [take_1 _ _ rfl];exact ⟨rfl,rfl,rfl,rfl,rfl,by show ofNat k.p<=(x:Int);simp;omega⟩)⟩
 · rw [decide_eq_false hx] at ct
   exact ⟨2,s,j,k,(con_d (prR_vq s j k false x rfl) (by repeat' first | exact trivial | exact ct | exact rfl | (decide;done) | apply And.intro)).post (.refl _) (OVL.refl _),.no 2 mm n R (by decide) (by decide) (by omega) a rfl⟩
theorem le_out (a:AI t0 s j k mm n R) (hb:∀y∈t0,y<256) (hm:mm<900000000) (x:Int) (t:List Nat) (ht:∀y∈t,y<256) :
 ∃E s2 j2 k2,Con PG 9 [.p 1 0,.i .i64 x,.s t] [some s.o,some (aO j k)] (.i .i64 E) [.set s2.o,.set (aO j2 k2)]/\Out t0 (mm+90) k (TL k x t) s2 j2 k2 E:=by
 have ct:=count_con x
 have is:=isState_con t
 by_cases hx:1<=x/\x<=1099511627776
 · rw [decide_eq_true hx] at ct
   obtain ⟨x,rfl⟩:=Int.eq_ofNat_of_zero_le (show 0<=x by omega)
   have hx:1<=ofNat x/\ofNat x<=1099511627776:=hx
   have hxn:1<=x/\x<=1099511627776:=by simp at hx;omega
   by_cases hl:t.length<=1100
   · rw [decide_eq_true (by simp;omega:ofNat t.length<=1100)] at is
     by_cases h1:x<=k.d
     · have d1:decide (ofNat x<=ofNat k.d)=true:=decide_eq_true (by simp;omega)
       exact ⟨25,s,j,k,(con_d (leS_vq s j k x t true true rfl rfl d1) (by repeat' first | exact trivial | exact ct | exact is | exact d1 | exact rfl | (decide;done) | apply And.intro)).post (.refl _) (OVL.refl _),.no 25 mm n R (by decide) (by decide) (by omega) a rfl⟩
     · have d1:decide (ofNat x<=ofNat k.d)=false:=decide_eq_false (by simp;omega)
       have tk:Tk k ⟨3,x,t⟩:=⟨⟨.inr (.inr rfl),hxn,ht,hl⟩,(fun q=>by have q:3<=2:=q;omega),(fun q=>by cases q),fun _=>by show k.d<x;omega⟩
       obtain ⟨E,s2,j2,k2,w,o⟩:=a.put hb ⟨3,x,t⟩ tk hm
       exact ⟨E,s2,j2,k2,con_d (leW_vq s j k s2 j2 k2 E x t true true rfl rfl d1) (by repeat' first | exact trivial | exact ct | exact is | exact w | exact d1 | exact rfl | (decide;done) | apply And.intro),
        o.out a (by rw [take_3 _ _ rfl];exact ⟨rfl,rfl,rfl,rfl,rfl,by show ofNat k.d<(x:Int);simp;omega⟩)⟩
   · rw [decide_eq_false (by simp;omega:¬ofNat t.length<=1100)] at is
     exact ⟨2,s,j,k,(con_d (leR2_vq s j k t true false _ rfl rfl) (by repeat' first | exact trivial | exact ct | exact is | exact rfl | (decide;done) | apply And.intro)).post (.refl _) (OVL.refl _),.no 2 mm n R (by decide) (by decide) (by omega) a rfl⟩
 · rw [decide_eq_false hx] at ct
   exact ⟨2,s,j,k,(con_d (leR1_vq s j k t false x rfl) (by repeat' first | exact trivial | exact ct | exact rfl | (decide;done) | apply And.intro)).post (.refl _) (OVL.refl _),.no 2 mm n R (by decide) (by decide) (by omega) a rfl⟩
theorem ac_out (a:AI t0 s j k mm n R) (hb:∀y∈t0,y<256) (hm:mm<900000000) (x z:Int) (t:List Nat) (ht:∀y∈t,y<256) :
 ∃E s2 j2 k2,Con PG 8 [.p 1 0,.i .i64 x,.i .i64 z,.s t] [some s.o,some (aO j k)] (.i .i64 E) [.set s2.o,.set (aO j2 k2)]/\Out t0 (mm+90) k (TA k x z t) s2 j2 k2 E:=by
 have ki:=a.ki hb
 have ct:=count_con x
 have cz:=count_con z
 have iv:=value_con t
 by_cases hx:1<=x/\x<=1099511627776
 case neg=>
  rw [decide_eq_false hx] at ct
  exact ⟨2,s,j,k,(con_d (acR1_vq s j k t false x z rfl) (by repeat' first | exact trivial | exact ct | exact rfl | (decide;done) | apply And.intro)).post (.refl _) (OVL.refl _),.no 2 mm n R (by decide) (by decide) (by omega) a rfl⟩
 rw [decide_eq_true hx] at ct
 by_cases hz:1<=z/\z<=1099511627776
 case neg=>
  rw [decide_eq_false hz] at cz
  exact ⟨2,s,j,k,(con_d (acR2_vq s j k t true false x z rfl rfl) (by repeat' first | exact trivial | exact ct | exact cz | exact rfl | (decide;done) | apply And.intro)).post (.refl _) (OVL.refl _),.no 2 mm n R (by decide) (by decide) (by omega) a rfl⟩
 rw [decide_eq_true hz] at cz
 by_cases hl:1<=t.length/\t.length<=100
 case neg=>
  rw [decide_eq_false hl] at iv
  exact ⟨2,s,j,k,(con_d (acR3_vq s j k t true true false x z rfl rfl rfl) (by repeat' first | exact trivial | exact ct | exact cz | exact iv | exact rfl | (decide;done) | apply And.intro)).post (.refl _) (OVL.refl _),.no 2 mm n R (by decide) (by decide) (by omega) a rfl⟩
 rw [decide_eq_true hl] at iv
 obtain ⟨x,rfl⟩:=Int.eq_ofNat_of_zero_le (show 0<=x by omega)
 obtain ⟨z,rfl⟩:=Int.eq_ofNat_of_zero_le (show 0<=z by omega)
 have hx:1<=ofNat x/\ofNat x<=1099511627776:=hx
 have hxn:1<=x/\x<=1099511627776:=by simp at hx;omega
 by_cases h1:x<k.p
 · have d1:decide (ofNat x<ofNat k.p)=true:=decide_eq_true (by simp;omega)
   exact ⟨20,s,j,k,(con_d (acB_vq s j k x z t true true true rfl rfl rfl d1) (by repeat' first | exact trivial | exact ct | exact cz | exact iv | exact d1 | exact rfl | (decide;done) | apply And.intro)).post (.refl _) (OVL.refl _),.no 20 mm n R (by decide) (by decide) (by omega) a rfl⟩
 have d1:decide (ofNat x<ofNat k.p)=false:=decide_eq_false (by simp;omega)
 have rd:rg (ofNat k.d+1):=by have:=ki.d;exact ⟨by simp<;>omega,by simp<;>omega⟩
 by_cases h2:z=k.d+1
 case neg=>
  have d2:decide (ofNat z=ofNat k.d+1)=false:=decide_eq_false (by simp;omega)
  exact ⟨25,s,j,k,(con_d (acS_vq s j k x z t true true true rfl rfl rfl d1 d2) (by repeat' first | exact trivial | exact ct | exact cz | exact iv | exact d1 | exact rd | exact nt d2 | exact rfl | (decide;done) | apply And.intro)).post (.refl _) (OVL.refl _),.no 25 mm n R (by decide) (by decide) (by omega) a rfl⟩
 have d2:decide (ofNat z=ofNat k.d+1)=true:=decide_eq_true (by simp;omega)
 by_cases h3:k.pb=x
 · have d3:decide (ofNat k.pb=ofNat x)=true:=decide_eq_true (by rw [h3])
   cases d4:natsEq k.pv t with
   | true=>
     have e4:k.pv=t:=by simpa [natsEq_iff] using d4
     have hpb:=ki.pb
     exact ⟨0,s,j,k,(con_d (acE_vq s j k x z t true true true rfl rfl rfl d1 d2 d3 d4) (by repeat' first | exact trivial | exact ct | exact cz | exact iv | exact d1 | exact rd | exact nf d2 | exact d3 | exact d4 | exact rfl | (decide;done) | apply And.intro)).post (.refl _) (OVL.refl _),
      .ok mm n R (by omega) a ⟨by show ofNat k.p=ofNat x;simp;omega,rfl,rfl,by show ofNat k.pb=ofNat x;rw [h3],e4,by show ofNat k.p<=ofNat x;simp;omega,by show ofNat z= _;simp;omega⟩⟩
   | false=>
     exact ⟨20,s,j,k,(con_d (acN_vq s j k x z t true true true rfl rfl rfl d1 d2 d3 d4) (by repeat' first | exact trivial | exact ct | exact cz | exact iv | exact d1 | exact rd | exact nf d2 | exact d3 | exact d4 | exact rfl | (decide;done) | apply And.intro)).post (.refl _) (OVL.refl _),.no 20 mm n R (by decide) (by decide) (by omega) a rfl⟩
 have d3:decide (ofNat k.pb=ofNat x)=false:=decide_eq_false (by simp;omega)
 have tk:Tk k ⟨2,x,t⟩:=⟨⟨.inr (.inl rfl),hxn,ht,by show t.length<=1100;omega⟩,fun _=>by show k.p<=x;omega,fun _=>hl,(fun q=>by cases q)⟩
 obtain ⟨E,s2,j2,k2,w,o⟩:=a.put hb ⟨2,x,t⟩ tk hm
 exact ⟨E,s2,j2,k2,con_d (acW_vq s j k s2 j2 k2 E x z t true true true rfl rfl rfl d1 d2 d3) (by repeat' first | exact trivial | exact ct | exact cz | exact iv | exact w | exact d1 | exact rd | exact nf d2 | exact d3 | exact rfl | (decide;done) | apply And.intro),
  o.out a (by rw [take_2 _ _ rfl];exact ⟨rfl,rfl,rfl,rfl,rfl,by show ofNat k.p<=ofNat x;simp;omega,by show ofNat z= _;simp;omega⟩)⟩
end
end Go.Proofs.Cl
namespace Go.Proofs.Jn
open Go Go.Sim Go.Proofs Go.Proofs.Cd Go.Proofs.Cl Go.Proofs.St Go.Proofs.YthhjjpofenjknaaDoor
theorem JI.arm {s:SS} {j:JS} {mm n:Nat} {m:Nat->Nat} {b:Nat->Nat->Nat} (h:JI s j mm n m b) {k:Int} (hk:k<=9223372036854775807):JI (s.arm k) j mm n m b:=
 { on:=h.on,P:=h.P,hn:=h.hn,byt:=h.byt.arm k,okm:=h.okm.arm hk,dead:=h.dead,area:=h.area,g1:=h.g1,g2:=h.g2,hd:=h.hd,ha:=h.ha,ho:=h.ho,recs:=h.recs,room:=h.room,fit:=h.fit,len:=h.len,parts:=h.parts,last:=h.last}
theorem rev_con {S:SS} {mm:Nat} (off:S.off=true) (ok:OkM S mm) (hm:mm<=1073741824) (kk:Int) (tt:Bool):Con PG 18 [.p 0 0,.i .i64 kk,.b tt] [some S.o] (.i .i64 0) [.set (S.revived kk tt).o]:=by
 have k:=revive_con S kk tt (by have:=ok.P;omega) (fun q hq=>by have:=ok.at_ q hq;have:=ok.n;omega)
 rw [show S.revE=0 from by unfold SS.revE;rw [off];rfl] at k
 exact k
theorem offT_con {S:SS} {x:Bool} (h:S.off=x):Con PG 17 [.p 0 0] [some S.o] (.b x) [.keep]:=by
 have k:=off2_con S
 rw [h] at k
 exact k
end Go.Proofs.Jn
namespace Go.Proofs.Cl
open Go Go.Sim Go.Proofs Go.Proofs.Cd Go.Proofs.St Go.Proofs.YthhjjpofenjknaaDoor
open Go.Proofs.Jn hiding rg
section
variable (N:Nat) (KK BB ZZ:Nat->Int) (XX:Nat->List Nat) (TT:Nat->Bool)
def hdW (i:Nat) (s:SS) (j:JS) (k:AK):List (Nat×AV)×List (Option AObj):=([(3,.p 0 0),(4,.p 1 0),(22,.sv 5 N (opF KK BB ZZ XX TT)),(23,.i .i64 (ofNat N)),(24,.i .i64 (ofNat i))],[some s.o,some (aO j k)])
def Stp (i:Nat) (s:SS) (j:JS) (k:AK) (s2:SS) (j2:JS) (k2:AK):Prop:=∀(I:Nat->List (Nat×AV)×List (Option AObj)) (μ:Nat->Nat) (inv:Nat->Prop) (x:XO) (l':List (Nat×AV)) (objs':List (Option AObj)) (d d':Nat),I d=hdW N KK BB ZZ XX TT i s j k->I d'=hdW N KK BB ZZ XX TT (i+1) s2 j2 k2->inv d'->μ d'<μ d->RdQ PG (loopAt PG 4 0) 255 1 I μ inv x l' objs' d
variable {N KK BB ZZ XX TT}
theorem stp {i:Nat} {s:SS} {j:JS} {k:AK} {s2:SS} {j2:JS} {k2:AK} {o:Orc} {σ:List Nat} {nx:Nat} {C:Prop->Prop}
 (h:LD PG (loopAt PG 4 0) 255 1 [(3,.p 0 0),(4,.p 1 0),(22,.sv 5 N (opF KK BB ZZ XX TT)),(23,.i .i64 (ofNat N)),(24,.i .i64 (ofNat i))] [some s.o,some (aO j k)] o .nrm σ [(3,.p 0 0),(4,.p 1 0),(22,.sv 5 N (opF KK BB ZZ XX TT)),(23,.i .i64 (ofNat N)),(24,.i .i64 (ofNat i+1))] [some s2.o,some (aO j2 k2)] nx C)
 (hc:C (stP .nrm 1 σ [(3,.p 0 0),(4,.p 1 0),(22,.sv 5 N (opF KK BB ZZ XX TT)),(23,.i .i64 (ofNat N)),(24,.i .i64 (ofNat i+1))] [some s2.o,some (aO j2 k2)] nx=stP .nrm 1 σ [(3,.p 0 0),(4,.p 1 0),(22,.sv 5 N (opF KK BB ZZ XX TT)),(23,.i .i64 (ofNat N)),(24,.i .i64 (ofNat i+1))] [some s2.o,some (aO j2 k2)] nx)):Stp N KK BB ZZ XX TT i s j k s2 j2 k2:=
 fun I μ inv x l' objs' d d' e e' hi hm=>rd_nrm h hc d' hi hm e (by rw [e'];exact .refl _) (by rw [e'];exact .refl _)
variable (N KK BB ZZ XX TT)
def Nxt (i:Nat) (s:SS) (j:JS) (k:AK):Prop:=∃s2 j2 k2 mm2 n2 R2,mm2<=1+90*(i+1)/\AI [115] s2 j2 k2 mm2 n2 R2/\Stp N KK BB ZZ XX TT i s j k s2 j2 k2
variable {N KK BB ZZ XX TT} {i:Nat} {s:SS} {j:JS} {k:AK} {mm n:Nat} {R:Nat->Rc}
theorem AI.on {s:SS} {j:JS} {k:AK} {mm n:Nat} {R:Nat->Rc} {t0:List Nat} (a:AI t0 s j k mm n R):s.off=false:=by
 obtain ⟨m,b,ji,_,_⟩:=a.ji
 exact ji.on
theorem natsEq_s (a:List Nat):natsEq a a=true:=(natsEq_iff a a).2 rfl
theorem b115:∀y∈[115],y<256:=by decide
theorem oki {N i:Nat} (h:decide (ofNat i<ofNat N)=true):(0:Int)<=ofNat i/\ofNat i<(↑N:Int):=⟨by simp,of_decide_eq_true h⟩
theorem rgi {i:Nat} (h:decide (200<ofNat i)=false):rg (ofNat i+1):=by have:=of_decide_eq_false h;exact ⟨by simp<;>omega,by simp at this⊢;omega⟩
theorem rgd {k:AK} (h:k.d<=1099511627776):rg (ofNat k.d+1):=⟨by simp<;>omega,by simp<;>omega⟩
theorem roA (h:decide (ofNat i<ofNat N)=true) (h0:decide (200<ofNat i)=false) (h1:decide (KK i=1)=true) (a:AI [115] s j k mm n R) (hm:mm<=1+90*i) (ht:∀y∈XX i,y<256):Nxt N KK BB ZZ XX TT i s j k:=by
 have hi:=oki h
 have hr:=rgi h0
 have hrd:=rgd (a.ki b115).d
 have i200:i<=200:=by have:=of_decide_eq_false h0;simp at this;omega
 have g1:=gp_con s j k
 have g2:=gd_con s j k
 have g3:=gs_con s j k
 have g4:=ga_con s j k
 obtain ⟨E,s2,j2,k2,cc,ou⟩:=ac_out a b115 (by omega) (BB i) (ZZ i) (XX i) ht
 cases ou with
 | ok mm2 n2 R2 hm2 a2 t=>
   have of:=offT_con a2.on
   have g5:=gp_con s2 j2 k2
   have g6:=gd_con s2 j2 k2
   have g7:=gs_con s2 j2 k2
   have g8:=ga_con s2 j2 k2
   have e:decide ((0:Int)=13)=false:=by decide
   have e0:decide ((0:Int)=0)=true:=by decide
   obtain ⟨t1,t2,t3,t4,t5,t6,t7⟩:=t
   have:decide (ofNat k2.p=BB i)=true:=decide_eq_true t1
   have:decide (ofNat k2.d=ofNat k.d)=true:=decide_eq_true (by rw [t2])
   have:natsEq k2.st k.st=true:=(natsEq_iff _ _).2 t3
   have:(decide (ofNat k2.pb=BB i) && (natsEq k2.pv (XX i) && true))=true:=by rw [t4,t5,natsEq_s];simp
   have:decide (ofNat k.p<=BB i)=true:=decide_eq_true t6
   have:decide (ZZ i=ofNat k.d+1)=true:=decide_eq_true t7
   cases w1:decide (ofNat k2.p=ofNat k.p) with
   | false=>exact ⟨s2,j2,k2,mm2,n2,R2,by omega,a2,stp (lwAz10_lq KK BB ZZ XX TT N i s j k s2 j2 k2 0 (by assumption) (by assumption) (by assumption) (by assumption) (by assumption) (by assumption) (by assumption) (by assumption) (by assumption) (by assumption) (by assumption) (by assumption)) (by repeat' first | exact trivial | assumption | exact nt (by assumption) | exact nf (by assumption) | exact nnt (by assumption) | exact nnf (by assumption) | exact rfl | (decide;done) | apply And.intro)⟩
   | true=>
     cases w2:(decide (ofNat k2.pb=ofNat k.pb) && (natsEq k2.pv k.pv && true)) with
     | false=>exact ⟨s2,j2,k2,mm2,n2,R2,by omega,a2,stp (lwAz40_lq KK BB ZZ XX TT N i s j k s2 j2 k2 0 (by assumption) (by assumption) (by assumption) (by assumption) (by assumption) (by assumption) (by assumption) (by assumption) (by assumption) (by assumption) (by assumption) (by assumption) (by assumption)) (by repeat' first | exact trivial | assumption | exact nt (by assumption) | exact nf (by assumption) | exact nnt (by assumption) | exact nnf (by assumption) | exact rfl | (decide;done) | apply And.intro)⟩
     | true=>exact ⟨s2,j2,k2,mm2,n2,R2,by omega,a2,stp (lwAz00_lq KK BB ZZ XX TT N i s j k s2 j2 k2 0 (by assumption) (by assumption) (by assumption) (by assumption) (by assumption) (by assumption) (by assumption) (by assumption) (by assumption) (by assumption) (by assumption) (by assumption) (by assumption)) (by repeat' first | exact trivial | assumption | exact nt (by assumption) | exact nf (by assumption) | exact nnt (by assumption) | exact nnf (by assumption) | exact rfl | (decide;done) | apply And.intro)⟩
 | no E mm2 n2 R2 h13 h00 hm2 a2 ek=>
   have of:=offT_con a2.on
   have g5:=gp_con s2 j2 k2
   have g6:=gd_con s2 j2 k2
   have g7:=gs_con s2 j2 k2
   have g8:=ga_con s2 j2 k2
   have e:decide (E=13)=false:=decide_eq_false h13
   have e0:decide (E=0)=false:=decide_eq_false h00
   have:decide (ofNat k2.p=ofNat k.p)=true:=by rw [ek];simp [natsEq_s]
   have:decide (ofNat k2.d=ofNat k.d)=true:=by rw [ek];simp [natsEq_s]
   have:natsEq k2.st k.st=true:=by rw [ek];simp [natsEq_s]
   have:(decide (ofNat k2.pb=ofNat k.pb) && (natsEq k2.pv k.pv && true))=true:=by rw [ek];simp [natsEq_s]
   cases w1:decide (ofNat k2.p=BB i) with
   | false=>exact ⟨s2,j2,k2,mm2,n2,R2,by omega,a2,stp (lwAn01_lq KK BB ZZ XX TT N i s j k s2 j2 k2 E (by assumption) (by assumption) (by assumption) (by assumption) (by assumption) (by assumption) (by assumption) (by assumption) (by assumption) (by assumption)) (by repeat' first | exact trivial | assumption | exact nt (by assumption) | exact nf (by assumption) | exact nnt (by assumption) | exact nnf (by assumption) | exact rfl | (decide;done) | apply And.intro)⟩
   | true=>
     have:decide (ofNat k.p<=BB i)=true:=by rw [ek] at w1;have:=of_decide_eq_true w1;exact decide_eq_true (by omega)
     cases w2:(decide (ofNat k2.pb=BB i) && (natsEq k2.pv (XX i) && true)) with
     | false=>exact ⟨s2,j2,k2,mm2,n2,R2,by omega,a2,stp (lwAn04_lq KK BB ZZ XX TT N i s j k s2 j2 k2 E (by assumption) (by assumption) (by assumption) (by assumption) (by assumption) (by assumption) (by assumption) (by assumption) (by assumption) (by assumption) (by assumption)) (by repeat' first | exact trivial | assumption | exact nt (by assumption) | exact nf (by assumption) | exact nnt (by assumption) | exact nnf (by assumption) | exact rfl | (decide;done) | apply And.intro)⟩
     | true=>
       cases w3:decide (ZZ i=ofNat k.d+1) with
       | false=>exact ⟨s2,j2,k2,mm2,n2,R2,by omega,a2,stp (lwAn06_lq KK BB ZZ XX TT N i s j k s2 j2 k2 E (by assumption) (by assumption) (by assumption) (by assumption) (by assumption) (by assumption) (by assumption) (by assumption) (by assumption) (by assumption) (by assumption) (by assumption) (by assumption)) (by repeat' first | exact trivial | assumption | exact nt (by assumption) | exact nf (by assumption) | exact nnt (by assumption) | exact nnf (by assumption) | exact rfl | (decide;done) | apply And.intro)⟩
       | true=>exact ⟨s2,j2,k2,mm2,n2,R2,by omega,a2,stp (lwAn00_lq KK BB ZZ XX TT N i s j k s2 j2 k2 E (by assumption) (by assumption) (by assumption) (by assumption) (by assumption) (by assumption) (by assumption) (by assumption) (by assumption) (by assumption) (by assumption) (by assumption) (by assumption)) (by repeat' first | exact trivial | assumption | exact nt (by assumption) | exact nf (by assumption) | exact nnt (by assumption) | exact nnf (by assumption) | exact rfl | (decide;done) | apply And.intro)⟩
 | pow off okS nx=>
   obtain ⟨j3,k3,mm2,n2,R2,q,hm2,a3⟩:=nx (ZZ i) (TT i)
   have rv:=rev_con off okS (by omega) (ZZ i) (TT i)
   have op:=a3.open_con
   generalize s2.revived (ZZ i) (TT i)=s3 at a3 rv op
   have g5:=gp_con s3 j3 k3
   have g6:=gd_con s3 j3 k3
   have g7:=gs_con s3 j3 k3
   have g8:=ga_con s3 j3 k3
   rcases q with ek | t
   · have:decide (ofNat k3.p=ofNat k.p)=true:=by rw [ek];simp [natsEq_s]
     have:decide (ofNat k3.d=ofNat k.d)=true:=by rw [ek];simp [natsEq_s]
     have:natsEq k3.st k.st=true:=by rw [ek];simp [natsEq_s]
     have:(decide (ofNat k3.pb=ofNat k.pb) && (natsEq k3.pv k.pv && true))=true:=by rw [ek];simp [natsEq_s]
     cases w1:decide (ofNat k3.p=BB i) with
     | false=>exact ⟨s3,j3,k3,mm2,n2,R2,by omega,a3,stp (lwAp01_lq KK BB ZZ XX TT N i s j k s2 j2 k2 s3 j3 k3 (by assumption) (by assumption) (by assumption) (by assumption) (by assumption) (by assumption) (by assumption) (by assumption)) (by repeat' first | exact trivial | assumption | exact nt (by assumption) | exact nf (by assumption) | exact nnt (by assumption) | exact nnf (by assumption) | exact rfl | (decide;done) | apply And.intro)⟩
     | true=>
       have:decide (ofNat k.p<=BB i)=true:=by rw [ek] at w1;have:=of_decide_eq_true w1;exact decide_eq_true (by omega)
       cases w2:(decide (ofNat k3.pb=BB i) && (natsEq k3.pv (XX i) && true)) with
       | false=>exact ⟨s3,j3,k3,mm2,n2,R2,by omega,a3,stp (lwAp04_lq KK BB ZZ XX TT N i s j k s2 j2 k2 s3 j3 k3 (by assumption) (by assumption) (by assumption) (by assumption) (by assumption) (by assumption) (by assumption) (by assumption) (by assumption)) (by repeat' first | exact trivial | assumption | exact nt (by assumption) | exact nf (by assumption) | exact nnt (by assumption) | exact nnf (by assumption) | exact rfl | (decide;done) | apply And.intro)⟩
       | true=>
         cases w3:decide (ZZ i=ofNat k.d+1) with
         | false=>exact ⟨s3,j3,k3,mm2,n2,R2,by omega,a3,stp (lwAp06_lq KK BB ZZ XX TT N i s j k s2 j2 k2 s3 j3 k3 (by assumption) (by assumption) (by assumption) (by assumption) (by assumption) (by assumption) (by assumption) (by assumption) (by assumption) (by assumption) (by assumption)) (by repeat' first | exact trivial | assumption | exact nt (by assumption) | exact nf (by assumption) | exact nnt (by assumption) | exact nnf (by assumption) | exact rfl | (decide;done) | apply And.intro)⟩
         | true=>exact ⟨s3,j3,k3,mm2,n2,R2,by omega,a3,stp (lwAp00_lq KK BB ZZ XX TT N i s j k s2 j2 k2 s3 j3 k3 (by assumption) (by assumption) (by assumption) (by assumption) (by assumption) (by assumption) (by assumption) (by assumption) (by assumption) (by assumption) (by assumption)) (by repeat' first | exact trivial | assumption | exact nt (by assumption) | exact nf (by assumption) | exact nnt (by assumption) | exact nnf (by assumption) | exact rfl | (decide;done) | apply And.intro)⟩
   · obtain ⟨t1,t2,t3,t4,t5,t6,t7⟩:=t
     have:decide (ofNat k3.p=BB i)=true:=decide_eq_true t1
     have:decide (ofNat k3.d=ofNat k.d)=true:=decide_eq_true (by rw [t2])
     have:natsEq k3.st k.st=true:=(natsEq_iff _ _).2 t3
     have:(decide (ofNat k3.pb=BB i) && (natsEq k3.pv (XX i) && true))=true:=by rw [t4,t5,natsEq_s];simp
     have:decide (ofNat k.p<=BB i)=true:=decide_eq_true t6
     have:decide (ZZ i=ofNat k.d+1)=true:=decide_eq_true t7
     cases w1:decide (ofNat k3.p=ofNat k.p) with
     | false=>exact ⟨s3,j3,k3,mm2,n2,R2,by omega,a3,stp (lwAp10_lq KK BB ZZ XX TT N i s j k s2 j2 k2 s3 j3 k3 (by assumption) (by assumption) (by assumption) (by assumption) (by assumption) (by assumption) (by assumption) (by assumption) (by assumption) (by assumption)) (by repeat' first | exact trivial | assumption | exact nt (by assumption) | exact nf (by assumption) | exact nnt (by assumption) | exact nnf (by assumption) | exact rfl | (decide;done) | apply And.intro)⟩
     | true=>
       cases w2:(decide (ofNat k3.pb=ofNat k.pb) && (natsEq k3.pv k.pv && true)) with
       | false=>exact ⟨s3,j3,k3,mm2,n2,R2,by omega,a3,stp (lwAp40_lq KK BB ZZ XX TT N i s j k s2 j2 k2 s3 j3 k3 (by assumption) (by assumption) (by assumption) (by assumption) (by assumption) (by assumption) (by assumption) (by assumption) (by assumption) (by assumption) (by assumption)) (by repeat' first | exact trivial | assumption | exact nt (by assumption) | exact nf (by assumption) | exact nnt (by assumption) | exact nnf (by assumption) | exact rfl | (decide;done) | apply And.intro)⟩
       | true=>exact ⟨s3,j3,k3,mm2,n2,R2,by omega,a3,stp (lwAp00_lq KK BB ZZ XX TT N i s j k s2 j2 k2 s3 j3 k3 (by assumption) (by assumption) (by assumption) (by assumption) (by assumption) (by assumption) (by assumption) (by assumption) (by assumption) (by assumption) (by assumption)) (by repeat' first | exact trivial | assumption | exact nt (by assumption) | exact nf (by assumption) | exact nnt (by assumption) | exact nnf (by assumption) | exact rfl | (decide;done) | apply And.intro)⟩
theorem roL (h:decide (ofNat i<ofNat N)=true) (h0:decide (200<ofNat i)=false) (h1:decide (KK i=1)=false) (h2:decide (KK i=2)=true) (a:AI [115] s j k mm n R) (hm:mm<=1+90*i) (ht:∀y∈XX i,y<256):Nxt N KK BB ZZ XX TT i s j k:=by
 have hi:=oki h
 have hr:=rgi h0
 have hrd:=rgd (a.ki b115).d
 have i200:i<=200:=by have:=of_decide_eq_false h0;simp at this;omega
 have g1:=gp_con s j k
 have g2:=gd_con s j k
 have g3:=gs_con s j k
 have g4:=ga_con s j k
 obtain ⟨E,s2,j2,k2,cc,ou⟩:=le_out a b115 (by omega) (ZZ i) (XX i) ht
 cases ou with
 | ok mm2 n2 R2 hm2 a2 t=>
   have of:=offT_con a2.on
   have g5:=gp_con s2 j2 k2
   have g6:=gd_con s2 j2 k2
   have g7:=gs_con s2 j2 k2
   have g8:=ga_con s2 j2 k2
   have e:decide ((0:Int)=13)=false:=by decide
   have e0:decide ((0:Int)=0)=true:=by decide
   obtain ⟨t1,t2,t3,t4,t5,t6⟩:=t
   have:decide (ofNat k2.p=ofNat k.p)=true:=decide_eq_true (by rw [t1])
   have:decide (ofNat k2.d=ZZ i)=true:=decide_eq_true t2
   have:natsEq k2.st (XX i)=true:=(natsEq_iff _ _).2 t3
   have:(decide (ofNat k2.pb=0) && (natsEq k2.pv [] && true))=true:=by rw [t4,t5];rfl
   have:decide (ofNat k.d<ZZ i)=true:=decide_eq_true t6
   have:decide (ofNat k2.d=ofNat k.d)=false:=decide_eq_false (by omega)
   exact ⟨s2,j2,k2,mm2,n2,R2,by omega,a2,stp (lwLz20_lq KK BB ZZ XX TT N i s j k s2 j2 k2 0 (by assumption) (by assumption) (by assumption) (by assumption) (by assumption) (by assumption) (by assumption) (by assumption) (by assumption) (by assumption) (by assumption) (by assumption)) (by repeat' first | exact trivial | assumption | exact nt (by assumption) | exact nf (by assumption) | exact nnt (by assumption) | exact nnf (by assumption) | exact rfl | (decide;done) | apply And.intro)⟩
 | no E mm2 n2 R2 h13 h00 hm2 a2 ek=>
   have of:=offT_con a2.on
   have g5:=gp_con s2 j2 k2
   have g6:=gd_con s2 j2 k2
   have g7:=gs_con s2 j2 k2
   have g8:=ga_con s2 j2 k2
   have e:decide (E=13)=false:=decide_eq_false h13
   have e0:decide (E=0)=false:=decide_eq_false h00
   have:decide (ofNat k2.p=ofNat k.p)=true:=by rw [ek];simp [natsEq_s]
   have:decide (ofNat k2.d=ofNat k.d)=true:=by rw [ek];simp [natsEq_s]
   have:natsEq k2.st k.st=true:=by rw [ek];simp [natsEq_s]
   have:(decide (ofNat k2.pb=ofNat k.pb) && (natsEq k2.pv k.pv && true))=true:=by rw [ek];simp [natsEq_s]
   cases w1:decide (ofNat k2.d=ZZ i) with
   | false=>exact ⟨s2,j2,k2,mm2,n2,R2,by omega,a2,stp (lwLn02_lq KK BB ZZ XX TT N i s j k s2 j2 k2 E (by assumption) (by assumption) (by assumption) (by assumption) (by assumption) (by assumption) (by assumption) (by assumption) (by assumption) (by assumption) (by assumption)) (by repeat' first | exact trivial | assumption | exact nt (by assumption) | exact nf (by assumption) | exact nnt (by assumption) | exact nnf (by assumption) | exact rfl | (decide;done) | apply And.intro)⟩
   | true=>
     have:decide (ofNat k.d<ZZ i)=false:=by rw [ek] at w1;have:=of_decide_eq_true w1;exact decide_eq_false (by omega)
     cases w2:natsEq k2.st (XX i) with
     | false=>exact ⟨s2,j2,k2,mm2,n2,R2,by omega,a2,stp (lwLn03_lq KK BB ZZ XX TT N i s j k s2 j2 k2 E (by assumption) (by assumption) (by assumption) (by assumption) (by assumption) (by assumption) (by assumption) (by assumption) (by assumption) (by assumption) (by assumption) (by assumption)) (by repeat' first | exact trivial | assumption | exact nt (by assumption) | exact nf (by assumption) | exact nnt (by assumption) | exact nnf (by assumption) | exact rfl | (decide;done) | apply And.intro)⟩
     | true=>
       cases w3:(decide (ofNat k2.pb=0) && (natsEq k2.pv [] && true)) with
       | false=>exact ⟨s2,j2,k2,mm2,n2,R2,by omega,a2,stp (lwLn04_lq KK BB ZZ XX TT N i s j k s2 j2 k2 E (by assumption) (by assumption) (by assumption) (by assumption) (by assumption) (by assumption) (by assumption) (by assumption) (by assumption) (by assumption) (by assumption) (by assumption) (by assumption)) (by repeat' first | exact trivial | assumption | exact nt (by assumption) | exact nf (by assumption) | exact nnt (by assumption) | exact nnf (by assumption) | exact rfl | (decide;done) | apply And.intro)⟩
       | true=>exact ⟨s2,j2,k2,mm2,n2,R2,by omega,a2,stp (lwLn05_lq KK BB ZZ XX TT N i s j k s2 j2 k2 E (by assumption) (by assumption) (by assumption) (by assumption) (by assumption) (by assumption) (by assumption) (by assumption) (by assumption) (by assumption) (by assumption) (by assumption) (by assumption) (by assumption)) (by repeat' first | exact trivial | assumption | exact nt (by assumption) | exact nf (by assumption) | exact nnt (by assumption) | exact nnf (by assumption) | exact rfl | (decide;done) | apply And.intro)⟩
 | pow off okS nx=>
   obtain ⟨j3,k3,mm2,n2,R2,q,hm2,a3⟩:=nx (ZZ i) (TT i)
   have rv:=rev_con off okS (by omega) (ZZ i) (TT i)
   have op:=a3.open_con
   generalize s2.revived (ZZ i) (TT i)=s3 at a3 rv op
   have g5:=gp_con s3 j3 k3
   have g6:=gd_con s3 j3 k3
   have g7:=gs_con s3 j3 k3
   have g8:=ga_con s3 j3 k3
   rcases q with ek | t
   · have:decide (ofNat k3.p=ofNat k.p)=true:=by rw [ek];simp [natsEq_s]
     have:decide (ofNat k3.d=ofNat k.d)=true:=by rw [ek];simp [natsEq_s]
     have:natsEq k3.st k.st=true:=by rw [ek];simp [natsEq_s]
     have:(decide (ofNat k3.pb=ofNat k.pb) && (natsEq k3.pv k.pv && true))=true:=by rw [ek];simp [natsEq_s]
     cases w1:decide (ofNat k3.d=ZZ i) with
     | false=>exact ⟨s3,j3,k3,mm2,n2,R2,by omega,a3,stp (lwLp02_lq KK BB ZZ XX TT N i s j k s2 j2 k2 s3 j3 k3 (by assumption) (by assumption) (by assumption) (by assumption) (by assumption) (by assumption) (by assumption) (by assumption) (by assumption)) (by repeat' first | exact trivial | assumption | exact nt (by assumption) | exact nf (by assumption) | exact nnt (by assumption) | exact nnf (by assumption) | exact rfl | (decide;done) | apply And.intro)⟩
     | true=>
       have:decide (ofNat k.d<ZZ i)=false:=by rw [ek] at w1;have:=of_decide_eq_true w1;exact decide_eq_false (by omega)
       cases w2:natsEq k3.st (XX i) with
       | false=>exact ⟨s3,j3,k3,mm2,n2,R2,by omega,a3,stp (lwLp03_lq KK BB ZZ XX TT N i s j k s2 j2 k2 s3 j3 k3 (by assumption) (by assumption) (by assumption) (by assumption) (by assumption) (by assumption) (by assumption) (by assumption) (by assumption) (by assumption)) (by repeat' first | exact trivial | assumption | exact nt (by assumption) | exact nf (by assumption) | exact nnt (by assumption) | exact nnf (by assumption) | exact rfl | (decide;done) | apply And.intro)⟩
       | true=>
         cases w3:(decide (ofNat k3.pb=0) && (natsEq k3.pv [] && true)) with
         | false=>exact ⟨s3,j3,k3,mm2,n2,R2,by omega,a3,stp (lwLp04_lq KK BB ZZ XX TT N i s j k s2 j2 k2 s3 j3 k3 (by assumption) (by assumption) (by assumption) (by assumption) (by assumption) (by assumption) (by assumption) (by assumption) (by assumption) (by assumption) (by assumption)) (by repeat' first | exact trivial | assumption | exact nt (by assumption) | exact nf (by assumption) | exact nnt (by assumption) | exact nnf (by assumption) | exact rfl | (decide;done) | apply And.intro)⟩
         | true=>exact ⟨s3,j3,k3,mm2,n2,R2,by omega,a3,stp (lwLp05_lq KK BB ZZ XX TT N i s j k s2 j2 k2 s3 j3 k3 (by assumption) (by assumption) (by assumption) (by assumption) (by assumption) (by assumption) (by assumption) (by assumption) (by assumption) (by assumption) (by assumption) (by assumption)) (by repeat' first | exact trivial | assumption | exact nt (by assumption) | exact nf (by assumption) | exact nnt (by assumption) | exact nnf (by assumption) | exact rfl | (decide;done) | apply And.intro)⟩
   · obtain ⟨t1,t2,t3,t4,t5,t6⟩:=t
     have:decide (ofNat k3.p=ofNat k.p)=true:=decide_eq_true (by rw [t1])
     have:decide (ofNat k3.d=ZZ i)=true:=decide_eq_true t2
     have:natsEq k3.st (XX i)=true:=(natsEq_iff _ _).2 t3
     have:(decide (ofNat k3.pb=0) && (natsEq k3.pv [] && true))=true:=by rw [t4,t5];rfl
     have:decide (ofNat k.d<ZZ i)=true:=decide_eq_true t6
     have:decide (ofNat k3.d=ofNat k.d)=false:=decide_eq_false (by omega)
     exact ⟨s3,j3,k3,mm2,n2,R2,by omega,a3,stp (lwLp20_lq KK BB ZZ XX TT N i s j k s2 j2 k2 s3 j3 k3 (by assumption) (by assumption) (by assumption) (by assumption) (by assumption) (by assumption) (by assumption) (by assumption) (by assumption) (by assumption)) (by repeat' first | exact trivial | assumption | exact nt (by assumption) | exact nf (by assumption) | exact nnt (by assumption) | exact nnf (by assumption) | exact rfl | (decide;done) | apply And.intro)⟩
theorem roP (h:decide (ofNat i<ofNat N)=true) (h0:decide (200<ofNat i)=false) (h1:decide (KK i=1)=false) (h2:decide (KK i=2)=false) (h3:decide (KK i=3)=false) (h4:decide (KK i=4)=false) (a:AI [115] s j k mm n R) (hm:mm<=1+90*i) (ht:∀y∈XX i,y<256):Nxt N KK BB ZZ XX TT i s j k:=by
 have hi:=oki h
 have hr:=rgi h0
 have hrd:=rgd (a.ki b115).d
 have i200:i<=200:=by have:=of_decide_eq_false h0;simp at this;omega
 have g1:=gp_con s j k
 have g2:=gd_con s j k
 have g3:=gs_con s j k
 have g4:=ga_con s j k
 obtain ⟨E,s2,j2,k2,cc,ou⟩:=pr_out a b115 (by omega) (BB i)
 cases ou with
 | ok mm2 n2 R2 hm2 a2 t=>
   have of:=offT_con a2.on
   have g5:=gp_con s2 j2 k2
   have g6:=gd_con s2 j2 k2
   have g7:=gs_con s2 j2 k2
   have g8:=ga_con s2 j2 k2
   have e:decide ((0:Int)=13)=false:=by decide
   have e0:decide ((0:Int)=0)=true:=by decide
   obtain ⟨t1,t2,t3,t4,t5,t6⟩:=t
   have:decide (ofNat k2.p=BB i)=true:=decide_eq_true t1
   have:decide (ofNat k2.d=ofNat k.d)=true:=decide_eq_true (by rw [t2])
   have:natsEq k2.st k.st=true:=(natsEq_iff _ _).2 t3
   have:(decide (ofNat k2.pb=ofNat k.pb) && (natsEq k2.pv k.pv && true))=true:=by rw [t4,t5,natsEq_s];simp
   have:decide (ofNat k.p<=BB i)=true:=decide_eq_true t6
   cases w1:decide (ofNat k2.p=ofNat k.p) with
   | false=>exact ⟨s2,j2,k2,mm2,n2,R2,by omega,a2,stp (lwPz10_lq KK BB ZZ XX TT N i s j k s2 j2 k2 0 (by assumption) (by assumption) (by assumption) (by assumption) (by assumption) (by assumption) (by assumption) (by assumption) (by assumption) (by assumption) (by assumption) (by assumption) (by assumption) (by assumption)) (by repeat' first | exact trivial | assumption | exact nt (by assumption) | exact nf (by assumption) | exact nnt (by assumption) | exact nnf (by assumption) | exact rfl | (decide;done) | apply And.intro)⟩
   | true=>exact ⟨s2,j2,k2,mm2,n2,R2,by omega,a2,stp (lwPz00_lq KK BB ZZ XX TT N i s j k s2 j2 k2 0 (by assumption) (by assumption) (by assumption) (by assumption) (by assumption) (by assumption) (by assumption) (by assumption) (by assumption) (by assumption) (by assumption) (by assumption) (by assumption) (by assumption)) (by repeat' first | exact trivial | assumption | exact nt (by assumption) | exact nf (by assumption) | exact nnt (by assumption) | exact nnf (by assumption) | exact rfl | (decide;done) | apply And.intro)⟩
 | no E mm2 n2 R2 h13 h00 hm2 a2 ek=>
   have of:=offT_con a2.on
   have g5:=gp_con s2 j2 k2
   have g6:=gd_con s2 j2 k2
   have g7:=gs_con s2 j2 k2
   have g8:=ga_con s2 j2 k2
   have e:decide (E=13)=false:=decide_eq_false h13
   have e0:decide (E=0)=false:=decide_eq_false h00
   have:decide (ofNat k2.p=ofNat k.p)=true:=by rw [ek];simp [natsEq_s]
   have:decide (ofNat k2.d=ofNat k.d)=true:=by rw [ek];simp [natsEq_s]
   have:natsEq k2.st k.st=true:=by rw [ek];simp [natsEq_s]
   have:(decide (ofNat k2.pb=ofNat k.pb) && (natsEq k2.pv k.pv && true))=true:=by rw [ek];simp [natsEq_s]
   cases w1:decide (ofNat k2.p=BB i) with
   | false=>exact ⟨s2,j2,k2,mm2,n2,R2,by omega,a2,stp (lwPn01_lq KK BB ZZ XX TT N i s j k s2 j2 k2 E (by assumption) (by assumption) (by assumption) (by assumption) (by assumption) (by assumption) (by assumption) (by assumption) (by assumption) (by assumption) (by assumption) (by assumption) (by assumption)) (by repeat' first | exact trivial | assumption | exact nt (by assumption) | exact nf (by assumption) | exact nnt (by assumption) | exact nnf (by assumption) | exact rfl | (decide;done) | apply And.intro)⟩
   | true=>
     have:decide (ofNat k.p<=BB i)=true:=by rw [ek] at w1;have:=of_decide_eq_true w1;exact decide_eq_true (by omega)
     exact ⟨s2,j2,k2,mm2,n2,R2,by omega,a2,stp (lwPn00_lq KK BB ZZ XX TT N i s j k s2 j2 k2 E (by assumption) (by assumption) (by assumption) (by assumption) (by assumption) (by assumption) (by assumption) (by assumption) (by assumption) (by assumption) (by assumption) (by assumption) (by assumption) (by assumption)) (by repeat' first | exact trivial | assumption | exact nt (by assumption) | exact nf (by assumption) | exact nnt (by assumption) | exact nnf (by assumption) | exact rfl | (decide;done) | apply And.intro)⟩
 | pow off okS nx=>
   obtain ⟨j3,k3,mm2,n2,R2,q,hm2,a3⟩:=nx (ZZ i) (TT i)
   have rv:=rev_con off okS (by omega) (ZZ i) (TT i)
   have op:=a3.open_con
   generalize s2.revived (ZZ i) (TT i)=s3 at a3 rv op
   have g5:=gp_con s3 j3 k3
   have g6:=gd_con s3 j3 k3
   have g7:=gs_con s3 j3 k3
   have g8:=ga_con s3 j3 k3
   rcases q with ek | t
   · have:decide (ofNat k3.p=ofNat k.p)=true:=by rw [ek];simp [natsEq_s]
     have:decide (ofNat k3.d=ofNat k.d)=true:=by rw [ek];simp [natsEq_s]
     have:natsEq k3.st k.st=true:=by rw [ek];simp [natsEq_s]
     have:(decide (ofNat k3.pb=ofNat k.pb) && (natsEq k3.pv k.pv && true))=true:=by rw [ek];simp [natsEq_s]
     cases w1:decide (ofNat k3.p=BB i) with
     | false=>exact ⟨s3,j3,k3,mm2,n2,R2,by omega,a3,stp (lwPp01_lq KK BB ZZ XX TT N i s j k s2 j2 k2 s3 j3 k3 (by assumption) (by assumption) (by assumption) (by assumption) (by assumption) (by assumption) (by assumption) (by assumption) (by assumption) (by assumption) (by assumption)) (by repeat' first | exact trivial | assumption | exact nt (by assumption) | exact nf (by assumption) | exact nnt (by assumption) | exact nnf (by assumption) | exact rfl | (decide;done) | apply And.intro)⟩
     | true=>
       have:decide (ofNat k.p<=BB i)=true:=by rw [ek] at w1;have:=of_decide_eq_true w1;exact decide_eq_true (by omega)
       exact ⟨s3,j3,k3,mm2,n2,R2,by omega,a3,stp (lwPp00_lq KK BB ZZ XX TT N i s j k s2 j2 k2 s3 j3 k3 (by assumption) (by assumption) (by assumption) (by assumption) (by assumption) (by assumption) (by assumption) (by assumption) (by assumption) (by assumption) (by assumption) (by assumption)) (by repeat' first | exact trivial | assumption | exact nt (by assumption) | exact nf (by assumption) | exact nnt (by assumption) | exact nnf (by assumption) | exact rfl | (decide;done) | apply And.intro)⟩
   · obtain ⟨t1,t2,t3,t4,t5,t6⟩:=t
     have:decide (ofNat k3.p=BB i)=true:=decide_eq_true t1
     have:decide (ofNat k3.d=ofNat k.d)=true:=decide_eq_true (by rw [t2])
     have:natsEq k3.st k.st=true:=(natsEq_iff _ _).2 t3
     have:(decide (ofNat k3.pb=ofNat k.pb) && (natsEq k3.pv k.pv && true))=true:=by rw [t4,t5,natsEq_s];simp
     have:decide (ofNat k.p<=BB i)=true:=decide_eq_true t6
     cases w1:decide (ofNat k3.p=ofNat k.p) with
     | false=>exact ⟨s3,j3,k3,mm2,n2,R2,by omega,a3,stp (lwPp10_lq KK BB ZZ XX TT N i s j k s2 j2 k2 s3 j3 k3 (by assumption) (by assumption) (by assumption) (by assumption) (by assumption) (by assumption) (by assumption) (by assumption) (by assumption) (by assumption) (by assumption) (by assumption)) (by repeat' first | exact trivial | assumption | exact nt (by assumption) | exact nf (by assumption) | exact nnt (by assumption) | exact nnf (by assumption) | exact rfl | (decide;done) | apply And.intro)⟩
     | true=>exact ⟨s3,j3,k3,mm2,n2,R2,by omega,a3,stp (lwPp00_lq KK BB ZZ XX TT N i s j k s2 j2 k2 s3 j3 k3 (by assumption) (by assumption) (by assumption) (by assumption) (by assumption) (by assumption) (by assumption) (by assumption) (by assumption) (by assumption) (by assumption) (by assumption)) (by repeat' first | exact trivial | assumption | exact nt (by assumption) | exact nf (by assumption) | exact nnt (by assumption) | exact nnf (by assumption) | exact rfl | (decide;done) | apply And.intro)⟩
theorem roF (h:decide (ofNat i<ofNat N)=true) (h0:decide (200<ofNat i)=false) (h1:decide (KK i=1)=false) (h2:decide (KK i=2)=false) (h3:decide (KK i=3)=false) (h4:decide (KK i=4)=true) (a:AI [115] s j k mm n R) (hm:mm<=1+90*i):Nxt N KK BB ZZ XX TT i s j k:=by
 have hi:=oki h
 have hr:=rgi h0
 have hrd:=rgd (a.ki b115).d
 have i200:i<=200:=by have:=of_decide_eq_false h0;simp at this;omega
 have g1:=gp_con s j k
 have g2:=gd_con s j k
 have g3:=gs_con s j k
 have g4:=ga_con s j k
 obtain ⟨m,b,ji,q1,q2⟩:=a.ji
 have fa:=fail2_con s
 have rv:=rev_con (S:=s.fail) rfl ji.okm.fail (by omega) (ZZ i) (TT i)
 have a3:AI [115] (s.fail.revived (ZZ i) (TT i)) j k mm n R:=a.again q1 q2 (ji.idle (ZZ i) (TT i))
 have op:=a3.open_con
 generalize s.fail.revived (ZZ i) (TT i)=s3 at a3 rv op
 generalize s.fail=s2 at fa rv
 have ek:k=k:=rfl
 have g5:=gp_con s3 j k
 have g6:=gd_con s3 j k
 have g7:=gs_con s3 j k
 have g8:=ga_con s3 j k
 have:decide (ofNat k.p=ofNat k.p)=true:=by simp [natsEq_s]
 have:decide (ofNat k.d=ofNat k.d)=true:=by simp [natsEq_s]
 have:natsEq k.st k.st=true:=by simp [natsEq_s]
 have:(decide (ofNat k.pb=ofNat k.pb) && (natsEq k.pv k.pv && true))=true:=by simp [natsEq_s]
 exact ⟨s3,j,k,mm,n,R,by omega,a3,stp (lwF_lq KK BB ZZ XX TT N i s j k s2 s3 j k (by assumption) (by assumption) (by assumption) (by assumption) (by assumption) (by assumption) (by assumption) (by assumption) (by assumption) (by assumption)) (by repeat' first | exact trivial | assumption | exact nt (by assumption) | exact nf (by assumption) | exact nnt (by assumption) | exact nnf (by assumption) | exact rfl | (decide;done) | apply And.intro)⟩
theorem roR (h:decide (ofNat i<ofNat N)=true) (h0:decide (200<ofNat i)=false) (h1:decide (KK i=1)=false) (h2:decide (KK i=2)=false) (h3:decide (KK i=3)=true) (a:AI [115] s j k mm n R) (hm:mm<=1+90*i) (hz:ZZ i<=9223372036854775807):Nxt N KK BB ZZ XX TT i s j k:=by
 have hi:=oki h
 have hr:=rgi h0
 have hrd:=rgd (a.ki b115).d
 have i200:i<=200:=by have:=of_decide_eq_false h0;simp at this;omega
 have g1:=gp_con s j k
 have g2:=gd_con s j k
 have g3:=gs_con s j k
 have g4:=ga_con s j k
 obtain ⟨m,b,ji,q1,q2⟩:=a.ji
 have ar:=arm2_con s (ZZ i)
 have a3:AI [115] (s.arm (ZZ i)) j k mm n R:=a.again q1 q2 (ji.arm hz)
 generalize s.arm (ZZ i)=s2 at a3 ar
 exact ⟨s2,j,k,mm,n,R,by omega,a3,stp (lwR_lq KK BB ZZ XX TT N i s j k s2 (by assumption) (by assumption) (by assumption) (by assumption) (by assumption)) (by repeat' first | exact trivial | assumption | exact nt (by assumption) | exact nf (by assumption) | exact nnt (by assumption) | exact nnf (by assumption) | exact rfl | (decide;done) | apply And.intro)⟩
end
end Go.Proofs.Cl
namespace Go.Proofs.Cl
open Go Go.Sim Go.Proofs Go.Proofs.Cd Go.Proofs.St Go.Proofs.YthhjjpofenjknaaDoor
open Go.Proofs.Jn hiding rg
theorem lwM_vq (KK BB ZZ:Nat->Int) (XX:Nat->List Nat) (TT:Nat->Bool) (N:Nat) (s:SS) (j:JS) (k:AK) (s2:SS) (j2:JS) (k2:AK):VD PG 4 [.sv 5 N (opF KK BB ZZ XX TT)] [] (.cal [] (.b true) [] (.c (.cal [] (.tup [.p 0 0,.p 1 0]) [.set (SS.o s),.set (aO j k)] (.lop [0,1] [3,4,22,23,24] 1 (.exit 0) [] [some (SS.o s2),some (aO j2 k2)] .z)))) (.b true) [] [] 3 (fun Lf=>Con PG 6 [] [] (.b true) []/\True/\Con PG 14 [.s [115]] [] (.tup [.p 0 0,.p 1 0]) [.set (SS.o s),.set (aO j k)]/\LDoes PG (loopAt PG 4 0) 255 1 (mkT [(3,.p 0 0),(4,.p 1 0),(22,.sv 5 N (opF KK BB ZZ XX TT)),(23,.i .i64 (ofNat N)),(24,.i .i64 0)]) [some (SS.o s),some (aO j k)] (.exit 0) (mkT []) [some (SS.o s2),some (aO j2 k2)]/\Lf):=by unfold VD VQ;kernel_rfl
structure WS where
 s:SS
 j:JS
 k:AK
 mm:Nat
 n:Nat
 R:Nat->Rc
def WI (i:Nat) (w:WS):Prop:=w.mm<=1+90*i/\AI [115] w.s w.j w.k w.mm w.n w.R
def w0:WS:=⟨nS0,nJ0,k0 [115],1,0,fun _=>⟨1,1,[]⟩⟩
theorem w0_ok:WI 0 w0:=⟨Nat.le_refl _,AI.new [115] (by decide)⟩
section
variable (N:Nat) (KK BB ZZ:Nat->Int) (XX:Nat->List Nat) (TT:Nat->Bool)
def NxW (i:Nat) (w w':WS):Prop:=WI (i+1) w'/\Stp N KK BB ZZ XX TT i w.s w.j w.k w'.s w'.j w'.k
theorem nxt_ex (hz:∀i,ZZ i<=9223372036854775807) (ht:∀i,∀y∈XX i,y<256) (i:Nat) (hi:i<N) (h2:i<=200) (w:WS) (v:WI i w):∃w',NxW N KK BB ZZ XX TT i w w':=by
 have h:decide (ofNat i<ofNat N)=true:=decide_eq_true (by simp;omega)
 have h0:decide (200<ofNat i)=false:=decide_eq_false (by simp;omega)
 have key:Nxt N KK BB ZZ XX TT i w.s w.j w.k:=by
  cases h1:decide (KK i=1) with
  | true=>exact roA h h0 h1 v.2 v.1 (ht i)
  | false=>
    cases h2:decide (KK i=2) with
    | true=>exact roL h h0 h1 h2 v.2 v.1 (ht i)
    | false=>
      cases h3:decide (KK i=3) with
      | true=>exact roR h h0 h1 h2 h3 v.2 v.1 (hz i)
      | false=>
        cases h4:decide (KK i=4) with
        | true=>exact roF h h0 h1 h2 h3 h4 v.2 v.1
        | false=>exact roP h h0 h1 h2 h3 h4 v.2 v.1 (ht i)
 obtain ⟨s2,j2,k2,mm2,n2,R2,a,b,c⟩:=key
 exact ⟨⟨s2,j2,k2,mm2,n2,R2⟩,⟨a,b⟩,c⟩
open Classical in
def seqW:Nat->WS
 | 0=>w0
 | i+1=>if h:∃w',NxW N KK BB ZZ XX TT i (seqW i) w' then Classical.choose h else seqW i
variable {N KK BB ZZ XX TT}
theorem seq_nx (i:Nat) (h:∃w',NxW N KK BB ZZ XX TT i (seqW N KK BB ZZ XX TT i) w'):NxW N KK BB ZZ XX TT i (seqW N KK BB ZZ XX TT i) (seqW N KK BB ZZ XX TT (i+1)):=by
 have e:seqW N KK BB ZZ XX TT (i+1)=Classical.choose h:=dif_pos h
 rw [e]
 exact Classical.choose_spec h
theorem seq_ok (hz:∀i,ZZ i<=9223372036854775807) (ht:∀i,∀y∈XX i,y<256):∀i,i<=N->i<=201->WI i (seqW N KK BB ZZ XX TT i)
 | 0,_,_=>w0_ok
 | i+1,a,b=>(seq_nx i (nxt_ex N KK BB ZZ XX TT hz ht i (by omega) (by omega) _ (seq_ok hz ht i (by omega) (by omega)))).1
theorem law_lp (hz:∀i,ZZ i<=9223372036854775807) (ht:∀i,∀y∈XX i,y<256) (m:Nat) (hm:m=min N 201) :
 LDoes PG (loopAt PG 4 0) 255 1 (mkT [(3,.p 0 0),(4,.p 1 0),(22,.sv 5 N (opF KK BB ZZ XX TT)),(23,.i .i64 (ofNat N)),(24,.i .i64 0)]) [some nS0.o,some (aO nJ0 (k0 [115]))] (.exit 0) (mkT []) [some (seqW N KK BB ZZ XX TT m).s.o,some (aO (seqW N KK BB ZZ XX TT m).j (seqW N KK BB ZZ XX TT m).k)]:=by
 refine loop_q (fun i:Nat=>hdW N KK BB ZZ XX TT i (seqW N KK BB ZZ XX TT i).s (seqW N KK BB ZZ XX TT i).j (seqW N KK BB ZZ XX TT i).k) (fun i=>N-i) (fun i=>i<=N/\i<=201) (fun _=>by show 1<=2;omega) ?_ 0 ⟨Nat.zero_le _,Nat.zero_le _⟩
 rintro i ⟨hi,h2⟩
 rcases Nat.lt_or_ge i N with a | a
 · have h:decide (ofNat i<ofNat N)=true:=decide_eq_true (by simp;omega)
   rcases Nat.lt_or_ge i 201 with c | c
   · exact (seq_nx i (nxt_ex N KK BB ZZ XX TT hz ht i a (by omega) _ (seq_ok hz ht i hi h2))).2 _ _ _ _ _ _ i (i+1) rfl rfl ⟨by omega,by omega⟩ (by show N-(i+1)<N-i;omega)
   · obtain rfl:i=m:=by omega
     have h0:decide (200<ofNat i)=true:=decide_eq_true (by simp;omega)
     have q:=oki h
     exact rd_out (lwB_lq KK BB ZZ XX TT N i (seqW N KK BB ZZ XX TT i).s (seqW N KK BB ZZ XX TT i).j (seqW N KK BB ZZ XX TT i).k h h0) (by repeat' first | exact trivial | assumption | exact rfl | apply And.intro) rfl rfl (.refl _) (.refl _)
 · obtain rfl:i=m:=by omega
   have h:decide (ofNat i<ofNat N)=false:=decide_eq_false (by simp;omega)
   exact rd_out (lwE_lq KK BB ZZ XX TT N i (seqW N KK BB ZZ XX TT i).s (seqW N KK BB ZZ XX TT i).j (seqW N KK BB ZZ XX TT i).k h) (by repeat' first | exact trivial | assumption | exact rfl | apply And.intro) rfl rfl (.refl _) (.refl _)
theorem never_con (hz:∀i,ZZ i<=9223372036854775807) (ht:∀i,∀y∈XX i,y<256):Con PG 4 [.sv 5 N (opF KK BB ZZ XX TT)] [] (.b true) []:=by
 have lp:=law_lp (N:=N) (KK:=KK) (BB:=BB) (ZZ:=ZZ) (XX:=XX) (TT:=TT) hz ht _ rfl
 exact con_d (lwM_vq KK BB ZZ XX TT N nS0 nJ0 (k0 [115]) _ _ _) (by
  have aw:=awake_con
  have be:=begin_con
  repeat' first | exact trivial | exact aw | exact be | exact lp | exact rfl | (decide;done) | apply And.intro)
end
end Go.Proofs.Cl
