/- Runs over unknown values, told by the kernel: part GJ. -/
import Derived.Test.YtpipomhokkbgbaaGreatGI
noncomputable section
open Int (ofNat)
set_option linter.unusedSimpArgs false
set_option linter.unusedVariables false
set_option maxRecDepth 20000
namespace Go.Proofs.Sv
open Go Go.Sim Go.Proofs Go.Proofs.Lk Go.Proofs.YtpipomhokkbgbaaGreat
theorem ok_ans {s:LS} (g:Gv s) (i:Nat) (hi:i<3) (e:Int):(sL s i (ansM (s.r.s i) (vwS s i e))).ok:=ok_sL g.ok i (vw_ok g i hi e)
theorem ok_ApS {s:LS} (ok:s.ok) (v:Va s) (c:Cm) (h7:c.k≠7):(ApS s c).ok:=by
 have g:=gd_of ok ((va_iff s).2 v)
 unfold ApS
 cases hs:vaB s && vcB c with
 | false=>exact ok
 | true=>
   rw [Bool.and_eq_true] at hs
   obtain ⟨hk,hd,hr⟩:=vc_gd hs.2
   rw [cond_true]
   cases h8:decide (c.k=8) with
   | true=>exact (gd_pas g c.d hd.1).ok
   | false=>
     have q:=of_decide_eq_false h8
     obtain ⟨r1,r2,r3⟩:=hr (by omega)
     rw [cond_false]
     unfold apS
     cases staB (s.r.s c.sv.toNat) c.bt c.sq with
     | true=>exact ok
     | false=>
       cases agB (s.r.s c.sv.toNat) c with
       | true=>exact ok
       | false=>
         cases decide (pasE s.ts c.d=0) with
         | false=>exact (gd_pas g c.d hd.1).ok
         | true=>exact ok_ans (gv_de (gd_s2 g c _ (by omega) hd.1 (by omega)) c _ (by omega) r3 (.inl h7) ⟨hk.1,by omega⟩) _ (by omega) _
theorem sL_self (s:LS) (i:Nat) (b:Mb):(sL s i b).r.s i=b:=by
 show (bif Nat.beq i i then b else s.r.s i)=b
 rw [Nat.beq_refl];rfl
theorem getD3 (x:Nat→Int):∀(i:Nat) (_:i<3),List.getD [x 0,x 1,x 2] (Int.toNat (ofNat i)) 0=x i
 | 0,_=>rfl
 | 1,_=>rfl
 | 2,_=>rfl
structure Le (i:Nat) (s:LS) (left:Int) (k:Nat):Prop where
 ok:s.ok
 va:Va s
 tm:s.r.x 1≤ofNat k*1048576
 sq:1≤(s.r.s i).x 5∧(s.r.s i).x 5≤ofNat k+1
 bt:(s.r.s i).x 4=1
 gn:(s.r.s i).x 1=1
 al:0≤left→(s.r.s i).x 0=1∧(s.r.s i).x 2=s.r.x 1+left
 go:left<0→(s.r.s i).x 0=2
 lr:-1048576≤left∧left≤60
def rnC (i:Nat) (sq:Int):Cm:=cmK 2 (ofNat i) 1 sq 1 0 0 0 0
def psC (d:Int):Cm:=cmK 8 0 0 0 0 0 0 0 d
theorem rn_vc (i:Nat) (hi:i<3) (sq:Int) (h:1≤sq∧sq≤1099511627776):vcB (rnC i sq)=true:=by
 have e:vcB (rnC i sq)=(wi 2 1 8 && (wi (ofNat i) 0 2 && (wi 1 1 1099511627776 && (wi sq 1 1099511627776 && (wi 1 0 1099511627776 && (wi 0 0 0 && (wi 0 0 0 && (wi 0 0 0 && (wi 0 0 1048576 && (wi 0 0 0 && !false)))))))))):=rfl
 rw [e,show wi (ofNat i) 0 2=true from wi_iff.2 ⟨by simp,by simp;omega⟩,wi_iff.2 h]
 rfl
theorem ps_vc' (d:Int):vcB (psC d)=wi d 1 1048576:=by
 have e:vcB (psC d)=(wi 8 1 8 && (wi 0 0 0 && (wi 0 0 0 && (wi 0 0 0 && (wi 0 0 0 && (wi 0 0 0 && (wi 0 0 0 && (wi 0 0 0 && (wi d 1 1048576 && (wi 0 0 0 && !false)))))))))):=rfl
 rw [e]
 cases wi d 1 1048576<;>rfl
theorem pas_at (s:LS) (d:Int) (i:Nat) (hi:i<3) (h:s.r.x 1+d≤4503599627370496):(pasL s d).r.s i=pasM (s.r.x 1+d) (s.r.s i)∧(pasL s d).r.x 1=s.r.x 1+d:=by
 unfold pasL
 rw [show decide (4503599627370496<s.r.x 1+d)=false from decide_eq_false (by omega),cond_false]
 refine ⟨?_,rfl⟩
 show (bif Nat.blt i 3 then pasM (s.r.x 1+d) (s.r.s i) else s.r.s i)= _
 rw [show Nat.blt i 3=true by rw [Nat.blt_eq];exact hi];rfl
theorem pasE0 (s:LS) (d:Int) (h:s.r.x 1+d≤4503599627370496):pasE s.ts d=0:=by
 have e:pasE s.ts d=bif decide (4503599627370496<s.r.x 1+d) then 18 else 0:=rfl
 rw [e,show decide (4503599627370496<s.r.x 1+d)=false from decide_eq_false (by omega)];rfl
theorem pas_keep (b:Mb) (T:Int) (h:¬(b.x 0=1∧b.x 2<T)):pasM T b=b:=by
 unfold pasM diesB
 by_cases h1:b.x 0=1
 · rw [show decide (b.x 2<T)=false from decide_eq_false fun q=>h ⟨h1,q⟩,Bool.and_false];rfl
 · rw [show decide (b.x 0=1)=false from decide_eq_false h1];rfl
theorem pas_die (b:Mb) (T:Int) (h1:b.x 0=1) (h2:b.x 2<T):pasM T b=deadM b:=pas_c b T (decide_eq_true h1) (decide_eq_true h2)
theorem le_rnw {i:Nat} (hi:i<3) {s:LS} {left:Int} {k:Nat} (L:Le i s left k) (hk:k≤100) (h0:0≤left):Le i (ApS s (rnC i ((s.r.s i).x 5+1))) 60 (k+1)∧(ApV s (rnC i ((s.r.s i).x 5+1))).x 6=0:=by
 have hsq:=L.sq
 have htm:=L.tm
 have ht0:=L.va.tm
 obtain ⟨a0,a2⟩:=L.al h0
 have hk':ofNat k≤100:=by simp;omega
 have hvc:=rn_vc i hi ((s.r.s i).x 5+1) (by omega)
 have ok':=ok_ApS L.ok L.va (rnC i ((s.r.s i).x 5+1)) (by show (2:Int)≠7;decide)
 have va':=va_ApS L.va (rnC i ((s.r.s i).x 5+1)) (fun _ h=>absurd h (by show (2:Int)≠7;decide))
 have hva:=(va_iff s).2 L.va
 generalize hc:rnC i ((s.r.s i).x 5+1)=c at *
 have ck:c.k=2:=by rw [←hc];rfl
 have csv:c.sv=ofNat i:=by rw [←hc];rfl
 have cbt:c.bt=1:=by rw [←hc];rfl
 have csq:c.sq=(s.r.s i).x 5+1:=by rw [←hc];rfl
 have cgn:c.gn=1:=by rw [←hc];rfl
 have cd:c.d=0:=by rw [←hc];rfl
 have e1:ApS s c=apS s c i∧ApV s c=apV s c i:=by
  unfold ApS ApV
  rw [hva,hvc,show decide (c.k=8)=false from decide_eq_false (by omega),csv]
  exact ⟨rfl,rfl⟩
 have sta:staB (s.r.s i) c.bt c.sq=false:=by
  unfold staB;rw [cbt,csq,L.bt];simp
 have ag:agB (s.r.s i) c=false:=by
  unfold agB;rw [csq,show decide ((s.r.s i).x 5+1=(s.r.s i).x 5)=false from decide_eq_false (by omega),Bool.and_false]
 have pe:pasE s.ts c.d=0:=pasE0 s c.d (by omega)
 obtain ⟨p1,p2⟩:=pas_at s c.d i hi (by omega)
 rw [pas_keep _ _ (by omega)] at p1
 have s2i:(s2L s c i).r.s i=bsM (s.r.s i) c.bt c.sq:=by unfold s2L;rw [sL_self,p1]
 have s2t:(s2L s c i).r.x 1=s.r.x 1+c.d:=p2
 have al:alB ((s2L s c i).r.s i) c.gn=true:=by
  rw [s2i];unfold alB
  rw [show decide ((bsM (s.r.s i) c.bt c.sq).x 0=1)=true from decide_eq_true a0,show decide ((bsM (s.r.s i) c.bt c.sq).x 1=c.gn)=true from decide_eq_true (by rw [cgn];exact L.gn)];rfl
 have dS:deS (s2L s c i) c i=sL (s2L s c i) i (xM ((s2L s c i).r.s i) 2 ((s2L s c i).r.x 1+60)):=by
  unfold deS;rw [ck,al];rfl
 have dE:deE (s2L s c i) c i=0:=by unfold deE;rw [ck,al];rfl
 have e2:apS s c i=ap1S s c i:=by unfold apS;rw [sta,ag,pe];rfl
 have e3:apV s c i=vwS (deS (s2L s c i) c i) i (deE (s2L s c i) c i):=by unfold apV;rw [sta,ag,pe];rfl
 have fin:∃w,(ApS s c).r.s i=ansM (xM (bsM (s.r.s i) c.bt c.sq) 2 (s.r.x 1+c.d+60)) w:=by
  obtain ⟨w,h⟩:∃w,(ap1S s c i).r.s i=ansM ((deS (s2L s c i) c i).r.s i) w:=⟨_,by unfold ap1S;exact sL_self _ _ _⟩
  refine ⟨w,?_⟩
  rw [e1.1,e2,h,dS,sL_self,s2i,s2t]
 have ft:(ApS s c).r.x 1=s.r.x 1+c.d:=by
  rw [e1.1,e2];unfold ap1S
  show (deS (s2L s c i) c i).r.x 1= _
  rw [dS];exact s2t
 obtain ⟨w,fin⟩:=fin
 refine ⟨⟨ok',va',?_,?_,?_,?_,fun _=>⟨?_,?_⟩,fun h=>absurd h (by decide),by decide⟩,?_⟩
 · rw [ft,cd];simp at htm⊢;omega
 · rw [fin];show 1≤c.sq∧c.sq≤_;rw [csq];simp at hsq⊢;omega
 · rw [fin];exact cbt
 · rw [fin];exact L.gn
 · rw [fin];exact a0
 · rw [fin,ft];rfl
 · rw [e1.2,e3];exact dE
theorem le_ps {i:Nat} (hi:i<3) {s:LS} {left:Int} {k:Nat} (L:Le i s left k) (hk:k≤100) (d:Int) (hd:1≤d∧d≤1048576):Le i (ApS s (psC d)) (if 0≤left then left-d else left) (k+1)∧(ApV s (psC d)).x 6=0:=by
 have hsq:=L.sq
 have htm:=L.tm
 have ht0:=L.va.tm
 have hlr:=L.lr
 have hk':ofNat k≤100:=by simp;omega
 have hvc:vcB (psC d)=true:=by rw [ps_vc'];exact wi_iff.2 hd
 have hva:=(va_iff s).2 L.va
 have ok':=ok_ApS L.ok L.va (psC d) (by show (8:Int)≠7;decide)
 have va':=va_ApS L.va (psC d) (fun _ h=>absurd h (by show (8:Int)≠7;decide))
 have e1:ApS s (psC d)=pasL s d∧ApV s (psC d)=cdM (pasE s.ts d):=by
  unfold ApS ApV;rw [hva,hvc];exact ⟨rfl,rfl⟩
 have pe:pasE s.ts d=0:=pasE0 s d (by omega)
 obtain ⟨p1,p2⟩:=pas_at s d i hi (by omega)
 rw [e1.1] at ok' va'⊢
 have hx:∀n,n≠0→n≠3→((pasL s d).r.s i).x n=(s.r.s i).x n:=by
  intro n h1 h2
  rw [p1]
  rcases pasM_q (s.r.x 1+d) (s.r.s i) with e | e<;>rw [e]
  show (bif Nat.beq n 0 then (2:Int) else bif Nat.beq n 3 then -1 else (s.r.s i).x n)= _
  rw [show Nat.beq n 0=false by rw [Bool.eq_false_iff,ne_eq,Nat.beq_eq];exact h1,show Nat.beq n 3=false by rw [Bool.eq_false_iff,ne_eq,Nat.beq_eq];exact h2];rfl
 refine ⟨⟨ok',va',?_,?_,?_,?_,?_,?_,?_⟩,?_⟩
 · rw [p2];simp at htm⊢;omega
 · rw [hx 5 (by decide) (by decide)];simp at hsq⊢;omega
 · rw [hx 4 (by decide) (by decide)];exact L.bt
 · rw [hx 1 (by decide) (by decide)];exact L.gn
 · intro h
   by_cases h0:0≤left
   · rw [if_pos h0] at h⊢
     obtain ⟨a0,a2⟩:=L.al h0
     rw [p2,p1,pas_keep _ _ (by omega)]
     exact ⟨a0,by omega⟩
   · rw [if_neg h0] at h;exact absurd h h0
 · intro h
   by_cases h0:0≤left
   · rw [if_pos h0] at h
     obtain ⟨a0,a2⟩:=L.al h0
     rw [p1,pas_die _ _ a0 (by omega)];rfl
   · have q:=L.go (by omega)
     rw [p1,pas_keep _ _ (by omega)];exact q
 · by_cases h0:0≤left
   · rw [if_pos h0];omega
   · rw [if_neg h0];exact hlr
 · rw [e1.2];exact pe
theorem le_no {i:Nat} {s:LS} {left:Int} {k:Nat} (L:Le i s left k) (d:Int) (hd:¬(1≤d∧d≤1048576)):Le i (ApS s (psC d)) left (k+1)∧(ApV s (psC d)).x 6=2:=by
 have hvc:vcB (psC d)=false:=by
  rw [ps_vc'];cases h:wi d 1 1048576 with
  | false=>rfl
  | true=>exact absurd (wi_iff.1 h) hd
 have e1:ApS s (psC d)=s∧ApV s (psC d)=cdM 2:=by
  unfold ApS ApV;rw [hvc,Bool.and_false];exact ⟨rfl,rfl⟩
 have htm:=L.tm
 have hsq:=L.sq
 rw [e1.1,e1.2]
 exact ⟨⟨L.ok,L.va,by simp at htm⊢;omega,by simp at hsq⊢;omega,L.bt,L.gn,L.al,L.go,L.lr⟩,rfl⟩
def vwZ (b:Mb):AObj:=.cells 30 7 [.i .i64 0,.i .i64 0,.i .i64 0,.l0,.l0,.l0,.l0] (setAll .e 0 (vwL b))
theorem leE_lq (t:TS) (sv:Int) (n:Nat) (f:Nat→Int) (left:Int) (w:Mb) (i:Nat) (h0:decide (ofNat i<ofNat n)=false):LD PG (loopAt PG 10 0) 112 2 [(0,.i .i64 sv),(5,.p 0 0),(7,.p 1 0),(8,.i .i64 left),(34,isv n f),(35,.i .i64 (ofNat n)),(36,.i .i64 (ofNat i))] [some (tsZ t),some (.cells 30 7 [.i .i64 0,.i .i64 0,.i .i64 0,.l0,.l0,.l0,.l0] (setAll .e 0 (vwL w)))] (.f .z) (.exit 0) [0,1] [(7,.p 1 0)] [some (tsZ t),some (vwZ w)] 2 (fun Lf=>decide (ofNat i<ofNat n)=false∧Lf):=by unfold LD LQ;kernel_rfl
theorem leB_lq (t:TS) (sv:Int) (n:Nat) (f:Nat→Int) (left:Int) (w:Mb) (i:Nat) (h0:decide (ofNat i<ofNat n)=true) (h1:decide (100<ofNat i)=true):LD PG (loopAt PG 10 0) 112 2 [(0,.i .i64 sv),(5,.p 0 0),(7,.p 1 0),(8,.i .i64 left),(34,isv n f),(35,.i .i64 (ofNat n)),(36,.i .i64 (ofNat i))] [some (tsZ t),some (.cells 30 7 [.i .i64 0,.i .i64 0,.i .i64 0,.l0,.l0,.l0,.l0] (setAll .e 0 (vwL w)))] (.t (.t .z)) (.exit 0) [0,1] [(7,.p 1 0)] [some (tsZ t),some (vwZ w)] 2 (fun Lf=>decide (ofNat i<ofNat n)=true∧(0≤ofNat i∧ofNat i<↑n)∧True∧decide (100<ofNat i)=true∧Lf):=by unfold LD LQ;kernel_rfl
theorem leR_lq (t t1:TS) (v:Mb) (sv:Int) (n:Nat) (f:Nat→Int) (left:Int) (w:Mb) (i:Nat) (h0:decide (ofNat i<ofNat n)=true) (h1:decide (100<ofNat i)=false) (h2:decide (f i=0)=true) (h3:decide (0≤left)=true) (h4:decide (v.x 6=0)=true):LD PG (loopAt PG 10 0) 112 2 [(0,.i .i64 sv),(5,.p 0 0),(7,.p 1 0),(8,.i .i64 left),(34,isv n f),(35,.i .i64 (ofNat n)),(36,.i .i64 (ofNat i))] [some (tsZ t),some (.cells 30 7 [.i .i64 0,.i .i64 0,.i .i64 0,.l0,.l0,.l0,.l0] (setAll .e 0 (vwL w)))] (.t (.f (.t (.t (.t (.t (.s (.inl (.cal [] (.tup [tsV t1,.agg (vwL v)]) [] (.f .z))) .z))))))) .nrm [0,1] [(0,.i .i64 sv),(5,.p 0 0),(7,.p 1 0),(8,.i .i64 (60)),(34,isv n f),(35,.i .i64 (ofNat n)),(36,.i .i64 (ofNat i+1))] [some (tsZ t1),some (vwZ w)] 5 (fun Lf=>decide (ofNat i<ofNat n)=true∧(0≤ofNat i∧ofNat i<↑n)∧True∧decide (100<ofNat i)=false∧decide (f i=0)=true∧decide (f i=0)=true∧decide (f i=0)=true∧decide (0≤left)=true∧True∧(0≤sv∧sv<3)∧True∧Int.toNat sv<3∧rg (List.getD [Mb.x (Rs.s (TS.r t) 0) 5,Mb.x (Rs.s (TS.r t) 1) 5,Mb.x (Rs.s (TS.r t) 2) 5] (Int.toNat sv) (0:Int)+(1:Int))∧Con PG 15 [tsV t,.agg [.i .i64 2,.i .i64 sv,.i .i64 1,.i .i64 (List.getD [Mb.x (Rs.s (TS.r t) 0) 5,Mb.x (Rs.s (TS.r t) 1) 5,Mb.x (Rs.s (TS.r t) 2) 5] (Int.toNat sv) (0:Int)+(1:Int)),.i .i64 1,.i .i64 0,.i .i64 0,.i .i64 0,.l0,.i .i64 0]] [] (.tup [tsV t1,.agg (vwL v)]) []∧True∧(!decide (Mb.x v 6=0))=false∧rg (ofNat i+1)∧Lf):=by unfold LD LQ;kernel_rfl
theorem lePa_lq (t t1:TS) (v:Mb) (sv:Int) (n:Nat) (f:Nat→Int) (left:Int) (w:Mb) (i:Nat) (h0:decide (ofNat i<ofNat n)=true) (h1:decide (100<ofNat i)=false) (h2:decide (f i=0)=false) (h4:decide (v.x 6=0)=true) (h5:decide (1≤f i)=true) (h6:decide (f i≤1048576)=true) (h3:decide (0≤left)=true) (h7:decide (0≤left-f i)=true) (h8:decide (List.getD [(t1.r.s 0).x 0,(t1.r.s 1).x 0,(t1.r.s 2).x 0] (Int.toNat sv) 0=1)=true) (hx:(!(decide (v.x 6=0) == decide (f i≤1048576)))=false) (hy:(!(decide (List.getD [(t1.r.s 0).x 0,(t1.r.s 1).x 0,(t1.r.s 2).x 0] (Int.toNat sv) 0=1) == decide (0≤left-f i)))=false):LD PG (loopAt PG 10 0) 112 2 [(0,.i .i64 sv),(5,.p 0 0),(7,.p 1 0),(8,.i .i64 left),(34,isv n f),(35,.i .i64 (ofNat n)),(36,.i .i64 (ofNat i))] [some (tsZ t),some (.cells 30 7 [.i .i64 0,.i .i64 0,.i .i64 0,.l0,.l0,.l0,.l0] (setAll .e 0 (vwL w)))] (.t (.f (.f (.f (.f (.c (.cal [] (.tup [tsV t1,.agg (vwL v)]) [] (.t (.t (.t (.f (.t (.t (.t (.t (.s (.f .z) .z)))))))))))))))) .nrm [0,1] [(0,.i .i64 sv),(5,.p 0 0),(7,.p 1 0),(8,.i .i64 (left-f i)),(34,isv n f),(35,.i .i64 (ofNat n)),(36,.i .i64 (ofNat i+1))] [some (tsZ t1),some (vwZ w)] 4 (fun Lf=>decide (ofNat i<ofNat n)=true∧(0≤ofNat i∧ofNat i<↑n)∧True∧decide (100<ofNat i)=false∧decide (f i=0)=false∧decide (f i=0)=false∧decide (f i=0)=false∧Con PG 15 [tsV t,.agg [.i .i64 8,.i .i64 0,.i .i64 0,.i .i64 0,.i .i64 0,.i .i64 0,.i .i64 0,.i .i64 0,.l0,.i .i64 (f i)]] [] (.tup [tsV t1,.agg (vwL v)]) []∧True∧decide (1≤f i)=true∧decide (1≤f i)=true∧decide (1≤f i)=true∧True∧(!decide (Mb.x v 6=0) == decide (f i≤1048576))=false∧True∧decide (Mb.x v 6=0)=true∧decide (Mb.x v 6=0)=true∧decide (Mb.x v 6=0)=true∧decide (0≤left)=true∧rg (left-f i)∧True∧(0≤sv∧sv<3)∧True∧Int.toNat sv<3∧True∧(!decide (List.getD [Mb.x (Rs.s (TS.r t1) 0) 0,Mb.x (Rs.s (TS.r t1) 1) 0,Mb.x (Rs.s (TS.r t1) 2) 0] (Int.toNat sv) (0:Int)=(1:Int)) == decide (0≤left-f i))=false∧rg (ofNat i+1)∧Lf):=by unfold LD LQ;kernel_rfl
theorem lePb_lq (t t1:TS) (v:Mb) (sv:Int) (n:Nat) (f:Nat→Int) (left:Int) (w:Mb) (i:Nat) (h0:decide (ofNat i<ofNat n)=true) (h1:decide (100<ofNat i)=false) (h2:decide (f i=0)=false) (h4:decide (v.x 6=0)=true) (h5:decide (1≤f i)=true) (h6:decide (f i≤1048576)=true) (h3:decide (0≤left)=true) (h7:decide (0≤left-f i)=false) (h8:decide (List.getD [(t1.r.s 0).x 0,(t1.r.s 1).x 0,(t1.r.s 2).x 0] (Int.toNat sv) 0=1)=false) (hx:(!(decide (v.x 6=0) == decide (f i≤1048576)))=false) (hy:(!(decide (List.getD [(t1.r.s 0).x 0,(t1.r.s 1).x 0,(t1.r.s 2).x 0] (Int.toNat sv) 0=1) == decide (0≤left-f i)))=false):LD PG (loopAt PG 10 0) 112 2 [(0,.i .i64 sv),(5,.p 0 0),(7,.p 1 0),(8,.i .i64 left),(34,isv n f),(35,.i .i64 (ofNat n)),(36,.i .i64 (ofNat i))] [some (tsZ t),some (.cells 30 7 [.i .i64 0,.i .i64 0,.i .i64 0,.l0,.l0,.l0,.l0] (setAll .e 0 (vwL w)))] (.t (.f (.f (.f (.f (.c (.cal [] (.tup [tsV t1,.agg (vwL v)]) [] (.t (.t (.t (.f (.t (.t (.t (.t (.s (.f .z) .z)))))))))))))))) .nrm [0,1] [(0,.i .i64 sv),(5,.p 0 0),(7,.p 1 0),(8,.i .i64 (left-f i)),(34,isv n f),(35,.i .i64 (ofNat n)),(36,.i .i64 (ofNat i+1))] [some (tsZ t1),some (vwZ w)] 4 (fun Lf=>decide (ofNat i<ofNat n)=true∧(0≤ofNat i∧ofNat i<↑n)∧True∧decide (100<ofNat i)=false∧decide (f i=0)=false∧decide (f i=0)=false∧decide (f i=0)=false∧Con PG 15 [tsV t,.agg [.i .i64 8,.i .i64 0,.i .i64 0,.i .i64 0,.i .i64 0,.i .i64 0,.i .i64 0,.i .i64 0,.l0,.i .i64 (f i)]] [] (.tup [tsV t1,.agg (vwL v)]) []∧True∧decide (1≤f i)=true∧decide (1≤f i)=true∧decide (1≤f i)=true∧True∧(!decide (Mb.x v 6=0) == decide (f i≤1048576))=false∧True∧decide (Mb.x v 6=0)=true∧decide (Mb.x v 6=0)=true∧decide (Mb.x v 6=0)=true∧decide (0≤left)=true∧rg (left-f i)∧True∧(0≤sv∧sv<3)∧True∧Int.toNat sv<3∧True∧(!decide (List.getD [Mb.x (Rs.s (TS.r t1) 0) 0,Mb.x (Rs.s (TS.r t1) 1) 0,Mb.x (Rs.s (TS.r t1) 2) 0] (Int.toNat sv) (0:Int)=(1:Int)) == decide (0≤left-f i))=false∧rg (ofNat i+1)∧Lf):=by unfold LD LQ;kernel_rfl
theorem lePc_lq (t t1:TS) (v:Mb) (sv:Int) (n:Nat) (f:Nat→Int) (left:Int) (w:Mb) (i:Nat) (h0:decide (ofNat i<ofNat n)=true) (h1:decide (100<ofNat i)=false) (h2:decide (f i=0)=false) (h4:decide (v.x 6=0)=true) (h5:decide (1≤f i)=true) (h6:decide (f i≤1048576)=true) (h3:decide (0≤left)=false) (h8:decide (List.getD [(t1.r.s 0).x 0,(t1.r.s 1).x 0,(t1.r.s 2).x 0] (Int.toNat sv) 0=1)=false) (hx:(!(decide (v.x 6=0) == decide (f i≤1048576)))=false) (hy:(!(decide (List.getD [(t1.r.s 0).x 0,(t1.r.s 1).x 0,(t1.r.s 2).x 0] (Int.toNat sv) 0=1) == decide (0≤left)))=false):LD PG (loopAt PG 10 0) 112 2 [(0,.i .i64 sv),(5,.p 0 0),(7,.p 1 0),(8,.i .i64 left),(34,isv n f),(35,.i .i64 (ofNat n)),(36,.i .i64 (ofNat i))] [some (tsZ t),some (.cells 30 7 [.i .i64 0,.i .i64 0,.i .i64 0,.l0,.l0,.l0,.l0] (setAll .e 0 (vwL w)))] (.t (.f (.f (.f (.f (.c (.cal [] (.tup [tsV t1,.agg (vwL v)]) [] (.t (.t (.t (.f (.t (.t (.t (.f (.s (.f .z) .z)))))))))))))))) .nrm [0,1] [(0,.i .i64 sv),(5,.p 0 0),(7,.p 1 0),(8,.i .i64 (left)),(34,isv n f),(35,.i .i64 (ofNat n)),(36,.i .i64 (ofNat i+1))] [some (tsZ t1),some (vwZ w)] 4 (fun Lf=>decide (ofNat i<ofNat n)=true∧(0≤ofNat i∧ofNat i<↑n)∧True∧decide (100<ofNat i)=false∧decide (f i=0)=false∧decide (f i=0)=false∧decide (f i=0)=false∧Con PG 15 [tsV t,.agg [.i .i64 8,.i .i64 0,.i .i64 0,.i .i64 0,.i .i64 0,.i .i64 0,.i .i64 0,.i .i64 0,.l0,.i .i64 (f i)]] [] (.tup [tsV t1,.agg (vwL v)]) []∧True∧decide (1≤f i)=true∧decide (1≤f i)=true∧decide (1≤f i)=true∧True∧(!decide (Mb.x v 6=0) == decide (f i≤1048576))=false∧True∧decide (Mb.x v 6=0)=true∧decide (Mb.x v 6=0)=true∧decide (Mb.x v 6=0)=true∧decide (0≤left)=false∧True∧(0≤sv∧sv<3)∧True∧Int.toNat sv<3∧True∧(!decide (List.getD [Mb.x (Rs.s (TS.r t1) 0) 0,Mb.x (Rs.s (TS.r t1) 1) 0,Mb.x (Rs.s (TS.r t1) 2) 0] (Int.toNat sv) (0:Int)=(1:Int)) == decide (0≤left))=false∧rg (ofNat i+1)∧Lf):=by unfold LD LQ;kernel_rfl
theorem lePd1_lq (t t1:TS) (v:Mb) (sv:Int) (n:Nat) (f:Nat→Int) (left:Int) (w:Mb) (i:Nat) (h0:decide (ofNat i<ofNat n)=true) (h1:decide (100<ofNat i)=false) (h2:decide (f i=0)=false) (h4:decide (v.x 6=0)=false) (h5:decide (1≤f i)=false) (h3:decide (0≤left)=true) (h8:decide (List.getD [(t1.r.s 0).x 0,(t1.r.s 1).x 0,(t1.r.s 2).x 0] (Int.toNat sv) 0=1)=true) (hx:(!(decide (v.x 6=0) == false))=false) (hy:(!(decide (List.getD [(t1.r.s 0).x 0,(t1.r.s 1).x 0,(t1.r.s 2).x 0] (Int.toNat sv) 0=1) == decide (0≤left)))=false):LD PG (loopAt PG 10 0) 112 2 [(0,.i .i64 sv),(5,.p 0 0),(7,.p 1 0),(8,.i .i64 left),(34,isv n f),(35,.i .i64 (ofNat n)),(36,.i .i64 (ofNat i))] [some (tsZ t),some (.cells 30 7 [.i .i64 0,.i .i64 0,.i .i64 0,.l0,.l0,.l0,.l0] (setAll .e 0 (vwL w)))] (.t (.f (.f (.f (.f (.c (.cal [] (.tup [tsV t1,.agg (vwL v)]) [] (.f (.f (.f (.f (.f (.f (.f (.c (.s (.f .z) .z)))))))))))))))) .nrm [0,1] [(0,.i .i64 sv),(5,.p 0 0),(7,.p 1 0),(8,.i .i64 (left)),(34,isv n f),(35,.i .i64 (ofNat n)),(36,.i .i64 (ofNat i+1))] [some (tsZ t1),some (vwZ w)] 4 (fun Lf=>decide (ofNat i<ofNat n)=true∧(0≤ofNat i∧ofNat i<↑n)∧True∧decide (100<ofNat i)=false∧decide (f i=0)=false∧decide (f i=0)=false∧decide (f i=0)=false∧Con PG 15 [tsV t,.agg [.i .i64 8,.i .i64 0,.i .i64 0,.i .i64 0,.i .i64 0,.i .i64 0,.i .i64 0,.i .i64 0,.l0,.i .i64 (f i)]] [] (.tup [tsV t1,.agg (vwL v)]) []∧True∧decide (1≤f i)=false∧decide (1≤f i)=false∧decide (1≤f i)=false∧True∧(!decide (Mb.x v 6=0) == false)=false∧True∧decide (Mb.x v 6=0)=false∧decide (Mb.x v 6=0)=false∧decide (Mb.x v 6=0)=false∧True∧(0≤sv∧sv<3)∧True∧Int.toNat sv<3∧True∧(!decide (List.getD [Mb.x (Rs.s (TS.r t1) 0) 0,Mb.x (Rs.s (TS.r t1) 1) 0,Mb.x (Rs.s (TS.r t1) 2) 0] (Int.toNat sv) (0:Int)=(1:Int)) == decide (0≤left))=false∧rg (ofNat i+1)∧Lf):=by unfold LD LQ;kernel_rfl
theorem lePd0_lq (t t1:TS) (v:Mb) (sv:Int) (n:Nat) (f:Nat→Int) (left:Int) (w:Mb) (i:Nat) (h0:decide (ofNat i<ofNat n)=true) (h1:decide (100<ofNat i)=false) (h2:decide (f i=0)=false) (h4:decide (v.x 6=0)=false) (h5:decide (1≤f i)=false) (h3:decide (0≤left)=false) (h8:decide (List.getD [(t1.r.s 0).x 0,(t1.r.s 1).x 0,(t1.r.s 2).x 0] (Int.toNat sv) 0=1)=false) (hx:(!(decide (v.x 6=0) == false))=false) (hy:(!(decide (List.getD [(t1.r.s 0).x 0,(t1.r.s 1).x 0,(t1.r.s 2).x 0] (Int.toNat sv) 0=1) == decide (0≤left)))=false):LD PG (loopAt PG 10 0) 112 2 [(0,.i .i64 sv),(5,.p 0 0),(7,.p 1 0),(8,.i .i64 left),(34,isv n f),(35,.i .i64 (ofNat n)),(36,.i .i64 (ofNat i))] [some (tsZ t),some (.cells 30 7 [.i .i64 0,.i .i64 0,.i .i64 0,.l0,.l0,.l0,.l0] (setAll .e 0 (vwL w)))] (.t (.f (.f (.f (.f (.c (.cal [] (.tup [tsV t1,.agg (vwL v)]) [] (.f (.f (.f (.f (.f (.f (.f (.c (.s (.f .z) .z)))))))))))))))) .nrm [0,1] [(0,.i .i64 sv),(5,.p 0 0),(7,.p 1 0),(8,.i .i64 (left)),(34,isv n f),(35,.i .i64 (ofNat n)),(36,.i .i64 (ofNat i+1))] [some (tsZ t1),some (vwZ w)] 4 (fun Lf=>decide (ofNat i<ofNat n)=true∧(0≤ofNat i∧ofNat i<↑n)∧True∧decide (100<ofNat i)=false∧decide (f i=0)=false∧decide (f i=0)=false∧decide (f i=0)=false∧Con PG 15 [tsV t,.agg [.i .i64 8,.i .i64 0,.i .i64 0,.i .i64 0,.i .i64 0,.i .i64 0,.i .i64 0,.i .i64 0,.l0,.i .i64 (f i)]] [] (.tup [tsV t1,.agg (vwL v)]) []∧True∧decide (1≤f i)=false∧decide (1≤f i)=false∧decide (1≤f i)=false∧True∧(!decide (Mb.x v 6=0) == false)=false∧True∧decide (Mb.x v 6=0)=false∧decide (Mb.x v 6=0)=false∧decide (Mb.x v 6=0)=false∧True∧(0≤sv∧sv<3)∧True∧Int.toNat sv<3∧True∧(!decide (List.getD [Mb.x (Rs.s (TS.r t1) 0) 0,Mb.x (Rs.s (TS.r t1) 1) 0,Mb.x (Rs.s (TS.r t1) 2) 0] (Int.toNat sv) (0:Int)=(1:Int)) == decide (0≤left))=false∧rg (ofNat i+1)∧Lf):=by unfold LD LQ;kernel_rfl
theorem lePe1_lq (t t1:TS) (v:Mb) (sv:Int) (n:Nat) (f:Nat→Int) (left:Int) (w:Mb) (i:Nat) (h0:decide (ofNat i<ofNat n)=true) (h1:decide (100<ofNat i)=false) (h2:decide (f i=0)=false) (h4:decide (v.x 6=0)=false) (h5:decide (1≤f i)=true) (h6:decide (f i≤1048576)=false) (h3:decide (0≤left)=true) (h8:decide (List.getD [(t1.r.s 0).x 0,(t1.r.s 1).x 0,(t1.r.s 2).x 0] (Int.toNat sv) 0=1)=true) (hx:(!(decide (v.x 6=0) == decide (f i≤1048576)))=false) (hy:(!(decide (List.getD [(t1.r.s 0).x 0,(t1.r.s 1).x 0,(t1.r.s 2).x 0] (Int.toNat sv) 0=1) == decide (0≤left)))=false):LD PG (loopAt PG 10 0) 112 2 [(0,.i .i64 sv),(5,.p 0 0),(7,.p 1 0),(8,.i .i64 left),(34,isv n f),(35,.i .i64 (ofNat n)),(36,.i .i64 (ofNat i))] [some (tsZ t),some (.cells 30 7 [.i .i64 0,.i .i64 0,.i .i64 0,.l0,.l0,.l0,.l0] (setAll .e 0 (vwL w)))] (.t (.f (.f (.f (.f (.c (.cal [] (.tup [tsV t1,.agg (vwL v)]) [] (.t (.t (.t (.f (.f (.f (.f (.c (.s (.f .z) .z)))))))))))))))) .nrm [0,1] [(0,.i .i64 sv),(5,.p 0 0),(7,.p 1 0),(8,.i .i64 (left)),(34,isv n f),(35,.i .i64 (ofNat n)),(36,.i .i64 (ofNat i+1))] [some (tsZ t1),some (vwZ w)] 4 (fun Lf=>decide (ofNat i<ofNat n)=true∧(0≤ofNat i∧ofNat i<↑n)∧True∧decide (100<ofNat i)=false∧decide (f i=0)=false∧decide (f i=0)=false∧decide (f i=0)=false∧Con PG 15 [tsV t,.agg [.i .i64 8,.i .i64 0,.i .i64 0,.i .i64 0,.i .i64 0,.i .i64 0,.i .i64 0,.i .i64 0,.l0,.i .i64 (f i)]] [] (.tup [tsV t1,.agg (vwL v)]) []∧True∧decide (1≤f i)=true∧decide (1≤f i)=true∧decide (1≤f i)=true∧True∧(!decide (Mb.x v 6=0) == decide (f i≤1048576))=false∧True∧decide (Mb.x v 6=0)=false∧decide (Mb.x v 6=0)=false∧decide (Mb.x v 6=0)=false∧True∧(0≤sv∧sv<3)∧True∧Int.toNat sv<3∧True∧(!decide (List.getD [Mb.x (Rs.s (TS.r t1) 0) 0,Mb.x (Rs.s (TS.r t1) 1) 0,Mb.x (Rs.s (TS.r t1) 2) 0] (Int.toNat sv) (0:Int)=(1:Int)) == decide (0≤left))=false∧rg (ofNat i+1)∧Lf):=by unfold LD LQ;kernel_rfl
theorem lePe0_lq (t t1:TS) (v:Mb) (sv:Int) (n:Nat) (f:Nat→Int) (left:Int) (w:Mb) (i:Nat) (h0:decide (ofNat i<ofNat n)=true) (h1:decide (100<ofNat i)=false) (h2:decide (f i=0)=false) (h4:decide (v.x 6=0)=false) (h5:decide (1≤f i)=true) (h6:decide (f i≤1048576)=false) (h3:decide (0≤left)=false) (h8:decide (List.getD [(t1.r.s 0).x 0,(t1.r.s 1).x 0,(t1.r.s 2).x 0] (Int.toNat sv) 0=1)=false) (hx:(!(decide (v.x 6=0) == decide (f i≤1048576)))=false) (hy:(!(decide (List.getD [(t1.r.s 0).x 0,(t1.r.s 1).x 0,(t1.r.s 2).x 0] (Int.toNat sv) 0=1) == decide (0≤left)))=false):LD PG (loopAt PG 10 0) 112 2 [(0,.i .i64 sv),(5,.p 0 0),(7,.p 1 0),(8,.i .i64 left),(34,isv n f),(35,.i .i64 (ofNat n)),(36,.i .i64 (ofNat i))] [some (tsZ t),some (.cells 30 7 [.i .i64 0,.i .i64 0,.i .i64 0,.l0,.l0,.l0,.l0] (setAll .e 0 (vwL w)))] (.t (.f (.f (.f (.f (.c (.cal [] (.tup [tsV t1,.agg (vwL v)]) [] (.t (.t (.t (.f (.f (.f (.f (.c (.s (.f .z) .z)))))))))))))))) .nrm [0,1] [(0,.i .i64 sv),(5,.p 0 0),(7,.p 1 0),(8,.i .i64 (left)),(34,isv n f),(35,.i .i64 (ofNat n)),(36,.i .i64 (ofNat i+1))] [some (tsZ t1),some (vwZ w)] 4 (fun Lf=>decide (ofNat i<ofNat n)=true∧(0≤ofNat i∧ofNat i<↑n)∧True∧decide (100<ofNat i)=false∧decide (f i=0)=false∧decide (f i=0)=false∧decide (f i=0)=false∧Con PG 15 [tsV t,.agg [.i .i64 8,.i .i64 0,.i .i64 0,.i .i64 0,.i .i64 0,.i .i64 0,.i .i64 0,.i .i64 0,.l0,.i .i64 (f i)]] [] (.tup [tsV t1,.agg (vwL v)]) []∧True∧decide (1≤f i)=true∧decide (1≤f i)=true∧decide (1≤f i)=true∧True∧(!decide (Mb.x v 6=0) == decide (f i≤1048576))=false∧True∧decide (Mb.x v 6=0)=false∧decide (Mb.x v 6=0)=false∧decide (Mb.x v 6=0)=false∧True∧(0≤sv∧sv<3)∧True∧Int.toNat sv<3∧True∧(!decide (List.getD [Mb.x (Rs.s (TS.r t1) 0) 0,Mb.x (Rs.s (TS.r t1) 1) 0,Mb.x (Rs.s (TS.r t1) 2) 0] (Int.toNat sv) (0:Int)=(1:Int)) == decide (0≤left))=false∧rg (ofNat i+1)∧Lf):=by unfold LD LQ;kernel_rfl
theorem lePf_lq (t t1:TS) (v:Mb) (sv:Int) (n:Nat) (f:Nat→Int) (left:Int) (w:Mb) (i:Nat) (h0:decide (ofNat i<ofNat n)=true) (h1:decide (100<ofNat i)=false) (h2:decide (f i=0)=true) (h4:decide (v.x 6=0)=false) (h5:decide (1≤f i)=false) (h3:decide (0≤left)=false) (h8:decide (List.getD [(t1.r.s 0).x 0,(t1.r.s 1).x 0,(t1.r.s 2).x 0] (Int.toNat sv) 0=1)=false) (hx:(!(decide (v.x 6=0) == false))=false) (hy:(!(decide (List.getD [(t1.r.s 0).x 0,(t1.r.s 1).x 0,(t1.r.s 2).x 0] (Int.toNat sv) 0=1) == decide (0≤left)))=false):LD PG (loopAt PG 10 0) 112 2 [(0,.i .i64 sv),(5,.p 0 0),(7,.p 1 0),(8,.i .i64 left),(34,isv n f),(35,.i .i64 (ofNat n)),(36,.i .i64 (ofNat i))] [some (tsZ t),some (.cells 30 7 [.i .i64 0,.i .i64 0,.i .i64 0,.l0,.l0,.l0,.l0] (setAll .e 0 (vwL w)))] (.t (.f (.t (.t (.t (.f (.cal [] (.tup [tsV t1,.agg (vwL v)]) [] (.f (.f (.f (.f (.f (.f (.f (.c (.s (.f .z) .z)))))))))))))))) .nrm [0,1] [(0,.i .i64 sv),(5,.p 0 0),(7,.p 1 0),(8,.i .i64 (left)),(34,isv n f),(35,.i .i64 (ofNat n)),(36,.i .i64 (ofNat i+1))] [some (tsZ t1),some (vwZ w)] 4 (fun Lf=>decide (ofNat i<ofNat n)=true∧(0≤ofNat i∧ofNat i<↑n)∧True∧decide (100<ofNat i)=false∧decide (f i=0)=true∧decide (f i=0)=true∧decide (f i=0)=true∧decide (0≤left)=false∧Con PG 15 [tsV t,.agg [.i .i64 8,.i .i64 0,.i .i64 0,.i .i64 0,.i .i64 0,.i .i64 0,.i .i64 0,.i .i64 0,.l0,.i .i64 (f i)]] [] (.tup [tsV t1,.agg (vwL v)]) []∧True∧decide (1≤f i)=false∧decide (1≤f i)=false∧decide (1≤f i)=false∧True∧(!decide (Mb.x v 6=0) == false)=false∧True∧decide (Mb.x v 6=0)=false∧decide (Mb.x v 6=0)=false∧decide (Mb.x v 6=0)=false∧True∧(0≤sv∧sv<3)∧True∧Int.toNat sv<3∧True∧(!decide (List.getD [Mb.x (Rs.s (TS.r t1) 0) 0,Mb.x (Rs.s (TS.r t1) 1) 0,Mb.x (Rs.s (TS.r t1) 2) 0] (Int.toNat sv) (0:Int)=(1:Int)) == decide (0≤left))=false∧rg (ofNat i+1)∧Lf):=by unfold LD LQ;kernel_rfl
abbrev leL (e n:Nat) (f:Nat→Int) (left:Int) (i:Nat):List (Nat×AV):=[(0,.i .i64 (ofNat e)),(5,.p 0 0),(7,.p 1 0),(8,.i .i64 left),(34,isv n f),(35,.i .i64 (ofNat n)),(36,.i .i64 (ofNat i))]
structure LeD where
 s:LS
 left:Int
 i:Nat
theorem none_ov (o:Option AObj):OV o none:=.x fun x' h=>by cases h
theorem le_lp (e:Nat) (he:e<3) (n:Nat) (hn:n≤1152921504606846976) (f:Nat→Int) (s0:LS) (w:Mb) (L0:Le e s0 60 0) :
 LDoes PG (loopAt PG 10 0) 112 2 (mkT (leL e n f 60 0)) [some (tsZ s0.ts),some (vwZ w)] (.exit 0) (mkT [(7,.p 1 0)]) [none,some (vwZ w)]:=by
 refine loop_q (fun d:LeD=>(leL e n f d.left d.i,[some (tsZ d.s.ts),some (vwZ w)])) (fun d=>n-d.i) (fun d=>d.i≤n∧d.i≤101∧Le e d.s d.left d.i) (fun _=>Nat.le_refl _) ?_ ⟨s0,60,0⟩ ⟨Nat.zero_le _,Nat.zero_le _,L0⟩
 rintro ⟨s,left,i⟩ ⟨hi,h101,L⟩
 dsimp only at hi h101 L
 rcases Nat.lt_or_ge i n with hlt | q
 · have h0:decide (ofNat i<ofNat n)=true:=decide_eq_true (by simp;omega)
   have bi:(0:Int)≤ofNat i∧ofNat i<(↑n:Int):=⟨by simp,by simp;omega⟩
   have ri:rg (ofNat i+1):=⟨by simp<;>omega,by simp<;>omega⟩
   have hs:(0:Int)≤ofNat e∧ofNat e<(3:Int):=⟨by simp,by simp;omega⟩
   have hs2:Int.toNat (ofNat e)<3:=he
   by_cases hb:i=101
   · have h1:decide ((100:Int)<ofNat i)=true:=decide_eq_true (by simp;omega)
     exact rd_out (leB_lq s.ts (ofNat e) n f left w i h0 h1) ⟨h0,bi,trivial,h1,rfl⟩ rfl rfl (.refl _) ⟨none_ov _,.refl _,trivial⟩
   · have h1:decide ((100:Int)<ofNat i)=false:=decide_eq_false (by simp;omega)
     have hk:i≤100:=by omega
     have gx:∀(u:LS),List.getD [(u.ts.r.s 0).x 0,(u.ts.r.s 1).x 0,(u.ts.r.s 2).x 0] (Int.toNat (ofNat e)) 0=(u.r.s e).x 0:=fun u=>getD3 (fun j=>(u.r.s j).x 0) e he
     have gq:List.getD [(s.ts.r.s 0).x 5,(s.ts.r.s 1).x 5,(s.ts.r.s 2).x 5] (Int.toNat (ofNat e)) 0=(s.r.s e).x 5:=getD3 (fun j=>(s.r.s j).x 5) e he
     have go:∀(u:LS) (lf:Int),Le e u lf (i+1)→(fun d:LeD=>d.i≤n∧d.i≤101∧Le e d.s d.left d.i) ⟨u,lf,i+1⟩:=fun u lf h=>⟨hlt,by show i+1≤101;omega,h⟩
     have mu:n-(i+1)<n-i:=by omega
     have stx:∀(u:LS) (lf:Int),Le e u lf (i+1)→(!(decide (List.getD [(u.ts.r.s 0).x 0,(u.ts.r.s 1).x 0,(u.ts.r.s 2).x 0] (Int.toNat (ofNat e)) 0=1) == decide (0≤lf)))=false:=fun u lf h=>by
      rw [gx u]
      by_cases h0:0≤lf
      · rw [(h.al h0).1];simp [h0]
      · rw [h.go (by omega)];simp [h0]
     by_cases hd0:f i=0∧0≤left
     · have h2:decide (f i=0)=true:=decide_eq_true hd0.1
       have h3:decide (0≤left)=true:=decide_eq_true hd0.2
       obtain ⟨L',hc⟩:=le_rnw he L hk hd0.2
       have hsq:=L.sq
       have hq:rg (List.getD [(s.ts.r.s 0).x 5,(s.ts.r.s 1).x 5,(s.ts.r.s 2).x 5] (Int.toNat (ofNat e)) 0+1):=by
        rw [gq];simp at hsq;exact ⟨by omega,by omega⟩
       have hap:=(Apply_con s L.ok (rnC e ((s.r.s e).x 5+1)) (by show 0≤_;omega) (fun _ _ h=>absurd h (by show (2:Int)≠7;decide))).pre (pargs':=[lsV s,.agg [.i .i64 2,.i .i64 (ofNat e),.i .i64 1,.i .i64 ((s.r.s e).x 5+1),.i .i64 1,.i .i64 0,.i .i64 0,.i .i64 0,.l0,.i .i64 0]]) ⟨.refl _,.agg ⟨.refl _,.refl _,.refl _,.refl _,.refl _,.refl _,.refl _,.refl _,.nil _ _,.refl _,trivial⟩,trivial⟩
       rw [←gq] at hap
       generalize hu:ApS s (rnC e ((s.r.s e).x 5+1))=u at L'
       generalize hv:ApV s (rnC e ((s.r.s e).x 5+1))=v at hc
       have hap:Con PG 15 [tsV s.ts,.agg [.i .i64 2,.i .i64 (ofNat e),.i .i64 1,.i .i64 (List.getD [(s.ts.r.s 0).x 5,(s.ts.r.s 1).x 5,(s.ts.r.s 2).x 5] (Int.toNat (ofNat e)) 0+1),.i .i64 1,.i .i64 0,.i .i64 0,.i .i64 0,.l0,.i .i64 0]] [] (.tup [tsV u.ts,.agg (vwL v)]) []:=by
        rw [←hu,←hv];rw [gq] at hap⊢;exact hap
       have h4:decide (v.x 6=0)=true:=decide_eq_true hc
       exact rd_nrm (leR_lq s.ts u.ts v (ofNat e) n f left w i h0 h1 h2 h3 h4) ⟨h0,bi,trivial,h1,h2,h2,h2,h3,trivial,hs,trivial,hs2,hq,hap,trivial,nT h4,ri,rfl⟩ ⟨u,60,i+1⟩ (go u 60 L') mu rfl (.refl _) (.refl _)
     · have hap:=(Apply_con s L.ok (psC (f i)) (by show 0≤_;omega) (fun _ _ h=>absurd h (by show (8:Int)≠7;decide))).pre (pargs':=[lsV s,.agg [.i .i64 8,.i .i64 0,.i .i64 0,.i .i64 0,.i .i64 0,.i .i64 0,.i .i64 0,.i .i64 0,.l0,.i .i64 (f i)]]) ⟨.refl _,.agg ⟨.refl _,.refl _,.refl _,.refl _,.refl _,.refl _,.refl _,.refl _,.nil _ _,.refl _,trivial⟩,trivial⟩
       have hlr:=L.lr
       by_cases hd:1≤f i∧f i≤1048576
       · obtain ⟨L',hc⟩:=le_ps he L hk (f i) hd
         have h2:decide (f i=0)=false:=decide_eq_false (by omega)
         have h5:decide (1≤f i)=true:=decide_eq_true hd.1
         have h6:decide (f i≤1048576)=true:=decide_eq_true hd.2
         generalize hu:ApS s (psC (f i))=u at L' hap
         generalize hv:ApV s (psC (f i))=v at hc hap
         have hap:Con PG 15 [tsV s.ts,.agg [.i .i64 8,.i .i64 0,.i .i64 0,.i .i64 0,.i .i64 0,.i .i64 0,.i .i64 0,.i .i64 0,.l0,.i .i64 (f i)]] [] (.tup [tsV u.ts,.agg (vwL v)]) []:=hap
         have h4:decide (v.x 6=0)=true:=decide_eq_true hc
         have hx:(!(decide (v.x 6=0) == decide (f i≤1048576)))=false:=by rw [h4,h6];rfl
         by_cases hl:0≤left
         · rw [if_pos hl] at L'
           have h3:decide (0≤left)=true:=decide_eq_true hl
           have rl:rg (left-f i):=⟨by omega,by omega⟩
           have hy:=stx u _ L'
           by_cases hz:0≤left-f i
           · have h7:decide (0≤left-f i)=true:=decide_eq_true hz
             have h8:decide (List.getD [(u.ts.r.s 0).x 0,(u.ts.r.s 1).x 0,(u.ts.r.s 2).x 0] (Int.toNat (ofNat e)) 0=1)=true:=decide_eq_true (by rw [gx u];exact (L'.al hz).1)
             exact rd_nrm (lePa_lq s.ts u.ts v (ofNat e) n f left w i h0 h1 h2 h4 h5 h6 h3 h7 h8 hx hy) ⟨h0,bi,trivial,h1,h2,h2,h2,hap,trivial,h5,h5,h5,trivial,hx,trivial,h4,h4,h4,h3,rl,trivial,hs,trivial,hs2,trivial,hy,ri,rfl⟩ ⟨u,left-f i,i+1⟩ (go u _ L') mu rfl (.refl _) (.refl _)
           · have h7:decide (0≤left-f i)=false:=decide_eq_false hz
             have h8:decide (List.getD [(u.ts.r.s 0).x 0,(u.ts.r.s 1).x 0,(u.ts.r.s 2).x 0] (Int.toNat (ofNat e)) 0=1)=false:=decide_eq_false (by rw [gx u,L'.go (by omega)];decide)
             exact rd_nrm (lePb_lq s.ts u.ts v (ofNat e) n f left w i h0 h1 h2 h4 h5 h6 h3 h7 h8 hx hy) ⟨h0,bi,trivial,h1,h2,h2,h2,hap,trivial,h5,h5,h5,trivial,hx,trivial,h4,h4,h4,h3,rl,trivial,hs,trivial,hs2,trivial,hy,ri,rfl⟩ ⟨u,left-f i,i+1⟩ (go u _ L') mu rfl (.refl _) (.refl _)
         · rw [if_neg hl] at L'
           have h3:decide (0≤left)=false:=decide_eq_false hl
           have hy:=stx u _ L'
           have h8:decide (List.getD [(u.ts.r.s 0).x 0,(u.ts.r.s 1).x 0,(u.ts.r.s 2).x 0] (Int.toNat (ofNat e)) 0=1)=false:=decide_eq_false (by rw [gx u,L'.go (by omega)];decide)
           exact rd_nrm (lePc_lq s.ts u.ts v (ofNat e) n f left w i h0 h1 h2 h4 h5 h6 h3 h8 hx hy) ⟨h0,bi,trivial,h1,h2,h2,h2,hap,trivial,h5,h5,h5,trivial,hx,trivial,h4,h4,h4,h3,trivial,hs,trivial,hs2,trivial,hy,ri,rfl⟩ ⟨u,left,i+1⟩ (go u _ L') mu rfl (.refl _) (.refl _)
       · obtain ⟨L',hc⟩:=le_no L (f i) hd
         generalize hu:ApS s (psC (f i))=u at L' hap
         generalize hv:ApV s (psC (f i))=v at hc hap
         have hap:Con PG 15 [tsV s.ts,.agg [.i .i64 8,.i .i64 0,.i .i64 0,.i .i64 0,.i .i64 0,.i .i64 0,.i .i64 0,.i .i64 0,.l0,.i .i64 (f i)]] [] (.tup [tsV u.ts,.agg (vwL v)]) []:=hap
         have h4:decide (v.x 6=0)=false:=decide_eq_false (by rw [hc];decide)
         have hy:=stx u _ L'
         have x8:∀b,decide (0≤left)=b→decide (List.getD [(u.ts.r.s 0).x 0,(u.ts.r.s 1).x 0,(u.ts.r.s 2).x 0] (Int.toNat (ofNat e)) 0=1)=b:=fun b hb=>by
          have:=hy;rw [hb] at this;revert this
          generalize decide (List.getD [(u.ts.r.s 0).x 0,(u.ts.r.s 1).x 0,(u.ts.r.s 2).x 0] (Int.toNat (ofNat e)) 0=1)=c
          cases b<;>cases c<;>simp
         by_cases hz:f i=0
         · have hl:¬0≤left:=fun q=>hd0 ⟨hz,q⟩
           have h2:decide (f i=0)=true:=decide_eq_true hz
           have h3:decide (0≤left)=false:=decide_eq_false hl
           have h5:decide (1≤f i)=false:=decide_eq_false (by omega)
           have hx:(!(decide (v.x 6=0) == false))=false:=by rw [h4];rfl
           have h8:=x8 _ h3
           exact rd_nrm (lePf_lq s.ts u.ts v (ofNat e) n f left w i h0 h1 h2 h4 h5 h3 h8 hx hy) ⟨h0,bi,trivial,h1,h2,h2,h2,h3,hap,trivial,h5,h5,h5,trivial,hx,trivial,h4,h4,h4,trivial,hs,trivial,hs2,trivial,hy,ri,rfl⟩ ⟨u,left,i+1⟩ (go u _ L') mu rfl (.refl _) (.refl _)
         · have h2:decide (f i=0)=false:=decide_eq_false hz
           by_cases h1f:1≤f i
           · have h5:decide (1≤f i)=true:=decide_eq_true h1f
             have h6:decide (f i≤1048576)=false:=decide_eq_false (fun q=>hd ⟨h1f,q⟩)
             have hx:(!(decide (v.x 6=0) == decide (f i≤1048576)))=false:=by rw [h4,h6];rfl
             cases h3:decide (0≤left) with
             | true=>
               have h8:=x8 _ h3
               exact rd_nrm (lePe1_lq s.ts u.ts v (ofNat e) n f left w i h0 h1 h2 h4 h5 h6 h3 h8 hx hy) ⟨h0,bi,trivial,h1,h2,h2,h2,hap,trivial,h5,h5,h5,trivial,hx,trivial,h4,h4,h4,trivial,hs,trivial,hs2,trivial,hy,ri,rfl⟩ ⟨u,left,i+1⟩ (go u _ L') mu rfl (.refl _) (.refl _)
             | false=>
               have h8:=x8 _ h3
               exact rd_nrm (lePe0_lq s.ts u.ts v (ofNat e) n f left w i h0 h1 h2 h4 h5 h6 h3 h8 hx hy) ⟨h0,bi,trivial,h1,h2,h2,h2,hap,trivial,h5,h5,h5,trivial,hx,trivial,h4,h4,h4,trivial,hs,trivial,hs2,trivial,hy,ri,rfl⟩ ⟨u,left,i+1⟩ (go u _ L') mu rfl (.refl _) (.refl _)
           · have h5:decide (1≤f i)=false:=decide_eq_false h1f
             have hx:(!(decide (v.x 6=0) == false))=false:=by rw [h4];rfl
             cases h3:decide (0≤left) with
             | true=>
               have h8:=x8 _ h3
               exact rd_nrm (lePd1_lq s.ts u.ts v (ofNat e) n f left w i h0 h1 h2 h4 h5 h3 h8 hx hy) ⟨h0,bi,trivial,h1,h2,h2,h2,hap,trivial,h5,h5,h5,trivial,hx,trivial,h4,h4,h4,trivial,hs,trivial,hs2,trivial,hy,ri,rfl⟩ ⟨u,left,i+1⟩ (go u _ L') mu rfl (.refl _) (.refl _)
             | false=>
               have h8:=x8 _ h3
               exact rd_nrm (lePd0_lq s.ts u.ts v (ofNat e) n f left w i h0 h1 h2 h4 h5 h3 h8 hx hy) ⟨h0,bi,trivial,h1,h2,h2,h2,hap,trivial,h5,h5,h5,trivial,hx,trivial,h4,h4,h4,trivial,hs,trivial,hs2,trivial,hy,ri,rfl⟩ ⟨u,left,i+1⟩ (go u _ L') mu rfl (.refl _) (.refl _)
 · obtain rfl:i=n:=Nat.le_antisymm hi q
   have h0:decide (ofNat i<ofNat i)=false:=decide_eq_false (by simp)
   exact rd_out (leE_lq s.ts (ofNat e) i f left w i h0) ⟨h0,rfl⟩ rfl rfl (.refl _) ⟨none_ov _,.refl _,trivial⟩
theorem lec_vc (t t1:TS) (v:Mb) (n:Nat) (f:Nat→Int) (sv:Int) (h1:decide (sv<0)=false) (h2:decide (2<sv)=false) (h3:decide (v.x 6=0)=true) (V:AV):runK PG 1000000 (.call 10 [.i .i64 sv,isv n f] (mkH [])) (.cal [] (.b true) [] (.c (.t (.t (.f (.f (.cal [] (.tup [tsV t,.i .i64 0]) [] (.inl (.cal [] (.tup [tsV t1,.agg (vwL v)]) [] (.lop [0,2] [0,5,7,8,34,35,36] 2 (.exit 0) [(7,.p 1 0)] [none,some (AObj.cells 30 7 [.i .i64 0,.i .i64 0,.i .i64 0,.l0,.l0,.l0,.l0] (setAll .e 0 (vwL v)))] (ot 4 .z))))))))))) (fun r _=>rvIs V r)=((fun (q0:List AV)=>(Con PG 14 [] [] (.b true) []∧True∧r2 ((!decide (sv<0))=true) (decide (sv<0)=false∧decide (2<sv)=false∧Con PG 13 [.i .i64 1] [] (.tup [tsV t,.i .i64 0]) []∧Con PG 15 [tsV t,.agg [.i .i64 1,.i .i64 sv,.i .i64 1,.i .i64 1,.i .i64 0,.i .i64 0,.i .i64 0,.i .i64 0,.l0,.i .i64 0]] [] (.tup [tsV t1,.agg (vwL v)]) []∧LDoes PG (loopAt PG 10 0) 112 2 (mkT [(0,.i .i64 sv),(5,.p 0 0),(7,.p 1 0),(8,.i .i64 60),(34,isv n f),(35,.i .i64 (ofNat n)),(36,.i .i64 0)]) [some (tsZ t1),some (AObj.cells 30 7 q0 (setAll .e 0 (vwL v)))] (.exit 0) (mkT [(7,.p 1 0)]) [none,some (AObj.cells 30 7 q0 (setAll .e 0 (vwL v)))]∧True∧decide (Mb.x v 6=0)=true∧True∧r3 (decide (Mb.x v 6=0)=true) ((.b (decide (Mb.x v 7=1)))=V)))) [.i .i64 0,.i .i64 0,.i .i64 0,.l0,.l0,.l0,.l0]):=by kernel_rfl
theorem lea_vc (n:Nat) (f:Nat→Int) (sv:Int) (h1:decide (sv<0)=true) (V:AV):runK PG 1000000 (.call 10 [.i .i64 sv,isv n f] (mkH [])) (.cal [] (.b true) [] (.c (.f (.f (.t (.c .z)))))) (fun r _=>rvIs V r)=(Con PG 14 [] [] (.b true) []∧True∧r2 ((!decide (sv<0))=false) (decide (sv<0)=true∧(.b true)=V)):=by kernel_rfl
theorem leb_vc (n:Nat) (f:Nat→Int) (sv:Int) (h1:decide (sv<0)=false) (h2:decide (2<sv)=true) (V:AV):runK PG 1000000 (.call 10 [.i .i64 sv,isv n f] (mkH [])) (.cal [] (.b true) [] (.c (.t (.t (.f (.t .z)))))) (fun r _=>rvIs V r)=(Con PG 14 [] [] (.b true) []∧True∧r2 ((!decide (sv<0))=true) (decide (sv<0)=false∧decide (2<sv)=true∧(.b true)=V)):=by kernel_rfl
def mM:Mb:=mbK [1,1,60,-1,1,1,0,1,1] [0] [1] [] []
def M0:LS:=lsK [1,0,1] [0] [1] mM zK zK (rwK [0,0,0] [])
def M1:LS:=lsK [1,0,1] [0] [1] zK mM zK (rwK [0,0,0] [])
def M2:LS:=lsK [1,0,1] [0] [1] zK zK mM (rwK [0,0,0] [])
theorem M0_ok:M0.ok:=lsK_ok (by decide) (by decide) (by decide) (by decide) (by decide)
theorem M0_s:lsV (ApS T1 (cmK 1 0 1 1 0 0 0 0 0))=lsV M0:=by kernel_rfl
theorem M0_v:AV.agg (vwL (ApV T1 (cmK 1 0 1 1 0 0 0 0 0)))=AV.agg (vwL mM):=by kernel_rfl
theorem M0_con:Con PG 15 [lsV T1,.agg [.i .i64 1,.i .i64 0,.i .i64 1,.i .i64 1,.i .i64 0,.i .i64 0,.i .i64 0,.i .i64 0,.l0,.i .i64 0]] [] (.tup [lsV M0,.agg (vwL mM)]) []:=by
 rw [←M0_s,←M0_v]
 exact (Apply_con T1 T1_ok (cmK 1 0 1 1 0 0 0 0 0) (by decide) (fun _ _ h=>absurd h (by decide))).pre ⟨.refl _,.agg ⟨.refl _,.refl _,.refl _,.refl _,.refl _,.refl _,.refl _,.refl _,.nil _ _,.refl _,trivial⟩,trivial⟩
theorem M0_va:vaB M0=true:=by kernel_rfl
theorem M0_le:Le 0 M0 60 0:=⟨M0_ok,(va_iff _).1 M0_va,by decide,by decide,rfl,rfl,fun _=>⟨rfl,rfl⟩,fun h=>absurd h (by decide),by decide⟩
theorem M1_ok:M1.ok:=lsK_ok (by decide) (by decide) (by decide) (by decide) (by decide)
theorem M1_s:lsV (ApS T1 (cmK 1 1 1 1 0 0 0 0 0))=lsV M1:=by kernel_rfl
theorem M1_v:AV.agg (vwL (ApV T1 (cmK 1 1 1 1 0 0 0 0 0)))=AV.agg (vwL mM):=by kernel_rfl
theorem M1_con:Con PG 15 [lsV T1,.agg [.i .i64 1,.i .i64 1,.i .i64 1,.i .i64 1,.i .i64 0,.i .i64 0,.i .i64 0,.i .i64 0,.l0,.i .i64 0]] [] (.tup [lsV M1,.agg (vwL mM)]) []:=by
 rw [←M1_s,←M1_v]
 exact (Apply_con T1 T1_ok (cmK 1 1 1 1 0 0 0 0 0) (by decide) (fun _ _ h=>absurd h (by decide))).pre ⟨.refl _,.agg ⟨.refl _,.refl _,.refl _,.refl _,.refl _,.refl _,.refl _,.refl _,.nil _ _,.refl _,trivial⟩,trivial⟩
theorem M1_va:vaB M1=true:=by kernel_rfl
theorem M1_le:Le 1 M1 60 0:=⟨M1_ok,(va_iff _).1 M1_va,by decide,by decide,rfl,rfl,fun _=>⟨rfl,rfl⟩,fun h=>absurd h (by decide),by decide⟩
theorem M2_ok:M2.ok:=lsK_ok (by decide) (by decide) (by decide) (by decide) (by decide)
theorem M2_s:lsV (ApS T1 (cmK 1 2 1 1 0 0 0 0 0))=lsV M2:=by kernel_rfl
theorem M2_v:AV.agg (vwL (ApV T1 (cmK 1 2 1 1 0 0 0 0 0)))=AV.agg (vwL mM):=by kernel_rfl
theorem M2_con:Con PG 15 [lsV T1,.agg [.i .i64 1,.i .i64 2,.i .i64 1,.i .i64 1,.i .i64 0,.i .i64 0,.i .i64 0,.i .i64 0,.l0,.i .i64 0]] [] (.tup [lsV M2,.agg (vwL mM)]) []:=by
 rw [←M2_s,←M2_v]
 exact (Apply_con T1 T1_ok (cmK 1 2 1 1 0 0 0 0 0) (by decide) (fun _ _ h=>absurd h (by decide))).pre ⟨.refl _,.agg ⟨.refl _,.refl _,.refl _,.refl _,.refl _,.refl _,.refl _,.refl _,.nil _ _,.refl _,trivial⟩,trivial⟩
theorem M2_va:vaB M2=true:=by kernel_rfl
theorem M2_le:Le 2 M2 60 0:=⟨M2_ok,(va_iff _).1 M2_va,by decide,by decide,rfl,rfl,fun _=>⟨rfl,rfl⟩,fun h=>absurd h (by decide),by decide⟩
theorem law10_e (e:Nat) (he:e<3) (M:LS) (L:Le e M 60 0) (hap:Con PG 15 [lsV T1,.agg [.i .i64 1,.i .i64 (ofNat e),.i .i64 1,.i .i64 1,.i .i64 0,.i .i64 0,.i .i64 0,.i .i64 0,.l0,.i .i64 0]] [] (.tup [lsV M,.agg (vwL mM)]) [])
 (n:Nat) (hn:n≤1152921504606846976) (f:Nat→Int):Con PG 10 [.i .i64 (ofNat e),isv n f] [] (.b true) []:=by
 have h1:decide (ofNat e<0)=false:=decide_eq_false (by simp)
 have h2:decide (2<ofNat e)=false:=decide_eq_false (by simp;omega)
 have h3:decide (mM.x 6=0)=true:=rfl
 have lp:=le_lp e he n hn f M mM L
 exact con_pureX (lec_vc T1.ts M.ts mM n f (ofNat e) h1 h2 h3 _) rfl ⟨awake_con,trivial,nF h1,nF h1,h1,h2,start1_con,hap,lp,trivial,h3,trivial,h3,h3,h3,rfl⟩
theorem law10_con (sv:Int) (n:Nat) (hn:n≤1152921504606846976) (f:Nat→Int):Con PG 10 [.i .i64 sv,isv n f] [] (.b true) []:=by
 by_cases h1:sv<0
 · exact con_pureX (lea_vc n f sv (decide_eq_true h1) _) rfl (by repeat' first | exact trivial | exact awake_con | exact decide_eq_true h1 | exact nT (decide_eq_true h1) | exact nnT (decide_eq_true h1) | exact rfl | apply And.intro)
 · by_cases h2:2<sv
   · exact con_pureX (leb_vc n f sv (decide_eq_false h1) (decide_eq_true h2) _) rfl (by repeat' first | exact trivial | exact awake_con | exact decide_eq_false h1 | exact decide_eq_true h2 | exact nF (decide_eq_false h1) | exact nnF (decide_eq_false h1) | exact nT (decide_eq_true h2) | exact nnT (decide_eq_true h2) | exact rfl | apply And.intro)
   · have c:sv=0∨sv=1∨sv=2:=by omega
     rcases c with rfl | rfl | rfl
     · exact law10_e 0 (by decide) M0 M0_le M0_con n hn f
     · exact law10_e 1 (by decide) M1 M1_le M1_con n hn f
     · exact law10_e 2 (by decide) M2 M2_le M2_con n hn f
end Go.Proofs.Sv
