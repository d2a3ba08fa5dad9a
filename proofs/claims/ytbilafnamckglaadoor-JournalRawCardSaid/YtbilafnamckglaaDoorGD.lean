/- Runs over unknown values, told by the kernel: part GD. -/
import Derived.Test.YtbilafnamckglaaDoorGC
noncomputable section
open Int (ofNat)
set_option linter.unusedSimpArgs false
set_option linter.unusedVariables false
set_option maxRecDepth 20000
namespace Go.Proofs.Jn
open Go Go.Sim Go.Proofs Go.Proofs.Cd Go.Proofs.St Go.Proofs.Cl Go.Proofs.YtbilafnamckglaaDoor
theorem rcOk_vc (n gen num i q:Nat) (ff G N I P L:Nat→Nat) (D:Nat→Nat→Nat) (hi:decide (ofNat i<ofNat n)=true) (h1:decide (ofNat (G i)=ofNat gen)=true) (h2:decide (ofNat (N i)=ofNat num)=true) (h3:decide (ofNat (I i)=ofNat i)=true) (h4:decide (ofNat (P i)=ofNat n)=true) (K:Res→Orc→Prop):runK PG 1000000 (.code (loopAt PG 70 0) 66 (mkT (rcT 0 n gen num i q G N I P L D)) (mkH [some (.rows 5 1 q (byF ff))])) (ot 5 (.f (ot 4 (.f (ot 4 (.f (.f .z))))))) K=((fun (q7:Bool)=>((fun (q6:Bool)=>((fun (q5:Bool)=>((fun (q4:AV)=>((fun (q3:AV)=>((fun (q2:Nat→Nat→CV)=>((fun (q1:AV)=>((fun (q0:AV)=>(decide (ofNat i<ofNat n)=true∧(0≤ofNat i∧ofNat i<↑n)∧True∧True∧q5=true∧True∧r3 (q5=true) ((!decide (ofNat (G i)=ofNat gen))=false∧q6=true∧True∧r3 (q6=true) ((!decide (ofNat (N i)=ofNat num))=false∧q7=true∧True∧r3 (q7=true) ((!decide (ofNat (I i)=ofNat i))=false∧(!decide (ofNat (P i)=ofNat n))=false∧True∧(0+q≤q∧True∧q+L i≤140737488355328∧(3*(q+L i)+1536)*1≤562949953421312)∧rg (ofNat i+1)∧K (.st .nrm (t0 (t1 (inv gen) (t0 (t0 (t0 (t1 (inv n) (tl (.i .i64 (ofNat i+1))) .e) (tl q0)) (t0 (tn gen) (tn (P i)))) (t1 (.p 1 0) (t0 (tl (.pv 5 (ptF G N I P L D i))) (tl q1)) (t0 (tn (N i)) (tl (.lr 0 1 0 q false))))) (t0 (t1 (.lr 2 1
 0 (addN q (L i)) false) (t0 (tl (.b (decide (ofNat i<ofNat n)))) (tn (I i))) (t0 (tl q3) (tl q4))) (t0 (t0 (tl (.p 1 0)) (tl q1)) (t0 (tl q0) (tl (.sv 1 (L i) q2)))))) (t1 (inv num) (t0 (t1 (inv n) (t0 (tl (.i .i64 (ofNat i+1))) (tl (.p 1 2))) (t0 (tl q3) (tn n))) (t0 (t0 (tl (.agg [inv (G i),inv (N i),inv (I i),inv (P i),.sv 1 (L i) q2])) (tl q1)) (t0 (tn num) (tl (.p 1 4))))) (t0 (t1 (inv i) (t0 (tn i) (tn i)) (t0 (tl (.p 1 1)) (tl q4))) (t0 (t0 (tn (G i)) (tl (.p 1 3))) (t1 (.sv 5 n (ptF G N I P L D)) (tl q0) (tl (.lr 2 1 0 (addN q (L i)) false))))))) ⟨t0 (tl (.cells 121 5 [.i .i64 0,.i .i64 0,.i .i64 0,.i .i64 0,.l0] (t1 (inv (G i)) (t1 (inv (N i)) (tn (P i)) .e) (t1 (inv (I i)) (tl (.sv 1 (L i) q2)) .e)))) (tl (.rows 5 1 (addN q (L i)) (appZ q (fun k x=>CV.i .u8 (ofNat (ff k))) fun k x=>CV.i .u8 (ofNat (D i k))))),3,[2,0,1,1]⟩) .z))))) (.b !decide (ofNat (N i)=ofNat num)))) (.b !decide (ofNat (I i)=ofNat i)))) (byF (D (Int.toNat (ofNat i)))))) (.b !decide (ofNat (G i)=ofNat gen)))) (.b !decide (ofNat (P i)=ofNat n)))) (!!decide (ofNat (G i)=ofNat gen)))) (!!decide (ofNat (N i)=ofNat num)))) (!!decide (ofNat (I i)=ofNat i))):=by kernel_rfl
theorem rcEnd_vc (n gen num i q:Nat) (ff G N I P L:Nat→Nat) (D:Nat→Nat→Nat) (hi:decide (ofNat i<ofNat n)=false) (K:Res→Orc→Prop):runK PG 1000000 (.code (loopAt PG 70 0) 66 (mkT (rcT 0 n gen num i q G N I P L D)) (mkH [some (.rows 5 1 q (byF ff))])) (.f .z) K=(decide (ofNat i<ofNat n)=false∧K (.st (.exit 0) (t0 (t1 (inv gen) (t0 (t0 (t0 (tn n) .e) .e) .e) (t0 (t1 (.lr 0 1 0 q false) (t0 (tl (.b (decide (ofNat i<ofNat n)))) .e) .e) .e)) (t1 (inv num) (t0 (t1 (inv n) (t0 (tn i) .e) .e) .e) (t0 .e (t0 .e (tl (.sv 5 n (ptF G N I P L D))))))) ⟨tl (AObj.rows 5 1 q (byF ff)),1,[]⟩) .z):=by kernel_rfl
theorem rcB1_vc (n gen num i q:Nat) (ff G N I P L:Nat→Nat) (D:Nat→Nat→Nat) (hi:decide (ofNat i<ofNat n)=true) (h1:decide (ofNat (G i)=ofNat gen)=false) (K:Res→Orc→Prop):runK PG 1000000 (.code (loopAt PG 70 0) 66 (mkT (rcT 0 n gen num i q G N I P L D)) (mkH [some (.rows 5 1 q (byF ff))])) (.t (of_ 4 (.t (oc 11 .z)))) K=((fun (q0:AV)=>(decide (ofNat i<ofNat n)=true∧(0≤ofNat i∧ofNat i<↑n)∧True∧True∧r4 ((!!decide (ofNat (G i)=ofNat gen))=false) ((!decide (ofNat (G i)=ofNat gen))=true∧K (.st .ret (t0 (t1 (inv gen) (t0 (t1 (.i .i64 0) (t0 (tn n) tb) (t0 (tn gen) tu)) (t1 (.p 1 0) (t0 (tl (.pv 5 (ptF G N I P L D i))) tu) (t0 tu .e))) (t0 (t1 (.lr 0 1 0 q false) (t0 (tl (.b (decide (ofNat i<ofNat n)))) tu) (t0 (tl q0) tu)) (t0 (t0 (tl (.p 1 0)) tb) (t0 tu .e)))) (t1 (inv num) (t0 (t1 (inv n) (t0 (tn i) tu) (t0 (tl q0) tu)) (t0 (t0 (tl (.agg [inv (G i),inv (N i),inv (I i),inv (P i),.sv 1 (L i) (byF (D (Int.toNat (ofNat i))))])) tb) (t0 tu .e))) (t1 .l0 (t1 (inv i) (t0 (tn i) tu) (t0 tu tb)) (t0 (t0 (tn (G i)) tu) (t1 (.sv 5 n (ptF G N I P L D)) tb .e))))) ⟨t1 (AObj.rows 5 1 q (byF ff)) (tl (.cells 121 5 [.i .i64 0,.i .i64 0,.i .i64 0,.i .i64 0,.l0] (t1 (inv (G i)) (t1 (inv (N i)) (tn (P i)) .e) (t1 (inv (I i)) (tl (.sv 1 (L i) (byF (D (Int.toNat (ofNat i)))))) .e)))) .e,2,[1,1]⟩) .z))) (.b !decide (ofNat (G i)=ofNat gen)))
 :=by kernel_rfl
theorem rcB2_vc (n gen num i q:Nat) (ff G N I P L:Nat→Nat) (D:Nat→Nat→Nat) (hi:decide (ofNat i<ofNat n)=true) (h1:decide (ofNat (G i)=ofNat gen)=true) (h2:decide (ofNat (N i)=ofNat num)=false) (K:Res→Orc→Prop):runK PG 1000000 (.code (loopAt PG 70 0) 66 (mkT (rcT 0 n gen num i q G N I P L D)) (mkH [some (.rows 5 1 q (byF ff))])) (ot 5 (of_ 5 (.t (oc 6 .z)))) K=((fun (q2:Bool)=>((fun (q1:AV)=>((fun (q0:AV)=>(decide (ofNat i<ofNat n)=true∧(0≤ofNat i∧ofNat i<↑n)∧True∧True∧q2=true∧True∧r3 (q2=true) ((!decide (ofNat (G i)=ofNat gen))=false∧r4 ((!!decide (ofNat (N i)=ofNat num))=false) ((!decide (ofNat (N i)=ofNat num))=true∧K (.st .ret (t0 (t1 (inv gen) (t0 (t1 (.i .i64 0) (t0 (tn n) (tl q0)) (t0 (tn gen) tu)) (t1 (.p 1 0) (t0 (tl (.pv 5 (ptF G N I P L D i))) tu) (t0 (tn (N i)) .e))) (t0 (t1 (.lr 0 1 0 q false) (t0 (tl (.b (decide (ofNat i<ofNat n)))) tu) (t0 (tl q1) tu)) (t0 (t0 (tl (.p 1 0)) tb) (t0 (tl q0) .e)))) (t1 (inv num) (t0 (t1 (inv n) (t0 (tn i) tu) (t0 (tl q1) tu)) (t0 (t0 (tl (.agg [inv (G i),inv (N i),inv (I i),inv (P i),.sv 1 (L i) (byF (D (Int.toNat (ofNat i))))])) tb) (t0 (tn num) .e))) (t1 .l0 (t1 (inv i) (t0 (tn i) tu) (t0 (tl (.p 1 1)) tb)) (t0 (t0 (tn (G i)) tu) (t1 (.sv 5 n (ptF G N I P L D)) (tl q0) .e))))) ⟨t1 (AObj.rows 5 1 q (byF ff)) (tl (.cells 121 5 [.i .i64 0,.i .i64 0,.i .i64
 0,.i .i64 0,.l0] (t1 (inv (G i)) (t1 (inv (N i)) (tn (P i)) .e) (t1 (inv (I i)) (tl (.sv 1 (L i) (byF (D (Int.toNat (ofNat i)))))) .e)))) .e,2,[1,1]⟩) .z)))) (.b !decide (ofNat (N i)=ofNat num)))) (.b !decide (ofNat (G i)=ofNat gen)))) (!!decide (ofNat (G i)=ofNat gen))):=by kernel_rfl
theorem rcB3_vc (n gen num i q:Nat) (ff G N I P L:Nat→Nat) (D:Nat→Nat→Nat) (hi:decide (ofNat i<ofNat n)=true) (h1:decide (ofNat (G i)=ofNat gen)=true) (h2:decide (ofNat (N i)=ofNat num)=true) (h3:decide (ofNat (I i)=ofNat i)=false) (K:Res→Orc→Prop):runK PG 1000000 (.code (loopAt PG 70 0) 66 (mkT (rcT 0 n gen num i q G N I P L D)) (mkH [some (.rows 5 1 q (byF ff))])) (ot 5 (.f (ot 4 (of_ 5 (.t (.c .z)))))) K=((fun (q4:Bool)=>((fun (q3:Bool)=>((fun (q2:AV)=>((fun (q1:AV)=>((fun (q0:AV)=>(decide (ofNat i<ofNat n)=true∧(0≤ofNat i∧ofNat i<↑n)∧True∧True∧q3=true∧True∧r3 (q3=true) ((!decide (ofNat (G i)=ofNat gen))=false∧q4=true∧True∧r3 (q4=true) ((!decide (ofNat (N i)=ofNat num))=false∧r4 ((!!decide (ofNat (I i)=ofNat i))=false) ((!decide (ofNat (I i)=ofNat i))=true∧K (.st .ret (t0 (t1 (inv gen) (t0 (t1 (.i .i64 0) (t0 (tn n) (tl q0)) (t0 (tn gen) tu)) (t1 (.p 1 0) (t0 (tl (.pv 5 (ptF G N I P L D i))) (tl q1)) (t0 (tn (N i)) .e))) (t0 (t1 (.lr 0 1 0 q false) (t0 (tl (.b (decide (ofNat i<ofNat n)))) (tn (I i))) (t0 (tl q2) tu)) (t0 (t0 (tl (.p 1 0)) (tl q1)) (t0 (tl q0) .e)))) (t1 (inv num) (t0 (t1 (inv n) (t0 (tn i) (tl (.p 1 2))) (t0 (tl q2) tu)) (t0 (t0 (tl (.agg [inv (G i),inv (N i),inv (I i),inv (P i),.sv 1 (L i) (byF (D (Int.toNat (ofNat i))))])) (tl q1)) (t0 (tn
 num) .e))) (t1 .l0 (t1 (inv i) (t0 (tn i) (tn i)) (t0 (tl (.p 1 1)) tb)) (t0 (t0 (tn (G i)) tu) (t1 (.sv 5 n (ptF G N I P L D)) (tl q0) .e))))) ⟨t1 (AObj.rows 5 1 q (byF ff)) (tl (.cells 121 5 [.i .i64 0,.i .i64 0,.i .i64 0,.i .i64 0,.l0] (t1 (inv (G i)) (t1 (inv (N i)) (tn (P i)) .e) (t1 (inv (I i)) (tl (.sv 1 (L i) (byF (D (Int.toNat (ofNat i)))))) .e)))) .e,2,[1,1]⟩) .z))))) (.b !decide (ofNat (N i)=ofNat num)))) (.b !decide (ofNat (I i)=ofNat i)))) (.b !decide (ofNat (G i)=ofNat gen)))) (!!decide (ofNat (G i)=ofNat gen)))) (!!decide (ofNat (N i)=ofNat num))):=by kernel_rfl
theorem rcB4_vc (n gen num i q:Nat) (ff G N I P L:Nat→Nat) (D:Nat→Nat→Nat) (hi:decide (ofNat i<ofNat n)=true) (h1:decide (ofNat (G i)=ofNat gen)=true) (h2:decide (ofNat (N i)=ofNat num)=true) (h3:decide (ofNat (I i)=ofNat i)=true) (h4:decide (ofNat (P i)=ofNat n)=false) (K:Res→Orc→Prop):runK PG 1000000 (.code (loopAt PG 70 0) 66 (mkT (rcT 0 n gen num i q G N I P L D)) (mkH [some (.rows 5 1 q (byF ff))])) (ot 5 (.f (ot 4 (.f (ot 4 (.f (.t .z))))))) K=((fun (q6:Bool)=>((fun (q5:Bool)=>((fun (q4:Bool)=>((fun (q3:AV)=>((fun (q2:AV)=>((fun (q1:AV)=>((fun (q0:AV)=>(decide (ofNat i<ofNat n)=true∧(0≤ofNat i∧ofNat i<↑n)∧True∧True∧q4=true∧True∧r3 (q4=true) ((!decide (ofNat (G i)=ofNat gen))=false∧q5=true∧True∧r3 (q5=true) ((!decide (ofNat (N i)=ofNat num))=false∧q6=true∧True∧r3 (q6=true) ((!decide (ofNat (I i)=ofNat i))=false∧(!decide (ofNat (P i)=ofNat n))=true∧K (.st .ret (t0 (t1 (inv gen) (t0 (t1 (.i .i64 0) (t0 (tn n) (tl q0)) (t0 (tn gen) (tn (P i)))) (t1 (.p 1 0) (t0 (tl (.pv 5 (ptF G N I P L D i))) (tl q1)) (t0 (tn (N i)) .e))) (t0 (t1 (.lr 0 1 0 q false) (t0 (tl (.b (decide (ofNat i<ofNat n)))) (tn (I i))) (t0 (tl q2) (tl q3))) (t0 (t0 (tl (.p 1 0)) (tl q1)) (t0 (tl q0) .e)))) (t1 (inv num) (t0 (t1 (inv n) (t0 (tn i) (tl (.p 1 2))) (t0 (tl
 q2) (tn n))) (t0 (t0 (tl (.agg [inv (G i),inv (N i),inv (I i),inv (P i),.sv 1 (L i) (byF (D (Int.toNat (ofNat i))))])) (tl q1)) (t0 (tn num) .e))) (t1 .l0 (t1 (inv i) (t0 (tn i) (tn i)) (t0 (tl (.p 1 1)) (tl q3))) (t0 (t0 (tn (G i)) (tl (.p 1 3))) (t1 (.sv 5 n (ptF G N I P L D)) (tl q0) .e))))) ⟨t1 (AObj.rows 5 1 q (byF ff)) (tl (.cells 121 5 [.i .i64 0,.i .i64 0,.i .i64 0,.i .i64 0,.l0] (t1 (inv (G i)) (t1 (inv (N i)) (tn (P i)) .e) (t1 (inv (I i)) (tl (.sv 1 (L i) (byF (D (Int.toNat (ofNat i)))))) .e)))) .e,2,[1,1]⟩) .z))))) (.b !decide (ofNat (N i)=ofNat num)))) (.b !decide (ofNat (I i)=ofNat i)))) (.b !decide (ofNat (G i)=ofNat gen)))) (.b !decide (ofNat (P i)=ofNat n)))) (!!decide (ofNat (G i)=ofNat gen)))) (!!decide (ofNat (N i)=ofNat num)))) (!!decide (ofNat (I i)=ofNat i))):=by kernel_rfl
def cl (L:Nat→Nat):Nat→Nat
 | 0=>0
 | i+1=>cl L i+L i
def cb (L:Nat→Nat) (D:Nat→Nat→Nat):Nat→Nat→Nat
 | 0,_=>0
 | i+1,t=>bif Nat.blt t (cl L i) then cb L D i t else D i (t-cl L i)
theorem cl_le {L:Nat→Nat} (hL:∀i,L i≤47):∀i,cl L i≤47*i
 | 0=>Nat.le_refl _
 | i+1=>by have:=cl_le hL i;have:=hL i;show cl L i+L i≤_;omega
structure RcOk (n gen num:Nat) (G N I P:Nat→Nat) (i:Nat):Prop where
 eg:G i=gen
 en:N i=num
 ei:I i=i
 ep:P i=n
theorem rc_lp (n gen num:Nat) (G N I P L:Nat→Nat) (D:Nat→Nat→Nat) (ff0:Nat→Nat) (hn:n≤60) (hL:∀i,L i≤47) (ok:∀i,i<n→RcOk n gen num G N I P i) :
 LDoes PG (loopAt PG 70 0) 66 0 (mkT (rcT 0 n gen num 0 0 G N I P L D)) [some (.rows 5 1 0 (byF ff0))] (.exit 0) (mkT [(8,.i .i64 (ofNat n)),(9,.lr 0 1 0 (cl L n) false)]) [some (.rows 5 1 (cl L n) (byF (cb L D n)))]:=by
 refine loop_indV (D:=Nat×(Nat→Nat)) (l':=[(8,.i .i64 (ofNat n)),(9,.lr 0 1 0 (cl L n) false)]) (fun d=>(rcT 0 n gen num d.1 (cl L d.1) G N I P L D,[some (.rows 5 1 (cl L d.1) (byF d.2))])) (fun d=>n-d.1)
  (fun d=>d.1≤n∧∀t,t<cl L d.1→d.2 t=cb L D d.1 t) ?_ (0,ff0) ⟨Nat.zero_le _,fun t ht=>absurd ht (Nat.not_lt_zero _)⟩
 rintro ⟨i,ff⟩ ⟨hi,h1⟩
 simp only at hi h1
 have hc:=cl_le hL i
 have hLi:=hL i
 by_cases hlt:i<n
 · obtain ⟨a1,a2,a3,a4⟩:=ok i hlt
   have hd:decide (ofNat i<ofNat n)=true:=by simpa using hlt
   have d1:decide (ofNat (G i)=ofNat gen)=true:=decide_eq_true (by rw [a1])
   have d2:decide (ofNat (N i)=ofNat num)=true:=decide_eq_true (by rw [a2])
   have d3:decide (ofNat (I i)=ofNat i)=true:=decide_eq_true (by rw [a3])
   have d4:decide (ofNat (P i)=ofNat n)=true:=decide_eq_true (by rw [a4])
   refine ⟨Nat.zero_le _,1000000,_,(rcOk_vc n gen num i (cl L i) ff G N I P L D hd d1 d2 d3 d4 _).mpr ?_⟩
   have r0:(0:Int)≤ofNat i∧ofNat i<↑n:=⟨by simp,by simp;omega⟩
   have r1:0+cl L i≤cl L i∧True∧cl L i+L i≤140737488355328∧(3*(cl L i+L i)+1536)*1≤562949953421312:=⟨by omega,trivial,by omega,by omega⟩
   have r2:(-9223372036854775808:Int)≤ofNat i+1∧ofNat i+(1:Int)≤(9223372036854775807:Int):=⟨by simp<;>omega,by simp<;>omega⟩
   refine ⟨hd,r0,trivial,trivial,?_⟩
   repeat' first | exact trivial | assumption | exact nt (by assumption) | exact nf (by assumption) | exact nnt (by assumption) | exact nnf (by assumption) | refine And.intro ?_ ?_
   refine .inl ⟨(i+1,cb L D (i+1)),[2],[],_,_,rcT 0 n gen num (i+1) (addN (cl L i) (L i)) G N I P L D,[some (.rows 5 1 (addN (cl L i) (L i)) (appZ (cl L i) (fun k x=>CV.i .u8 (ofNat (ff k))) fun k x=>CV.i .u8 (ofNat (D i k))))],⟨hlt,fun t _=>rfl⟩,by simp only;omega,rfl,st_k [2] (by kernel_rfl),?_,?_⟩
   · rw [addN_eq];exact .refl _
   · rw [addN_eq]
     refine ⟨.rowsW fun t j ht hj=>.of ?_,trivial⟩
     obtain rfl:j=0:=by omega
     refine (appZ_i (Eq.refl _) (Eq.refl _)).trans ?_
     show CV.i .u8 _=CV.i .u8 (ofNat (bif Nat.blt t (cl L i) then cb L D i t else D i (t-cl L i)))
     by_cases c:t<cl L i
     · rw [if_pos c,show Nat.blt t (cl L i)=true from by rw [Nat.blt_eq];exact c,cond_true,h1 t c]
     · rw [if_neg c,show Nat.blt t (cl L i)=false from by rw [Bool.eq_false_iff,ne_eq,Nat.blt_eq];exact c,cond_false]
 · have:i=n:=by omega
   subst this
   have hd:decide (ofNat i<ofNat i)=false:=by simp
   refine ⟨Nat.zero_le _,1000000,_,(rcEnd_vc i gen num i (cl L i) ff G N I P L D hd _).mpr ⟨hd,?_⟩⟩
   exact .inr ⟨[0],[],_,_,[(8,.i .i64 (ofNat i)),(9,.lr 0 1 0 (cl L i) false)],[some (.rows 5 1 (cl L i) (byF ff))],rfl,by simp,st_k [0] (by kernel_rfl),.refl _,.rowsW fun t j ht hj=>.of (by show CV.i .u8 (ofNat (ff t))=CV.i .u8 (ofNat (cb L D i t));rw [h1 t ht]),trivial⟩
theorem rcBad_lp (n gen num m:Nat) (G N I P L:Nat→Nat) (D:Nat→Nat→Nat) (ff0:Nat→Nat) (hn:n≤60) (hL:∀i,L i≤47) (hm:m<n) (bad:¬RcOk n gen num G N I P m) (ok:∀i,i<m→RcOk n gen num G N I P i) :
 LDoes PG (loopAt PG 70 0) 66 0 (mkT (rcT 0 n gen num 0 0 G N I P L D)) [some (.rows 5 1 0 (byF ff0))] (.ret) (mkT [(6,.l0),(7,.i .i64 0)]) []:=by
 refine loop_indV (D:=Nat×(Nat→Nat)) (l':=[(6,.l0),(7,.i .i64 0)]) (fun d=>(rcT 0 n gen num d.1 (cl L d.1) G N I P L D,[some (.rows 5 1 (cl L d.1) (byF d.2))])) (fun d=>n-d.1)
  (fun d=>d.1≤m∧∀t,t<cl L d.1→d.2 t=cb L D d.1 t) ?_ (0,ff0) ⟨Nat.zero_le _,fun t ht=>absurd ht (Nat.not_lt_zero _)⟩
 rintro ⟨i,ff⟩ ⟨hi,h1⟩
 simp only at hi h1
 have hc:=cl_le hL i
 have hLi:=hL i
 have hd:decide (ofNat i<ofNat n)=true:=by simp;omega
 have r0:(0:Int)≤ofNat i∧ofNat i<↑n:=⟨by simp,by simp;omega⟩
 by_cases hlt:i<m
 · obtain ⟨a1,a2,a3,a4⟩:=ok i hlt
   have d1:decide (ofNat (G i)=ofNat gen)=true:=decide_eq_true (by rw [a1])
   have d2:decide (ofNat (N i)=ofNat num)=true:=decide_eq_true (by rw [a2])
   have d3:decide (ofNat (I i)=ofNat i)=true:=decide_eq_true (by rw [a3])
   have d4:decide (ofNat (P i)=ofNat n)=true:=decide_eq_true (by rw [a4])
   refine ⟨Nat.zero_le _,1000000,_,(rcOk_vc n gen num i (cl L i) ff G N I P L D hd d1 d2 d3 d4 _).mpr ?_⟩
   have r1:0+cl L i≤cl L i∧True∧cl L i+L i≤140737488355328∧(3*(cl L i+L i)+1536)*1≤562949953421312:=⟨by omega,trivial,by omega,by omega⟩
   have r2:(-9223372036854775808:Int)≤ofNat i+1∧ofNat i+(1:Int)≤(9223372036854775807:Int):=⟨by simp<;>omega,by simp<;>omega⟩
   refine ⟨hd,r0,trivial,trivial,?_⟩
   repeat' first | exact trivial | assumption | exact nt (by assumption) | exact nf (by assumption) | exact nnt (by assumption) | exact nnf (by assumption) | refine And.intro ?_ ?_
   refine .inl ⟨(i+1,cb L D (i+1)),[2],[],_,_,rcT 0 n gen num (i+1) (addN (cl L i) (L i)) G N I P L D,[some (.rows 5 1 (addN (cl L i) (L i)) (appZ (cl L i) (fun k x=>CV.i .u8 (ofNat (ff k))) fun k x=>CV.i .u8 (ofNat (D i k))))],⟨hlt,fun t _=>rfl⟩,by simp only;omega,rfl,st_k [2] (by kernel_rfl),?_,?_⟩
   · rw [addN_eq];exact .refl _
   · rw [addN_eq]
     refine ⟨.rowsW fun t j ht hj=>.of ?_,trivial⟩
     obtain rfl:j=0:=by omega
     refine (appZ_i (Eq.refl _) (Eq.refl _)).trans ?_
     show CV.i .u8 _=CV.i .u8 (ofNat (bif Nat.blt t (cl L i) then cb L D i t else D i (t-cl L i)))
     by_cases c:t<cl L i
     · rw [if_pos c,show Nat.blt t (cl L i)=true from by rw [Nat.blt_eq];exact c,cond_true,h1 t c]
     · rw [if_neg c,show Nat.blt t (cl L i)=false from by rw [Bool.eq_false_iff,ne_eq,Nat.blt_eq];exact c,cond_false]
 · have:i=m:=by omega
   subst this
   by_cases q1:G i=gen
   rotate_left
   · have d1:decide (ofNat (G i)=ofNat gen)=false:=decide_eq_false fun e=>q1 (Int.ofNat.inj e)
     refine ⟨Nat.zero_le _,1000000,_,(rcB1_vc n gen num i (cl L i) ff G N I P L D hd d1 _).mpr ?_⟩
     refine ⟨hd,r0,trivial,trivial,?_⟩
     repeat' first | exact trivial | assumption | exact nt (by assumption) | exact nf (by assumption) | exact nnt (by assumption) | exact nnf (by assumption) | refine And.intro ?_ ?_
     exact .inr ⟨[],[],_,_,[(6,.l0),(7,.i .i64 0)],[],rfl,by simp,st_k [] (by kernel_rfl),.refl _,OVL.refl _⟩
   have d1:decide (ofNat (G i)=ofNat gen)=true:=decide_eq_true (by rw [q1])
   by_cases q2:N i=num
   rotate_left
   · have d2:decide (ofNat (N i)=ofNat num)=false:=decide_eq_false fun e=>q2 (Int.ofNat.inj e)
     refine ⟨Nat.zero_le _,1000000,_,(rcB2_vc n gen num i (cl L i) ff G N I P L D hd d1 d2 _).mpr ?_⟩
     refine ⟨hd,r0,trivial,trivial,?_⟩
     repeat' first | exact trivial | assumption | exact nt (by assumption) | exact nf (by assumption) | exact nnt (by assumption) | exact nnf (by assumption) | refine And.intro ?_ ?_
     exact .inr ⟨[],[],_,_,[(6,.l0),(7,.i .i64 0)],[],rfl,by simp,st_k [] (by kernel_rfl),.refl _,OVL.refl _⟩
   have d2:decide (ofNat (N i)=ofNat num)=true:=decide_eq_true (by rw [q2])
   by_cases q3:I i=i
   rotate_left
   · have d3:decide (ofNat (I i)=ofNat i)=false:=decide_eq_false fun e=>q3 (Int.ofNat.inj e)
     refine ⟨Nat.zero_le _,1000000,_,(rcB3_vc n gen num i (cl L i) ff G N I P L D hd d1 d2 d3 _).mpr ?_⟩
     refine ⟨hd,r0,trivial,trivial,?_⟩
     repeat' first | exact trivial | assumption | exact nt (by assumption) | exact nf (by assumption) | exact nnt (by assumption) | exact nnf (by assumption) | refine And.intro ?_ ?_
     exact .inr ⟨[],[],_,_,[(6,.l0),(7,.i .i64 0)],[],rfl,by simp,st_k [] (by kernel_rfl),.refl _,OVL.refl _⟩
   have d3:decide (ofNat (I i)=ofNat i)=true:=decide_eq_true (by rw [q3])
   have d4:decide (ofNat (P i)=ofNat n)=false:=decide_eq_false fun e=>bad ⟨q1,q2,q3,Int.ofNat.inj e⟩
   refine ⟨Nat.zero_le _,1000000,_,(rcB4_vc n gen num i (cl L i) ff G N I P L D hd d1 d2 d3 d4 _).mpr ?_⟩
   refine ⟨hd,r0,trivial,trivial,?_⟩
   repeat' first | exact trivial | assumption | exact nt (by assumption) | exact nf (by assumption) | exact nnt (by assumption) | exact nnf (by assumption) | refine And.intro ?_ ?_
   exact .inr ⟨[],[],_,_,[(6,.l0),(7,.i .i64 0)],[],rfl,by simp,st_k [] (by kernel_rfl),.refl _,OVL.refl _⟩
def rcT0 (n gen num:Nat) (G N I P L:Nat→Nat) (D:Nat→Nat→Nat):List (Nat×AV):=
 [(1,.i .i64 (ofNat gen)),(2,.i .i64 (ofNat num)),(8,.i .i64 (ofNat n)),(9,.l0),(30,.sv 5 n (ptF G N I P L D)),(31,.i .i64 (ofNat n)),(32,.i .i64 0)]
theorem recE_vc (Q:Nat) (FF:Nat→Nat) (k gen num:Nat) (G N I P L:Nat→Nat) (D:Nat→Nat→Nat) (h0:decide (ofNat k=0)=false) (h1:decide (ofNat k<ofNat (P 0))=false) (K:Res→Orc→Prop):runK PG 1000000 (.call 70 [.sv 5 k (ptF G N I P L D),inv gen,inv num] (mkH [])) (ot 7 (.f (.f (.lop [] [1,2,8,9,30,31,32] 0 (.exit 0) [(8,.i .i64 (ofNat (P 0))),(9,.lr 0 1 0 Q false)] [some (.rows 5 1 Q (byF FF))] .z)))) K=((fun (q0:Bool)=>(r2 (q0=true) (((0:Int)≤(0:Int)∧(0:Int)<↑k)∧q0=true∧True∧q0=true∧True∧r3 (q0=true) (decide (ofNat k=0)=false∧decide (ofNat k<ofNat (P 0))=false∧((0:Int)≤(0:Int)∧(0:Int)<↑k)∧True∧True∧(True∧0≤ofNat (P 0)∧0≤P 0∧P 0≤k)∧LDoes PG (loopAt PG 70 0) 66 0 (mkT (rcT0 (P 0) gen num G N I P L D)) [] (.exit 0) (mkT [(8,.i .i64 (ofNat (P 0))),(9,.lr 0 1 0 Q false)]) [some (.rows 5 1 Q (byF FF))]∧K (.rv (.tup [.lr 0 1 0 Q false,inv (P 0)]) ⟨tl (AObj.rows 5 1 Q (byF FF)),1,[0]⟩) .z)))) (!decide (ofNat k=0))):=by kernel_rfl
theorem recF_vc (k gen num:Nat) (G N I P L:Nat→Nat) (D:Nat→Nat→Nat) (h0:decide (ofNat k=0)=false) (h1:decide (ofNat k<ofNat (P 0))=false) (K:Res→Orc→Prop):runK PG 1000000 (.call 70 [.sv 5 k (ptF G N I P L D),inv gen,inv num] (mkH [])) (ot 7 (.f (.f (.lop [] [1,2,8,9,30,31,32] 0 .ret [(6,.l0),(7,.i .i64 0)] [] .z)))) K=((fun (q0:Bool)=>(r2 (q0=true) (((0:Int)≤(0:Int)∧(0:Int)<↑k)∧q0=true∧True∧q0=true∧True∧r3 (q0=true) (decide (ofNat k=0)=false∧decide (ofNat k<ofNat (P 0))=false∧((0:Int)≤(0:Int)∧(0:Int)<↑k)∧True∧True∧(True∧0≤ofNat (P 0)∧0≤P 0∧P 0≤k)∧LDoes PG (loopAt PG 70 0) 66 0 (mkT (rcT0 (P 0) gen num G N I P L D)) [] .ret (mkT [(6,.l0),(7,.i .i64 0)]) []∧K (.rv (.tup [.l0,.i .i64 0]) ⟨.e,0,[]⟩) .z)))) (!decide (ofNat k=0))):=by kernel_rfl
theorem recG_vc (k gen num:Nat) (G N I P L:Nat→Nat) (D:Nat→Nat→Nat) (h0:decide (ofNat k=0)=false) (h1:decide (ofNat k<ofNat (P 0))=true) (K:Res→Orc→Prop):runK PG 1000000 (.call 70 [.sv 5 k (ptF G N I P L D),inv gen,inv num] (mkH [])) (ot 7 (.f (.t .z))) K=((fun (q0:Bool)=>(r2 (q0=true) (((0:Int)≤(0:Int)∧(0:Int)<↑k)∧q0=true∧True∧q0=true∧True∧r3 (q0=true) (decide (ofNat k=0)=false∧decide (ofNat k<ofNat (P 0))=true∧K (.rv (.tup [.l0,.i .i64 0]) ⟨.e,0,[]⟩) .z)))) (!decide (ofNat k=0))):=by kernel_rfl
theorem recH_vc (gen num:Nat) (G N I P L:Nat→Nat) (D:Nat→Nat→Nat) (K:Res→Orc→Prop):runK PG 1000000 (.call 70 [.sv 5 0 (ptF G N I P L D),inv gen,inv num] (mkH [])) (oc 9 .z) K=(K (.rv (.tup [.l0,.i .i64 0]) ⟨.e,0,[]⟩) .z):=by kernel_rfl
theorem rcE_lp (n gen num:Nat) (G N I P L:Nat→Nat) (D:Nat→Nat→Nat) (hn:n≤60) (hL:∀i,L i≤47) (ok:∀i,i<n→RcOk n gen num G N I P i) :
 LDoes PG (loopAt PG 70 0) 66 0 (mkT (rcT0 n gen num G N I P L D)) [] (.exit 0) (mkT [(8,.i .i64 (ofNat n)),(9,.lr 0 1 0 (cl L n) false)]) [some (.rows 5 1 (cl L n) (byF (cb L D n)))]:=
 (rc_lp n gen num G N I P L D (fun _=>0) hn hL ok).weak ⟨rfl,.inl rfl,rfl,.inl rfl,rfl,.inl rfl,rfl,.inr ⟨rfl,.inl ⟨0,1,0,false,rfl⟩⟩,rfl,.inl rfl,rfl,.inl rfl,rfl,.inl rfl,trivial⟩ (by intro o ho;simp at ho;subst ho;exact ⟨_,rfl,rfl⟩)
theorem rcF_lp (n gen num m:Nat) (G N I P L:Nat→Nat) (D:Nat→Nat→Nat) (hn:n≤60) (hL:∀i,L i≤47) (hm:m<n) (bad:¬RcOk n gen num G N I P m) (ok:∀i,i<m→RcOk n gen num G N I P i) :
 LDoes PG (loopAt PG 70 0) 66 0 (mkT (rcT0 n gen num G N I P L D)) [] .ret (mkT [(6,.l0),(7,.i .i64 0)]) []:=
 (rcBad_lp n gen num m G N I P L D (fun _=>0) hn hL hm bad ok).weak ⟨rfl,.inl rfl,rfl,.inl rfl,rfl,.inl rfl,rfl,.inr ⟨rfl,.inl ⟨0,1,0,false,rfl⟩⟩,rfl,.inl rfl,rfl,.inl rfl,rfl,.inl rfl,trivial⟩ (by intro o ho;simp at ho;subst ho;exact ⟨_,rfl,rfl⟩)
theorem recOk_con (k gen num:Nat) (G N I P L:Nat→Nat) (D:Nat→Nat→Nat) (hk:0<k) (hp:P 0≤k) (h60:k≤60) (hL:∀i,L i≤47) (ok:∀i,i<P 0→RcOk (P 0) gen num G N I P i) :
 Con PG 70 [.sv 5 k (ptF G N I P L D),.i .i64 (ofNat gen),.i .i64 (ofNat num)] [] (.tup [.sv 1 (cl L (P 0)) (byF (cb L D (P 0))),.i .i64 (ofNat (P 0))]) [.gone]:=by
 have h0:decide (ofNat k=0)=false:=by simp;omega
 have h1:decide (ofNat k<ofNat (P 0))=false:=by simp;omega
 have z:(0:Int)≤0∧(0:Int)<↑k:=⟨by decide,by omega⟩
 have z2:True∧0≤ofNat (P 0)∧0≤P 0∧P 0≤k:=⟨trivial,by simp,Nat.zero_le _,hp⟩
 have w:=rcE_lp (P 0) gen num G N I P L D (by omega) hL ok
 have k0:Con PG 70 [.sv 5 k (ptF G N I P L D),.i .i64 (ofNat gen),.i .i64 (ofNat num)] [] (.tup [.lr 0 1 0 (cl L (P 0)) false,.i .i64 (ofNat (P 0))]) [.set (.rows 5 1 (cl L (P 0)) (byF (cb L D (P 0))))]:=
  con_of_run [] [0] ((recE_vc (cl L (P 0)) (cb L D (P 0)) k gen num G N I P L D h0 h1 _).mpr ⟨nt h0,nt h0,z,nt h0,trivial,nt h0,trivial,nt h0,nt h0,nt h0,h0,h1,z,trivial,trivial,z2,w,_,_,rfl,ret_k (by kernel_rfl)⟩)
 exact (k0.freeze (us':=[.gone]) (v':=.tup [.sv 1 (cl L (P 0)) (shiftF 0 (byF (cb L D (P 0)))),.i .i64 (ofNat (P 0))]) 0 rfl ⟨rfl,trivial⟩ (.inr ⟨by kernel_rfl,⟨rfl,by omega⟩,trivial,trivial⟩))
theorem recNo_con (k gen num m:Nat) (G N I P L:Nat→Nat) (D:Nat→Nat→Nat) (h60:k≤60) (hL:∀i,L i≤47) (no:k=0∨k<P 0∨(m<P 0∧¬RcOk (P 0) gen num G N I P m∧∀i,i<m→RcOk (P 0) gen num G N I P i)) :
 Con PG 70 [.sv 5 k (ptF G N I P L D),.i .i64 (ofNat gen),.i .i64 (ofNat num)] [] (.tup [.l0,.i .i64 0]) []:=by
 by_cases hk:k=0
 · subst hk
   exact con_of_run [] [] ((recH_vc gen num G N I P L D _).mpr ⟨_,_,rfl,ret_k (by kernel_rfl)⟩)
 have h0:decide (ofNat k=0)=false:=by simp;omega
 have z:(0:Int)≤0∧(0:Int)<↑k:=⟨by decide,by omega⟩
 by_cases hp:k<P 0
 · have h1:decide (ofNat k<ofNat (P 0))=true:=by simp;omega
   exact con_of_run [] [] ((recG_vc k gen num G N I P L D h0 h1 _).mpr ⟨nt h0,nt h0,z,nt h0,trivial,nt h0,trivial,nt h0,nt h0,nt h0,h0,h1,_,_,rfl,ret_k (by kernel_rfl)⟩)
 rcases no with h | h | ⟨hm,bad,ok⟩
 · exact absurd h hk
 · exact absurd h hp
 have h1:decide (ofNat k<ofNat (P 0))=false:=by simp;omega
 have z2:True∧0≤ofNat (P 0)∧0≤P 0∧P 0≤k:=⟨trivial,by simp,Nat.zero_le _,by omega⟩
 have w:=rcF_lp (P 0) gen num m G N I P L D (by omega) hL hm bad ok
 exact con_of_run [] [] ((recF_vc k gen num G N I P L D h0 h1 _).mpr ⟨nt h0,nt h0,z,nt h0,trivial,nt h0,trivial,nt h0,nt h0,nt h0,h0,h1,z,trivial,trivial,z2,w,_,_,rfl,ret_k (by kernel_rfl)⟩)
theorem jnR_vc (Q:Nat) (FF:Nat→Nat) (N2 gen r u:Nat) (F:Nat→Nat→CV) (m:Nat→Nat) (b:Nat→Nat→Nat) (h0:decide (ofNat N2=0)=false) (K:Res→Orc→Prop):runK PG 1000000 (.code (loopAt PG 41 0) 31 (mkT [(0,.sv 5 60 F),(1,.i .i64 (ofNat gen)),(6,.lr 0 1 0 r false),(7,.i .i64 (ofNat u))]) (mkH [some (.rows 38 1 r (recF m b))])) (.cal [] (.tup [.sv 1 Q (byF FF),inv N2]) [.gone] (.f .z)) K=((fun (q1:Int)=>((fun (q0:AV)=>((0≤ofNat u∧True∧u≤60∧60≤60)∧Con PG 70 [.sv 5 (60-u) (shiftF u F),inv gen,inv r] [] q0 [.gone]∧decide (ofNat N2=0)=false∧(0+r≤r∧True∧r+1≤140737488355328∧(3*(r+1)+1536)*24≤562949953421312)∧rg q1∧K (.st .nrm (t1 (.sv 5 60 F) (t1 (inv gen) (t0 (t1 (.i .i64 q1) (tl (.lr 0 1 0 r false)) .e) (t1 (.sv 5 60 F) (tn N2) (tl (.lr 3 1 0 (addN r 1) false)))) (t0 (t1 (inv N2) (tl q0) (tl (.sv 1 Q (byF FF)))) (t1 (.sv 5 (60-u) (shiftF u F)) (tl (.b (decide (ofNat N2=0)))) (tn N2)))) (t0 (t0 (t1 (.sv 1 Q (byF FF)) (tn r) (tl (.lr 0 1 0 r false))) (t1 (inv u) (tn N2) (tn u))) (t1 (.lr 3 1 0 (addN r 1) false) (t1 q0 (tl (.sv 1 Q (byF FF))) (tl (.l 2 0 1 1 1 true))) (t1 (inv gen) .e (tl (.i .i64 q1)))))) ⟨t0 (t0 (tl (.rows 38 1 (addN r 1) (appZ r (fun i x=>CV.sv 1 (m i) (byF (b i))) fun x j=>List.getD [CV.sv 1 Q (byF FF)] j CV.p0))) .e) (tl (.cells 38 1 [] (tl (.sv 1 Q (byF FF))))),4,[3,0,2,1]⟩) .z)) (.tup [.sv 1 Q (byF FF),inv N2]))) (ofNat u
 +ofNat N2)):=by kernel_rfl
theorem jnN_vc (gen r u:Nat) (F:Nat→Nat→CV) (m:Nat→Nat) (b:Nat→Nat→Nat) (K:Res→Orc→Prop):runK PG 1000000 (.code (loopAt PG 41 0) 31 (mkT [(0,.sv 5 60 F),(1,.i .i64 (ofNat gen)),(6,.lr 0 1 0 r false),(7,.i .i64 (ofNat u))]) (mkH [some (.rows 38 1 r (recF m b))])) (.cal [] (.tup [.l0,.i .i64 0]) [] (.c .z)) K=((fun (q0:AV)=>((0≤ofNat u∧True∧u≤60∧60≤60)∧Con PG 70 [.sv 5 (60-u) (shiftF u F),inv gen,inv r] [] q0 []∧K (.st .ret (t1 (.sv 5 60 F) (t1 (inv gen) (t0 (t1 (inv u) (tl (.lr 0 1 0 r false)) (tn u)) (t1 (.sv 5 60 F) (tl (.i .i64 0)) .e)) (t1 (inv u) (t1 (.i .i64 0) (tl q0) .e) (t1 (.sv 5 (60-u) (shiftF u F)) tb .e))) (t0 (t1 (.lr 0 1 0 r false) (t1 .l0 (tn r) .e) (t1 (inv u) (tl (.i .i64 0)) .e)) (t1 (.lr 0 1 0 r false) (t1 q0 (tl .l0) .e) (t1 (inv gen) (tl (.lr 0 1 0 r false)) .e)))) ⟨tl (AObj.rows 38 1 r (recF m b)),1,[]⟩) .z)) (.tup [.l0,.i .i64 0])):=by kernel_rfl
theorem jnZ_vc (Q:Nat) (FF:Nat→Nat) (N2 gen r u:Nat) (F:Nat→Nat→CV) (m:Nat→Nat) (b:Nat→Nat→Nat) (h0:decide (ofNat N2=0)=true) (K:Res→Orc→Prop):runK PG 1000000 (.code (loopAt PG 41 0) 31 (mkT [(0,.sv 5 60 F),(1,.i .i64 (ofNat gen)),(6,.lr 0 1 0 r false),(7,.i .i64 (ofNat u))]) (mkH [some (.rows 38 1 r (recF m b))])) (.cal [] (.tup [.sv 1 Q (byF FF),inv N2]) [.gone] (.t .z)) K=((fun (q0:AV)=>((0≤ofNat u∧True∧u≤60∧60≤60)∧Con PG 70 [.sv 5 (60-u) (shiftF u F),inv gen,inv r] [] q0 [.gone]∧decide (ofNat N2=0)=true∧K (.st .ret (t1 (.sv 5 60 F) (t1 (inv gen) (t0 (t1 (inv u) (tl (.lr 0 1 0 r false)) (tn u)) (t1 (.sv 5 60 F) (tn N2) .e)) (t1 (inv u) (t1 (inv N2) (tl q0) .e) (t1 (.sv 5 (60-u) (shiftF u F)) (tl (.b (decide (ofNat N2=0)))) .e))) (t0 (t1 (.lr 0 1 0 r false) (t1 (.sv 1 Q (byF FF)) (tn r) .e) (t1 (inv u) (tn N2) .e)) (t1 (.lr 0 1 0 r false) (t1 q0 (tl (.sv 1 Q (byF FF))) .e) (t1 (inv gen) (tl (.lr 0 1 0 r false)) .e)))) ⟨t1 (AObj.rows 38 1 r (recF m b)) (t0 .e .e) .e,2,[1]⟩) .z)) (.tup [.sv 1 Q (byF FF),inv N2])):=by kernel_rfl
theorem join_vc (R U:Nat) (M:Nat→Nat) (B:Nat→Nat→Nat) (gen:Nat) (F:Nat→Nat→CV) (K:Res→Orc→Prop):runK PG 1000000 (.call 41 [.sv 5 60 F,inv gen] (mkH [])) (.lop [] [0,1,6,7] 0 .ret [(4,.lr 0 1 0 R false),(5,.i .i64 (ofNat U))] [some (.rows 38 1 R (recF M B))] .z) K=(LDoes PG (loopAt PG 41 0) 31 0 (mkT [(0,.sv 5 60 F),(1,.i .i64 (ofNat gen)),(6,.l0),(7,.i .i64 0)]) [] .ret (mkT [(4,.lr 0 1 0 R false),(5,.i .i64 (ofNat U))]) [some (.rows 38 1 R (recF M B))]∧K (.rv (.tup [.lr 0 1 0 R false,inv U]) ⟨tl (AObj.rows 38 1 R (recF M B)),1,[0]⟩) .z):=by kernel_rfl
theorem appZ_CW (n:Nat) (f g:Nat→Nat→CV) (i j:Nat):CW (appZ n f g i j) (bif Nat.blt i n then f i j else g (i-n) j):=by
 cases n with
 | zero=>exact .of (Eq.refl _)
 | succ n=>exact zipCV_CW _ _ _
def jU (P:Nat→Nat):Nat→Nat
 | 0=>0
 | r+1=>jU P r+P (jU P r)
structure StAt (gen:Nat) (G N I P:Nat→Nat) (u r:Nat):Prop where
 fit:P u≤60-u
 pos:1≤P u
 ok:∀i,i<P u→RcOk (P u) gen r (fun i=>G (u+i)) (fun i=>N (u+i)) (fun i=>I (u+i)) (fun i=>P (u+i)) i
def jm (P L:Nat→Nat) (r:Nat):Nat:=cl (fun i=>L (jU P r+i)) (P (jU P r))
def jb (P L:Nat→Nat) (D:Nat→Nat→Nat) (r:Nat):Nat→Nat:=cb (fun i=>L (jU P r+i)) (fun i=>D (jU P r+i)) (P (jU P r))
theorem jU_le {gen:Nat} {G N I P:Nat→Nat}:∀(c:Nat),(∀r,r<c→StAt gen G N I P (jU P r) r)→jU P c≤60∧c≤jU P c
 | 0,_=>⟨Nat.zero_le _,Nat.le_refl _⟩
 | c+1,h=>by
   have ih:=jU_le c fun r hr=>h r (by omega)
   have hs:=h c (by omega)
   have h1:=hs.fit
   have h2:=hs.pos
   show jU P c+P (jU P c)≤60∧c+1≤jU P c+P (jU P c)
   omega
theorem jn_lp (gen c:Nat) (G N I P L:Nat→Nat) (D:Nat→Nat→Nat) (hL:∀i,L i≤47) (m0:Nat→Nat) (b0:Nat→Nat→Nat) (st:∀r,r<c→StAt gen G N I P (jU P r) r) (no:¬StAt gen G N I P (jU P c) c) :
 LDoes PG (loopAt PG 41 0) 31 0 (mkT [(0,.sv 5 60 (ptF G N I P L D)),(1,.i .i64 (ofNat gen)),(6,.lr 0 1 0 0 false),(7,.i .i64 0)]) [some (.rows 38 1 0 (recF m0 b0))] .ret (mkT [(4,.lr 0 1 0 c false),(5,.i .i64 (ofNat (jU P c)))]) [some (.rows 38 1 c (recF (jm P L) (jb P L D)))]:=by
 refine loop_indV (D:=Nat×(Nat→Nat)×(Nat→Nat→Nat)) (l':=[(4,.lr 0 1 0 c false),(5,.i .i64 (ofNat (jU P c)))]) (fun d=>([(0,.sv 5 60 (ptF G N I P L D)),(1,.i .i64 (ofNat gen)),(6,.lr 0 1 0 d.1 false),(7,.i .i64 (ofNat (jU P d.1)))],[some (.rows 38 1 d.1 (recF d.2.1 d.2.2))])) (fun d=>c-d.1)
  (fun d=>d.1≤c∧∀t,t<d.1→d.2.1 t=jm P L t∧d.2.2 t=jb P L D t) ?_ (0,m0,b0) ⟨Nat.zero_le _,fun t ht=>absurd ht (Nat.not_lt_zero _)⟩
 rintro ⟨r,m,b⟩ ⟨hr,h1⟩
 simp only at hr h1
 have hu:=jU_le r fun t ht=>st t (by omega)
 have r0:0≤ofNat (jU P r)∧True∧jU P r≤60∧60≤60:=⟨by simp,trivial,hu.1,Nat.le_refl _⟩
 have hs:=ptF_shift G N I P L D (jU P r)
 by_cases hlt:r<c
 · obtain ⟨a1,a2,a3⟩:=st r hlt
   have h0:decide (ofNat (P (jU P r))=0)=false:=by simp;omega
   have w:=recOk_con (60-jU P r) gen r (fun i=>G (jU P r+i)) (fun i=>N (jU P r+i)) (fun i=>I (jU P r+i)) (fun i=>P (jU P r+i)) (fun i=>L (jU P r+i)) (fun i=>D (jU P r+i)) (by omega) a1 (by omega) (fun i=>hL _) a3
   rw [←hs] at w
   have r1:0+r≤r∧True∧r+1≤140737488355328∧(3*(r+1)+1536)*24≤562949953421312:=⟨by omega,trivial,by omega,by omega⟩
   have r2:(-9223372036854775808:Int)≤ofNat (jU P r)+ofNat (P (jU P r))∧ofNat (jU P r)+ofNat (P (jU P r))≤9223372036854775807:=⟨by simp<;>omega,by simp<;>omega⟩
   refine ⟨Nat.zero_le _,1000000,_,(jnR_vc (jm P L r) (jb P L D r) (P (jU P r)) gen r (jU P r) (ptF G N I P L D) m b h0 _).mpr ⟨r0,w,h0,r1,r2,.inl ⟨(r+1,jm P L,jb P L D),[3],[],_,_,[(0,.sv 5 60 (ptF G N I P L D)),(1,.i .i64 (ofNat gen)),(6,.lr 0 1 0 (addN r 1) false),(7,.i .i64 (ofNat (jU P r)+ofNat (P (jU P r))))],
    [some (.rows 38 1 (addN r 1) (appZ r (recF m b) fun x j=>List.getD [CV.sv 1 (jm P L r) (byF (jb P L D r))] j CV.p0))],⟨hlt,fun t _=>⟨rfl,rfl⟩⟩,by simp only;omega,rfl,st_k [3] (by kernel_rfl),?_,?_⟩⟩⟩
   · rw [addN_eq];exact .refl _
   · rw [addN_eq]
     refine ⟨.rowsW fun t j ht hj=>?_,trivial⟩
     obtain rfl:j=0:=by omega
     refine (appZ_CW _ _ _ _ _).trans ?_
     by_cases hc:t<r
     · rw [show Nat.blt t r=true from by rw [Nat.blt_eq];exact hc,cond_true]
       refine .of ?_
       show CV.sv 1 (m t) (byF (b t))=CV.sv 1 (jm P L t) (byF (jb P L D t))
       rw [(h1 t hc).1,(h1 t hc).2]
     · rw [show Nat.blt t r=false from by rw [Bool.eq_false_iff,ne_eq,Nat.blt_eq];exact hc,cond_false]
       have:t=r:=by omega
       subst this
       exact .refl _
 · have:r=c:=by omega
   subst this
   have fin:OVL [some (.rows 38 1 r (recF m b))] [some (.rows 38 1 r (recF (jm P L) (jb P L D)))]:=⟨.rowsW fun t j ht hj=>.of (by
    show CV.sv 1 (m t) (byF (b t))=CV.sv 1 (jm P L t) (byF (jb P L D t))
    rw [(h1 t ht).1,(h1 t ht).2]),trivial⟩
   by_cases hz:P (jU P r)=0∧0<60-jU P r
   · have w:=recOk_con (60-jU P r) gen r (fun i=>G (jU P r+i)) (fun i=>N (jU P r+i)) (fun i=>I (jU P r+i)) (fun i=>P (jU P r+i)) (fun i=>L (jU P r+i)) (fun i=>D (jU P r+i)) (by omega) (by show P (jU P r)≤_;omega) (by omega) (fun i=>hL _) (fun i hi=>by have:i<P (jU P r):=hi;omega)
     rw [←hs] at w
     refine ⟨Nat.zero_le _,1000000,_,(jnZ_vc _ _ (P (jU P r)) gen r (jU P r) (ptF G N I P L D) m b (by simp;exact hz.1) _).mpr ⟨r0,w,by simp;exact hz.1,?_⟩⟩
     exact .inr ⟨[0],[],_,_,[(4,.lr 0 1 0 r false),(5,.i .i64 (ofNat (jU P r)))],[some (.rows 38 1 r (recF m b))],rfl,by simp,st_k [0] (by kernel_rfl),.refl _,fin⟩
   · have hno:60-jU P r=0∨60-jU P r<P (jU P r)∨∃q,q<P (jU P r)∧¬RcOk (P (jU P r)) gen r (fun i=>G (jU P r+i)) (fun i=>N (jU P r+i)) (fun i=>I (jU P r+i)) (fun i=>P (jU P r+i)) q∧∀i,i<q→RcOk (P (jU P r)) gen r (fun i=>G (jU P r+i)) (fun i=>N (jU P r+i)) (fun i=>I (jU P r+i)) (fun i=>P (jU P r+i)) i:=by
      by_cases e1:60-jU P r=0
      · exact .inl e1
      by_cases e2:60-jU P r<P (jU P r)
      · exact .inr (.inl e2)
      refine .inr (.inr ?_)
      have e3:¬∀i,i<P (jU P r)→RcOk (P (jU P r)) gen r (fun i=>G (jU P r+i)) (fun i=>N (jU P r+i)) (fun i=>I (jU P r+i)) (fun i=>P (jU P r+i)) i:=fun h=>no ⟨by omega,by omega,h⟩
      -- the first that is not
      have key:∀j,j≤P (jU P r)→(∀i,i<j→RcOk (P (jU P r)) gen r (fun i=>G (jU P r+i)) (fun i=>N (jU P r+i)) (fun i=>I (jU P r+i)) (fun i=>P (jU P r+i)) i)∨∃q,q<P (jU P r)∧¬RcOk (P (jU P r)) gen r (fun i=>G (jU P r+i)) (fun i=>N (jU P r+i)) (fun i=>I (jU P r+i)) (fun i=>P (jU P r+i)) q∧∀i,i<q→RcOk (P (jU P r)) gen r (fun i=>G (jU P r+i)) (fun i=>N (jU P r+i)) (fun i=>I (jU P r+i)) (fun i=>P (jU P r+i)) i:=by
       intro j
       induction j with
       | zero=>exact fun _=>.inl fun i hi=>absurd hi (Nat.not_lt_zero _)
       | succ j ih=>
         intro hj
         rcases ih (by omega) with h | h
         · by_cases hq:RcOk (P (jU P r)) gen r (fun i=>G (jU P r+i)) (fun i=>N (jU P r+i)) (fun i=>I (jU P r+i)) (fun i=>P (jU P r+i)) j
           · exact .inl fun i hi=>by
              rcases Nat.lt_or_ge i j with h' | h'
              · exact h i h'
              · have:i=j:=by omega
                subst this;exact hq
           · exact .inr ⟨j,by omega,hq,h⟩
         · exact .inr h
      rcases key _ (Nat.le_refl _) with h | h
      · exact absurd h e3
      · exact h
     have w:Con PG 70 [.sv 5 (60-jU P r) (shiftF (jU P r) (ptF G N I P L D)),.i .i64 (ofNat gen),.i .i64 (ofNat r)] [] (.tup [.l0,.i .i64 0]) []:=by
      rw [hs]
      rcases hno with h | h | ⟨q,hq⟩
      · exact recNo_con _ gen r 0 _ _ _ _ _ _ (by omega) (fun i=>hL _) (.inl h)
      · exact recNo_con _ gen r 0 _ _ _ _ _ _ (by omega) (fun i=>hL _) (.inr (.inl h))
      · exact recNo_con _ gen r q _ _ _ _ _ _ (by omega) (fun i=>hL _) (.inr (.inr hq))
     refine ⟨Nat.zero_le _,1000000,_,(jnN_vc gen r (jU P r) (ptF G N I P L D) m b _).mpr ⟨r0,w,?_⟩⟩
     exact .inr ⟨[0],[],_,_,[(4,.lr 0 1 0 r false),(5,.i .i64 (ofNat (jU P r)))],[some (.rows 38 1 r (recF m b))],rfl,by simp,st_k [0] (by kernel_rfl),.refl _,fin⟩
theorem join_con (gen c:Nat) (G N I P L:Nat→Nat) (D:Nat→Nat→Nat) (hL:∀i,L i≤47) (st:∀r,r<c→StAt gen G N I P (jU P r) r) (no:¬StAt gen G N I P (jU P c) c) :
 Con PG 41 [.sv 5 60 (ptF G N I P L D),.i .i64 (ofNat gen)] [] (.tup [.sv 1 c (recF (jm P L) (jb P L D)),.i .i64 (ofNat (jU P c))]) [.gone]:=by
 have w:=(jn_lp gen c G N I P L D hL (fun _=>0) (fun _ _=>0) st no).weak (l0:=[(0,.sv 5 60 (ptF G N I P L D)),(1,.i .i64 (ofNat gen)),(6,.l0),(7,.i .i64 0)]) (objs0:=[]) ⟨rfl,.inl rfl,rfl,.inl rfl,rfl,.inr ⟨rfl,.inl ⟨0,1,0,false,rfl⟩⟩,rfl,.inl rfl,trivial⟩ (by intro o ho;simp at ho;subst ho;exact ⟨_,rfl,rfl⟩)
 have k0:Con PG 41 [.sv 5 60 (ptF G N I P L D),.i .i64 (ofNat gen)] [] (.tup [.lr 0 1 0 c false,.i .i64 (ofNat (jU P c))]) [.set (.rows 38 1 c (recF (jm P L) (jb P L D)))]:=
  con_of_run [] [0] ((join_vc c (jU P c) (jm P L) (jb P L D) gen (ptF G N I P L D) _).mpr ⟨w,_,_,rfl,ret_k (by kernel_rfl)⟩)
 exact (k0.freeze (us':=[.gone]) (v':=.tup [.sv 1 c (shiftF 0 (recF (jm P L) (jb P L D))),.i .i64 (ofNat (jU P c))]) 0 rfl ⟨rfl,trivial⟩ (.inr ⟨by kernel_rfl,⟨rfl,by omega⟩,trivial,trivial⟩))
theorem openJ_vc (s S2:SS) (E2:Int) (G A:Nat) (F:Nat→Nat→CV) (C U:Nat) (RF:Nat→Nat→CV) (h0:decide (ofNat s.n<122)=false) (h1:s.off=false) (h2:decide (E2=0)=true) (K:Res→Orc→Prop):runK PG 1000000 (.call 10 [.p 0 0] (mkH [some s.o])) (.c (.cal [0] (inv (SS.n s)) [.keep] (.f (.cal [0] (.b (SS.off s)) [.keep] (.f (.cal [0] (.tup [inv G,inv A,.i .i64 E2]) [.set (SS.o S2)] (.f (.cal [0] (.tup [.sv 5 60 F,.i .i64 0]) [.keep,.gone] (.c (.cal [] (.tup [.sv 1 C RF,inv U]) [.gone] .z)))))))))) K=(True∧Con PG 38 [.p 0 0] [some (SS.o s)] (inv (SS.n s)) [.keep]∧decide (ofNat (SS.n s)<122)=false∧Con PG 32 [.p 0 0] [some (SS.o s)] (.b (SS.off s)) [.keep]∧SS.off s=false∧Con PG 39 [.p 0 0] [some (SS.o s)] (.tup [inv G,inv A,.i .i64 E2]) [.set (SS.o S2)]∧(!decide (E2=0))=false∧Con PG 40 [.p 0 0,inv A] [some (SS.o S2)] (.tup [.sv 5 60 F,.i .i64 0]) [.keep,.gone]∧Con PG 41 [.sv 5 60 F,inv G] [] (.tup [.sv 1 C RF,inv U]) [.gone]∧rg (60-ofNat U)∧K (.rv (.tup [.p 3 0,.sv 1 C RF,.i .i64 0]) ⟨t1 (SS.o S2) (t0 (tl (.cells 86 6 [] (t1 (.p 0 0) (t1 (inv G) (tn C) (tl (.b false))) (t1 (inv A) (tl (.i .i64 (60-ofNat U))) .e)))) .e) (t0 .e .e),4,[3,2,1,0]⟩) .z):=by kernel_rfl
theorem openS_vc (s:SS) (h0:decide (ofNat s.n<122)=true) (K:Res→Orc→Prop):runK PG 1000000 (.call 10 [.p 0 0] (mkH [some s.o])) (.c (.cal [0] (inv (SS.n s)) [.keep] (.t .z))) K=(True∧Con PG 38 [.p 0 0] [some (SS.o s)] (inv (SS.n s)) [.keep]∧decide (ofNat (SS.n s)<122)=true∧K (.rv (.tup [.p0,.l0,.i .i64 12]) ⟨tl (SS.o s),1,[]⟩) .z):=by kernel_rfl
structure JS where
 gen:Nat
 area:Nat
 recs:Nat
 room:Int
 dead:Bool
def JS.o (j:JS):AObj:=cellsO 86 [.p 0 0,.i .i64 (ofNat j.gen),.i .i64 (ofNat j.area),.i .i64 (ofNat j.recs),.i .i64 j.room,.b j.dead]
def aG (s:SS) (a i:Nat):Nat:=stG (bB s (2+a*60+i))
def aN (s:SS) (a i:Nat):Nat:=stN (bB s (2+a*60+i))
def aI (s:SS) (a i:Nat):Nat:=stI (bB s (2+a*60+i))
def aP (s:SS) (a i:Nat):Nat:=stP (bB s (2+a*60+i))
def aL (s:SS) (a i:Nat):Nat:=stL (bB s (2+a*60+i))
def aD (s:SS) (a i t:Nat):Nat:=bB s (2+a*60+i) (11+t)
theorem prF_a (s:SS) (a:Nat):prF s a=ptF (aG s a) (aN s a) (aI s a) (aP s a) (aL s a) (aD s a):=prF_eq s a
theorem stL_le (b:Nat→Nat):stL b≤47:=by
 by_cases h:PtOk b
 · rw [stL_t h];exact h.size
 · unfold stL;rw [ptB_f h,cond_false];omega
structure Recs (s:SS) (a g c:Nat):Prop where
 st:∀r,r<c→StAt g (aG s a) (aN s a) (aI s a) (aP s a) (jU (aP s a) r) r
 no:¬StAt g (aG s a) (aN s a) (aI s a) (aP s a) (jU (aP s a) c) c
theorem recs_ex (s:SS) (a g:Nat):∃c,Recs s a g c:=by
 have key:∀j,(∃c,Recs s a g c)∨∀r,r<j→StAt g (aG s a) (aN s a) (aI s a) (aP s a) (jU (aP s a) r) r:=by
  intro j
  induction j with
  | zero=>exact .inr fun r hr=>absurd hr (Nat.not_lt_zero _)
  | succ j ih=>
    rcases ih with h | h
    · exact .inl h
    · by_cases hq:StAt g (aG s a) (aN s a) (aI s a) (aP s a) (jU (aP s a) j) j
      · exact .inr fun r hr=>by
         rcases Nat.lt_or_ge r j with h' | h'
         · exact h r h'
         · have:r=j:=by omega
           subst this;exact hq
      · exact .inl ⟨j,h,hq⟩
 rcases key 61 with h | h
 · exact h
 · have:=jU_le 61 h;omega
def opJ (s:SS) (a g c:Nat):JS:={ gen:=g,area:=a,recs:=c,room:=60-ofNat (jU (aP s a) c),dead:=false}
def opM (s:SS) (a:Nat):Nat→Nat:=jm (aP s a) (aL s a)
def opB (s:SS) (a:Nat):Nat→Nat→Nat:=jb (aP s a) (aL s a) (aD s a)
theorem openX_con (s S2:SS) (g a c:Nat) (hs:122≤s.n) (ho:s.off=false) (bg:Con PG 39 [.p 0 0] [some s.o] (.tup [.i .i64 (ofNat g),.i .i64 (ofNat a),.i .i64 0]) [.set S2.o])
 (h2:122≤S2.n) (h512:S2.n≤512) (on:S2.off=false) (hb:Byt S2) (ha:a≤1) (rc:Recs S2 a g c) :
 Con PG 10 [.p 0 0] [some s.o] (.tup [.p 1 0,.sv 1 c (recF (opM S2 a) (opB S2 a)),.i .i64 0]) [.set S2.o,.set (opJ S2 a g c).o]:=by
 have w:=look_con S2 a on h2 h512 hb ha
 have w2:=join_con g c (aG S2 a) (aN S2 a) (aI S2 a) (aP S2 a) (aL S2 a) (aD S2 a) (fun i=>stL_le _) rc.st rc.no
 have hu:=jU_le c rc.st
 rw [←prF_a] at w2
 have h0:decide (ofNat s.n<122)=false:=by simp;omega
 have r:(-9223372036854775808:Int)≤(60:Int)-ofNat (jU (aP S2 a) c)∧60-ofNat (jU (aP S2 a) c)≤9223372036854775807:=⟨by simp;omega,by simp;omega⟩
 exact con_of_run [] [3] ((openJ_vc s S2 0 g a (prF S2 a) c (jU (aP S2 a) c) (recF (opM S2 a) (opB S2 a)) h0 ho (by decide) _).mpr ⟨trivial,len2_con s,h0,off2_con s,ho,bg,by decide,w,w2,r,_,_,rfl,ret_k (by kernel_rfl)⟩)
theorem openS_con (s:SS) (hs:s.n<122):Con PG 10 [.p 0 0] [some s.o] (.tup [.p0,.l0,.i .i64 12]) [.keep]:=by
 have h0:decide (ofNat s.n<122)=true:=by simp;omega
 exact con_of_run [] [] ((openS_vc s h0 _).mpr ⟨trivial,len2_con s,h0,_,_,rfl,ret_k (by kernel_rfl)⟩)
def ftT (room:Int) (n i q:Nat) (m:Nat→Nat) (b:Nat→Nat→Nat):List (Nat×AV):=[(0,.i .i64 room),(6,.i .i64 (ofNat q)),(9,.sv 1 n (recF m b)),(10,.i .i64 (ofNat n)),(11,.i .i64 (ofNat i))]
theorem ftR_vc (N2:Nat) (room:Int) (n i q:Nat) (m:Nat→Nat) (b:Nat→Nat→Nat) (h0:decide (ofNat i<ofNat n)=true) (h1:decide (1128<ofNat (m i))=false) (K:Res→Orc→Prop):runK PG 1000000 (.code (loopAt PG 50 0) 27 (mkT (ftT room n i q m b)) (mkH [])) (.t (.f (.cal [] (inv N2) [] .z))) K=((fun (q1:Int)=>((fun (q0:AV)=>(decide (ofNat i<ofNat n)=true∧(0≤ofNat i∧ofNat i<↑n)∧True∧decide (1128<ofNat (m i))=false∧Con PG 76 [.sv 1 (m i) (byF (b (Int.toNat (ofNat i))))] [] (inv N2) []∧rg q1∧rg (ofNat i+1)∧K (.st .nrm (t1 (.i .i64 room) (t0 (t0 (t0 (tl q0) .e) (t1 (.i .i64 (ofNat i+1)) (tl q0) .e)) (t0 (t1 (.sv 1 n (recF m b)) (tl (.b (decide (1128<ofNat (m i))))) .e) (t1 (.pv 1 (recF m b i)) (tl (.i .i64 q1)) .e))) (t0 (t0 (t1 q0 (tn (m i)) .e) (t1 (.b (decide (ofNat i<ofNat n))) (tn N2) .e)) (t1 (.i .i64 q1) (t1 (inv n) (tn q) .e) (t1 q0 (tl (.i .i64 (ofNat i+1))) .e)))) ⟨.e,0,[]⟩) .z)) (.sv 1 (m i) (byF (b (Int.toNat (ofNat i))))))) (ofNat q+ofNat N2)):=by kernel_rfl
theorem ftB_vc (room:Int) (n i q:Nat) (m:Nat→Nat) (b:Nat→Nat→Nat) (h0:decide (ofNat i<ofNat n)=true) (h1:decide (1128<ofNat (m i))=true) (K :
 Res→Orc→Prop):runK PG 1000000 (.code (loopAt PG 50 0) 27 (mkT (ftT room n i q m b)) (mkH [])) (Orc.t (Orc.t Orc.z)) K=(decide (ofNat i<ofNat n) =
 true∧(0≤ofNat i∧ofNat i<↑n)∧True∧decide (1128<ofNat (m i))=true∧K (Res.st XO.ret (T.n (some (AV.i .i64 room)) (T.n none (T.n none (T.n none (T.n
 (some (AV.sv 1 (m i) (byF (b (Int.toNat (ofNat i)))))) T.e T.e) T.e) (T.n (some (AV.i .i64 (ofNat i))) T.e T.e)) (T.n (some (AV.i .i64 2)) (T.n (some (AV.sv 1 n (recF m
 b))) (T.n (some (AV.b (decide (1128<ofNat (m i))))) T.e T.e) T.e) (T.n (some (AV.pv 1 (recF m b i))) T.e T.e))) (T.n none (T.n (some (AV.i .i64 0)) (T.n (some (AV.sv 1 (m i)
 (byF (b (Int.toNat (ofNat i)))))) (T.n (some (AV.i .i64 (ofNat (m i)))) T.e T.e) T.e) (T.n (some (AV.b (decide (ofNat i<ofNat n)))) T.e T.e)) (T.n (some (AV.i
 .i64 (ofNat q))) (T.n (some (AV.i .i64 (ofNat n))) T.e T.e) (T.n (some (AV.sv 1 (m i) (byF (b (Int.toNat (ofNat i)))))) T.e T.e)))) ⟨T.e,0,[]⟩) Orc.z):=by
 kernel_rfl
theorem ftE_vc (room:Int) (n i q:Nat) (m:Nat→Nat) (b:Nat→Nat→Nat) (h0:decide (ofNat i<ofNat n)=false) (K:Res→Orc→Prop):runK PG 1000000 (.code (loopAt PG 50 0) 27 (mkT (ftT room n i q m b)) (mkH [])) (.f .z) K=(decide (ofNat i<ofNat n)=false∧K (.st (.exit 0) (t1 (.i .i64 room) (t0 (t0 .e (tn i)) (t0 (tl (.sv 1 n (recF m b))) .e)) (t0 (t0 .e (tl (.b (decide (ofNat i<ofNat n))))) (t1 (inv q) (tn n) .e))) ⟨.e,0,[]⟩) .z):=by kernel_rfl
theorem fitA_vc (S3:Nat) (room:Int) (n:Nat) (m:Nat→Nat) (b:Nat→Nat→Nat) (K:Res→Orc→Prop):runK PG 1000000 (.call 50 [.i .i64 room,.sv 1 n (recF m b)] (mkH [])) (.lop [] [0,6,9,10,11] 0 (.exit 0) [(0,.i .i64 room),(6,.i .i64 (ofNat S3))] [] (.s .z .z)) K=(LDoes PG (loopAt PG 50 0) 27 0 (mkT (ftT room n 0 0 m b)) [] (.exit 0) (mkT [(0,.i .i64 room),(6,.i .i64 (ofNat S3))]) []∧(decide (room<ofNat S3)=true→K (.rv (.tup [.i .i64 0,.i .i64 12]) ⟨.e,0,[]⟩) .z)∧(decide (room<ofNat S3)=false→K (.rv (.tup [inv S3,.i .i64 0]) ⟨.e,0,[]⟩) .z)):=by kernel_rfl
theorem fitX_vc (room:Int) (n:Nat) (m:Nat→Nat) (b:Nat→Nat→Nat) (K:Res→Orc→Prop):runK PG 1000000 (.call 50 [.i .i64 room,.sv 1 n (recF m b)] (mkH [])) (.lop [] [0,6,9,10,11] 0 .ret [(4,.i .i64 0),(5,.i .i64 2)] [] .z) K=(LDoes PG (loopAt PG 50 0) 27 0 (mkT (ftT room n 0 0 m b)) [] .ret (mkT [(4,.i .i64 0),(5,.i .i64 2)]) []∧K (.rv (.tup [.i .i64 0,.i .i64 2]) ⟨.e,0,[]⟩) .z):=by kernel_rfl
theorem sumP_snoc (m:Nat→Nat):∀(j i:Nat),sumP m (j+1) i=sumP m j i+npF (m (i+j))
 | 0,i=>by show npF (m i)+0=0+npF (m (i+0));rw [Nat.add_zero,Nat.zero_add,Nat.add_zero]
 | j+1,i=>by
   have ih:=sumP_snoc m j (i+1)
   show npF (m i)+sumP m (j+1) (i+1)=npF (m i)+sumP m j (i+1)+npF (m (i+(j+1)))
   rw [ih,show i+1+j=i+(j+1) by omega];omega
theorem npF_24 {m:Nat} (h:m≤1128):npF m≤24:=by unfold npF;split<;>omega
theorem sumP_24 {m:Nat→Nat}:∀(j:Nat),(∀i,i<j→m i≤1128)→sumP m j 0≤24*j
 | 0,_=>Nat.le_refl _
 | j+1,h=>by
   have ih:=sumP_24 j fun i hi=>h i (by omega)
   have:=npF_24 (h j (by omega))
   rw [sumP_snoc,Nat.zero_add];omega
theorem fitA_lp (room:Int) (n:Nat) (m:Nat→Nat) (b:Nat→Nat→Nat) (hn:n≤17592186044416) (ok:∀i,i<n→m i≤1128) :
 LDoes PG (loopAt PG 50 0) 27 0 (mkT (ftT room n 0 0 m b)) [] (.exit 0) (mkT [(0,.i .i64 room),(6,.i .i64 (ofNat (sumP m n 0)))]) []:=by
 refine loop_ind (D:=Nat) (l':=[(0,.i .i64 room),(6,.i .i64 (ofNat (sumP m n 0)))]) (fun i=>(ftT room n i (sumP m i 0) m b,[])) (fun i=>n-i) (fun i=>i≤n) ?_ 0 (Nat.zero_le _)
 intro i hi
 have hq:=sumP_24 i fun t ht=>ok t (by omega)
 by_cases hlt:i<n
 · have h0:decide (ofNat i<ofNat n)=true:=by simpa using hlt
   have hm:=ok i hlt
   have h1:decide ((1128:Int)<ofNat (m i))=false:=by simp;omega
   have h24:=npF_24 hm
   have w:=parts_con (m i) (b i) (by omega)
   have e:sumP m (i+1) 0=sumP m i 0+npF (m i):=by rw [sumP_snoc,Nat.zero_add]
   refine ⟨Nat.le_refl _,1000000,_,(ftR_vc (npF (m i)) room n i (sumP m i 0) m b h0 h1 _).mpr ⟨h0,⟨by simp,by simp;omega⟩,trivial,h1,w,⟨by simp<;>omega,by simp<;>omega⟩,⟨by simp<;>omega,by simp<;>omega⟩,.inl ⟨i+1,[],[],_,_,hlt,by simp only;omega,rfl,?_⟩⟩⟩
   simp only
   rw [e]
   exact st_k [] (by kernel_rfl)
 · have:i=n:=by omega
   subst this
   have h0:decide (ofNat i<ofNat i)=false:=by simp
   exact ⟨Nat.le_refl _,1000000,_,(ftE_vc room i i (sumP m i 0) m b h0 _).mpr ⟨h0,.inr ⟨[],[],_,_,rfl,by simp,st_k [] (by kernel_rfl)⟩⟩⟩
theorem fitX_lp (room:Int) (n k:Nat) (m:Nat→Nat) (b:Nat→Nat→Nat) (hn:n≤17592186044416) (hk:k<n) (bad:1128<m k) (ok:∀i,i<k→m i≤1128) :
 LDoes PG (loopAt PG 50 0) 27 0 (mkT (ftT room n 0 0 m b)) [] .ret (mkT [(4,.i .i64 0),(5,.i .i64 2)]) []:=by
 refine loop_ind (D:=Nat) (l':=[(4,.i .i64 0),(5,.i .i64 2)]) (fun i=>(ftT room n i (sumP m i 0) m b,[])) (fun i=>n-i) (fun i=>i≤k) ?_ 0 (Nat.zero_le _)
 intro i hi
 have hq:=sumP_24 i fun t ht=>ok t (by omega)
 have h0:decide (ofNat i<ofNat n)=true:=by simp;omega
 by_cases hlt:i<k
 · have hm:=ok i hlt
   have h1:decide ((1128:Int)<ofNat (m i))=false:=by simp;omega
   have h24:=npF_24 hm
   have w:=parts_con (m i) (b i) (by omega)
   have e:sumP m (i+1) 0=sumP m i 0+npF (m i):=by rw [sumP_snoc,Nat.zero_add]
   refine ⟨Nat.le_refl _,1000000,_,(ftR_vc (npF (m i)) room n i (sumP m i 0) m b h0 h1 _).mpr ⟨h0,⟨by simp,by simp;omega⟩,trivial,h1,w,⟨by simp<;>omega,by simp<;>omega⟩,⟨by simp<;>omega,by simp<;>omega⟩,.inl ⟨i+1,[],[],_,_,hlt,by simp only;omega,rfl,?_⟩⟩⟩
   simp only
   rw [e]
   exact st_k [] (by kernel_rfl)
 · have:i=k:=by omega
   subst this
   have h1:decide ((1128:Int)<ofNat (m i))=true:=by simp;omega
   exact ⟨Nat.le_refl _,1000000,_,(ftB_vc room n i (sumP m i 0) m b h0 h1 _).mpr ⟨h0,⟨by simp,by simp;omega⟩,trivial,h1,.inr ⟨[],[],_,_,rfl,by simp,st_k [] (by kernel_rfl)⟩⟩⟩
theorem fitOk_con (room:Int) (n:Nat) (m:Nat→Nat) (b:Nat→Nat→Nat) (hn:n≤17592186044416) (ok:∀i,i<n→m i≤1128) (hr:ofNat (sumP m n 0)≤room) :
 Con PG 50 [.i .i64 room,.sv 1 n (recF m b)] [] (.tup [.i .i64 (ofNat (sumP m n 0)),.i .i64 0]) []:=by
 have h:decide (room<ofNat (sumP m n 0))=false:=decide_eq_false (by omega)
 exact con_of_run [] [] ((fitA_vc (sumP m n 0) room n m b _).mpr ⟨fitA_lp room n m b hn ok,fun h'=>(by rw [h] at h';cases h'),fun _=>⟨_,_,rfl,ret_k (by kernel_rfl)⟩⟩)
theorem fitSpace_con (room:Int) (n:Nat) (m:Nat→Nat) (b:Nat→Nat→Nat) (hn:n≤17592186044416) (ok:∀i,i<n→m i≤1128) (hr:room<ofNat (sumP m n 0)) :
 Con PG 50 [.i .i64 room,.sv 1 n (recF m b)] [] (.tup [.i .i64 0,.i .i64 12]) []:=by
 have h:decide (room<ofNat (sumP m n 0))=true:=decide_eq_true hr
 exact con_of_run [] [] ((fitA_vc (sumP m n 0) room n m b _).mpr ⟨fitA_lp room n m b hn ok,fun _=>⟨_,_,rfl,ret_k (by kernel_rfl)⟩,fun h'=>(by rw [h] at h';cases h')⟩)
theorem fitRange_con (room:Int) (n k:Nat) (m:Nat→Nat) (b:Nat→Nat→Nat) (hn:n≤17592186044416) (hk:k<n) (bad:1128<m k) (ok:∀i,i<k→m i≤1128) :
 Con PG 50 [.i .i64 room,.sv 1 n (recF m b)] [] (.tup [.i .i64 0,.i .i64 2]) []:=
 con_of_run [] [] ((fitX_vc room n m b _).mpr ⟨fitX_lp room n k m b hn hk bad ok,_,_,rfl,ret_k (by kernel_rfl)⟩)
def litL (L:Nat) (bs:Nat→Nat):Nat→Nat→CV:=listF 1 [.sv 1 L (byF bs)] 1
theorem fit1_con (room:Int) (L:Nat) (bs:Nat→Nat) (v:AV) (h0:ren (nameIn [] 1) v=v) (h:Con PG 50 [.i .i64 room,.sv 1 1 (recF (fun _=>L) fun _=>bs)] [] v []) :
 Con PG 50 [.i .i64 room,.l 0 0 1 1 1 true] [some (cellsO 38 [.sv 1 L (byF bs)])] v [.gone]:=by
 have k1:Con PG 50 [.i .i64 room,.sv 1 1 (litL L bs)] [] v []:=h.pre ⟨.refl _,.sv fun i j hi hj=>by
  obtain rfl:j=0:=by omega
  exact Eq.refl _,trivial⟩
 have k2:=k1.slot (by kernel_rfl) (by kernel_rfl) h0
 exact k2.thawZ (us0:=[.gone]) 0 (z:=.cells 1 [.sv 1 L (byF bs)]) (by kernel_rfl) ⟨rfl,trivial⟩ ⟨.inl rfl,.inr ⟨by kernel_rfl,by show 0+1*1≤1;decide,rfl⟩,trivial⟩ rfl
theorem commit2_con (gen first mm L:Nat) (bs:Nat→Nat) (s:SS) (a:Nat) (ok:OkM s mm) (hb:∀t,bs t<256) (hn:first+1<4611686018427387904) (hm:mm+npF L<1073741823) (ha:a+npF L≤s.n) :
 Con PG 53 [.p 0 0,.i .i64 (ofNat a),cutV] [some s.o,some (cellsO 27 [.l 4 0 1 1 1 true]),some (cellsO 3 [.i .i64 (ofNat gen)]),some (cellsO 3 [.i .i64 (ofNat first)]),some (cellsO 38 [.sv 1 L (byF bs)])]
  (.i .i64 (cmtE gen first 1 (fun _=>L) (fun _=>bs) s a)) [.set (cmtS gen first 1 (fun _=>L) (fun _=>bs) s a).o,.set (cellsO 27 [.sv 1 1 (recF (fun _=>L) fun _=>bs)]),.keep,.keep,.gone]:=by
 have e1:sumP (fun _=>L) 1 0=npF L:=by
  show npF L+sumP (fun _=>L) 0 1=npF L
  show npF L+0=npF L
  rw [Nat.add_zero]
 have k0:=commit_con gen first 1 mm (fun _=>L) (fun _=>bs) s a ok (fun _=>hb) hn (by rw [e1];exact hm) (by rw [e1];exact ha)
 generalize cmtE gen first 1 (fun _=>L) (fun _=>bs) s a=E at k0⊢
 generalize cmtS gen first 1 (fun _=>L) (fun _=>bs) s a=S at k0⊢
 have k1:Con PG 53 [.p 0 0,.i .i64 (ofNat a),cutV] [some s.o,some (cellsO 27 [.sv 1 1 (recF (fun _=>L) fun _=>bs)]),some (cellsO 3 [.i .i64 (ofNat gen)]),some (cellsO 3 [.i .i64 (ofNat first)]),none]
  (.i .i64 E) [.set S.o,.keep,.keep,.keep,.gone]:=
  k0.more [0,1,2,3] (by kernel_rfl) (hasAll_of (by kernel_rfl) (by kernel_rfl)) (by kernel_rfl) (by kernel_rfl) (by kernel_rfl) (by kernel_rfl)
 have k2:Con PG 53 [.p 0 0,.i .i64 (ofNat a),cutV] [some s.o,some (cellsO 27 [.sv 1 1 (litL L bs)]),some (cellsO 3 [.i .i64 (ofNat gen)]),some (cellsO 3 [.i .i64 (ofNat first)]),none]
  (.i .i64 E) [.set S.o,.set (cellsO 27 [.sv 1 1 (recF (fun _=>L) fun _=>bs)]),.keep,.keep,.gone]:=by
  refine k1.ovl ⟨.refl _,.cells ⟨.sv fun i j hi hj=>?_,trivial⟩,.refl _,.refl _,.refl _,trivial⟩ rfl
  obtain rfl:j=0:=by omega
  exact Eq.refl _
 exact k2.thawZ 4 (z:=.cells 1 [.sv 1 L (byF bs)]) (by kernel_rfl) ⟨.inl rfl,.cells ⟨.inr ⟨by kernel_rfl,by show 0+1*1≤1;decide,rfl⟩,trivial⟩,.inl rfl,.inl rfl,rfl,trivial⟩ ⟨.inl rfl,.inl rfl,.inl rfl,trivial⟩ rfl
theorem apA_vc (s:SS) (j:JS) (S2:SS) (E2 E1 N1:Int) (F2:Nat→Nat→CV) (L:Nat) (bs:Nat→Nat) (h0:j.dead=false) (h1:decide (E1=0)=true) (h2:decide (E2=0)=true) (K:Res→Orc→Prop):runK PG 1000000 (.call 24 [.p 1 0,.sv 1 L (byF bs)] (mkH [some s.o,some j.o])) (.inl (.c (.f (.c (.cal [2] (.tup [.i .i64 N1,.i .i64 E1]) [.gone] (.f (.inl (.inl (.cal [0,6,4,5,3] (.i .i64 E2) [.set (SS.o S2),.set (cellsO 27 [.sv 1 1 F2]),.keep,.keep,.gone] (.f .z)))))))))) K=(True∧True∧JS.dead j=false∧True∧Con PG 50 [.i .i64 (JS.room j),.l 0 0 1 1 1 true] [some (cellsO 38 [.sv 1 L (byF bs)])] (.tup [.i .i64 N1,.i .i64 E1]) [.gone]∧(!decide (E1=0))=false∧True∧rg (ofNat (JS.area j)*60)∧rg (2+ofNat (JS.area j)*60)∧rg (2+ofNat (JS.area j)*60+60)∧True∧rg (2+ofNat (JS.area j)*60+60-JS.room j)∧True∧True∧True∧Con PG 53 [.p 0 0,.i .i64 (2+ofNat (JS.area j)*(60:Int)+(60:Int)-JS.room j),cutV] [some (SS.o s),some (cellsO 27 [.l 4 0 1 1 1 true]),some (cellsO 3 [inv (JS.gen j)]),some (cellsO 3 [inv (JS.recs j)]),some (cellsO 38 [.sv 1 L (byF bs)])] (.i .i64 E2) [.set (SS.o S2),.set (cellsO 27 [.sv 1 1 F2]),.keep,.keep,.gone]∧(!decide (E2=0))=false∧True∧rg (ofNat (JS.recs j)+1)∧True∧True∧rg (JS.room j-N1)∧True∧K (.rv (.i .i64 0) ⟨t1 (SS.o S2) (t1 (.cells 86 6 [] (t1 (.p 0 0) (t1 (inv (JS.gen j)) (tl (.i .i64 (ofNat (JS.recs j)+1)))
 (tl (.b (JS.dead j)))) (t1 (inv (JS.area j)) (tl (.i .i64 (JS.room j-N1))) .e))) (t0 .e .e) (tl (.cells 3 1 [] (tn (JS.recs j))))) (t0 (tl (.cells 3 1 [] (tn (JS.gen j)))) (tl (.cells 27 1 [] (tl (.sv 1 1 F2))))),7,[1,1,3,6,0,6,5,4,3,2,2]⟩) .z):=by kernel_rfl
theorem apB_vc (s:SS) (j:JS) (S2:SS) (E2 E1 N1:Int) (F2:Nat→Nat→CV) (L:Nat) (bs:Nat→Nat) (h0:j.dead=false) (h1:decide (E1=0)=true) (h2:decide (E2=0)=false) (K:Res→Orc→Prop):runK PG 1000000 (.call 24 [.p 1 0,.sv 1 L (byF bs)] (mkH [some s.o,some j.o])) (.inl (.c (.f (.c (.cal [2] (.tup [.i .i64 N1,.i .i64 E1]) [.gone] (.f (.inl (.inl (.cal [0,6,4,5,3] (.i .i64 E2) [.set (SS.o S2),.set (cellsO 27 [.sv 1 1 F2]),.keep,.keep,.gone] (.t (.inl .z))))))))))) K=(True∧True∧JS.dead j=false∧True∧Con PG 50 [.i .i64 (JS.room j),.l 0 0 1 1 1 true] [some (cellsO 38 [.sv 1 L (byF bs)])] (.tup [.i .i64 N1,.i .i64 E1]) [.gone]∧(!decide (E1=0))=false∧True∧rg (ofNat (JS.area j)*60)∧rg (2+ofNat (JS.area j)*60)∧rg (2+ofNat (JS.area j)*60+60)∧True∧rg (2+ofNat (JS.area j)*60+60-JS.room j)∧True∧True∧True∧Con PG 53 [.p 0 0,.i .i64 (2+ofNat (JS.area j)*(60:Int)+(60:Int)-JS.room j),cutV] [some (SS.o s),some (cellsO 27 [.l 4 0 1 1 1 true]),some (cellsO 3 [inv (JS.gen j)]),some (cellsO 3 [inv (JS.recs j)]),some (cellsO 38 [.sv 1 L (byF bs)])] (.i .i64 E2) [.set (SS.o S2),.set (cellsO 27 [.sv 1 1 F2]),.keep,.keep,.gone]∧(!decide (E2=0))=true∧True∧K (.rv (.i .i64 13) ⟨t1 (SS.o S2) (t1 (.cells 86 6 [] (t1 (.p 0 0) (t1 (inv (JS.gen j)) (tn (JS.recs j)) tb) (t1 (inv (JS.area j)) (tl (.i .i64 (JS.room j))) .e))) (t0 .e .e) (tl (.cells 3 1 [] (tn
 (JS.recs j))))) (t0 (tl (.cells 3 1 [] (tn (JS.gen j)))) (tl (.cells 27 1 [] (tl (.sv 1 1 F2))))),7,[1,3,6,0,6,5,4,3,2,2]⟩) .z):=by kernel_rfl
theorem apC_vc (s:SS) (j:JS) (E1 N1:Int) (L:Nat) (bs:Nat→Nat) (h0:j.dead=false) (h1:decide (E1=0)=false) (K:Res→Orc→Prop):runK PG 1000000 (.call 24 [.p 1 0,.sv 1 L (byF bs)] (mkH [some s.o,some j.o])) (.inl (.c (.f (.c (.cal [2] (.tup [.i .i64 N1,.i .i64 E1]) [.gone] (.t .z)))))) K=(True∧True∧JS.dead j=false∧True∧Con PG 50 [.i .i64 (JS.room j),.l 0 0 1 1 1 true] [some (cellsO 38 [.sv 1 L (byF bs)])] (.tup [.i .i64 N1,.i .i64 E1]) [.gone]∧(!decide (E1=0))=true∧K (.rv (.i .i64 E1) ⟨t1 (SS.o s) (tl (JS.o j)) (t0 .e .e),3,[2,2]⟩) .z):=by kernel_rfl
theorem sumP1 (L:Nat):sumP (fun _=>L) 1 0=npF L:=by
 show npF L+0=npF L
 rw [Nat.add_zero]
def apQ (j:JS) (rm:Nat):Nat:=2+j.area*60+(60-rm)
def apE (j:JS) (rm:Nat) (s:SS) (L:Nat) (bs:Nat→Nat):Int:=cmtE j.gen j.recs 1 (fun _=>L) (fun _=>bs) s (apQ j rm)
def apS (j:JS) (rm:Nat) (s:SS) (L:Nat) (bs:Nat→Nat):SS:=cmtS j.gen j.recs 1 (fun _=>L) (fun _=>bs) s (apQ j rm)
theorem append_con (j:JS) (rm:Nat) (s:SS) (L mm:Nat) (bs:Nat→Nat) (hd:j.dead=false) (hr:j.room=ofNat rm) (h60:rm≤60) (ha:j.area≤1) (hrec:j.recs≤4294967296) (ok:OkM s mm) (hm:mm+npF L<1073741823) (hn:122≤s.n) (hb:∀t,bs t<256) (hL:L≤1128) (hf:npF L≤rm) :
 Con PG 24 [.p 1 0,.sv 1 L (byF bs)] [some s.o,some j.o] (.i .i64 (bif decide (apE j rm s L bs=0) then 0 else 13))
  [.set (apS j rm s L bs).o,.set (bif decide (apE j rm s L bs=0) then ({ j with recs:=j.recs+1,room:=j.room-ofNat (npF L)}:JS).o else ({ j with dead:=true}:JS).o)]:=by
 have w1:Con PG 50 [.i .i64 j.room,.l 0 0 1 1 1 true] [some (cellsO 38 [.sv 1 L (byF bs)])] (.tup [.i .i64 (ofNat (npF L)),.i .i64 0]) [.gone]:=by
  have h:=fitOk_con j.room 1 (fun _=>L) (fun _=>bs) (by decide) (fun _ _=>hL) (by rw [sumP1,hr];simp;omega)
  rw [sumP1] at h
  exact fit1_con j.room L bs _ (by kernel_rfl) h
 have w2:=commit2_con j.gen j.recs mm L bs s (apQ j rm) ok hb (by omega) hm (by unfold apQ;omega)
 have eQ:(2:Int)+ofNat j.area*60+60-j.room=ofNat (apQ j rm):=by rw [hr];unfold apQ;simp;omega
 have r1:(-9223372036854775808:Int)≤ofNat j.area*60∧ofNat j.area*(60:Int)≤(9223372036854775807:Int):=⟨by simp<;>omega,by simp<;>omega⟩
 have r2:(-9223372036854775808:Int)≤(2:Int)+ofNat j.area*60∧2+ofNat j.area*(60:Int)≤(9223372036854775807:Int):=⟨by simp<;>omega,by simp<;>omega⟩
 have r3:(-9223372036854775808:Int)≤(2:Int)+ofNat j.area*(60:Int)+(60:Int)∧2+ofNat j.area*(60:Int)+(60:Int)≤9223372036854775807:=⟨by simp<;>omega,by simp<;>omega⟩
 have r4:(-9223372036854775808:Int)≤(2:Int)+ofNat j.area*(60:Int)+(60:Int)-j.room∧2+ofNat j.area*(60:Int)+(60:Int)-j.room≤9223372036854775807:=by rw [hr];exact ⟨by simp<;>omega,by simp<;>omega⟩
 have r5:(-9223372036854775808:Int)≤ofNat j.recs+1∧ofNat j.recs+(1:Int)≤(9223372036854775807:Int):=⟨by simp<;>omega,by simp<;>omega⟩
 have r6:(-9223372036854775808:Int)≤j.room-ofNat (npF L)∧j.room-ofNat (npF L)≤9223372036854775807:=by rw [hr];exact ⟨by simp<;>omega,by simp<;>omega⟩
 have w3:Con PG 53 [.p 0 0,.i .i64 ((2:Int)+ofNat j.area*60+60-j.room),cutV] [some s.o,some (cellsO 27 [.l 4 0 1 1 1 true]),some (cellsO 3 [.i .i64 (ofNat j.gen)]),some (cellsO 3 [.i .i64 (ofNat j.recs)]),some (cellsO 38 [.sv 1 L (byF bs)])]
  (.i .i64 (apE j rm s L bs)) [.set (apS j rm s L bs).o,.set (cellsO 27 [.sv 1 1 (recF (fun _=>L) fun _=>bs)]),.keep,.keep,.gone]:=by rw [eQ];exact w2
 generalize apE j rm s L bs=E at w3⊢
 generalize apS j rm s L bs=S at w3⊢
 by_cases hE:E=0
 · have d:decide (E=0)=true:=decide_eq_true hE
   rw [d,cond_true,cond_true]
   exact con_of_run [] [] ((apA_vc s j S E 0 (ofNat (npF L)) (recF (fun _=>L) fun _=>bs) L bs hd (by decide) d _).mpr ⟨trivial,trivial,hd,trivial,w1,by decide,trivial,r1,r2,r3,trivial,r4,trivial,trivial,trivial,w3,nf d,trivial,r5,trivial,trivial,r6,trivial,_,_,rfl,ret_k (by kernel_rfl)⟩)
 · have d:decide (E=0)=false:=decide_eq_false hE
   rw [d,cond_false,cond_false]
   exact con_of_run [] [] ((apB_vc s j S E 0 (ofNat (npF L)) (recF (fun _=>L) fun _=>bs) L bs hd (by decide) d _).mpr ⟨trivial,trivial,hd,trivial,w1,by decide,trivial,r1,r2,r3,trivial,r4,trivial,trivial,trivial,w3,nt d,trivial,_,_,rfl,ret_k (by kernel_rfl)⟩)
theorem appendX_con (j:JS) (s:SS) (L:Nat) (bs:Nat→Nat) (e:Int) (he:e≠0) (hd:j.dead=false) (h:Con PG 50 [.i .i64 j.room,.sv 1 1 (recF (fun _=>L) fun _=>bs)] [] (.tup [.i .i64 0,.i .i64 e]) []) :
 Con PG 24 [.p 1 0,.sv 1 L (byF bs)] [some s.o,some j.o] (.i .i64 e) [.keep,.keep]:=by
 have w1:=fit1_con j.room L bs _ (by kernel_rfl) h
 have d:decide (e=0)=false:=decide_eq_false he
 exact con_of_run [] [] ((apC_vc s j e 0 L bs hd d _).mpr (by repeat' first | exact trivial | refine And.intro ?_ ?_ | assumption | exact nt (by assumption) | exact nf (by assumption) | exact nnt (by assumption) | exact nnf (by assumption) | (decide;done) | exact ⟨_,_,rfl,ret_k (by kernel_rfl)⟩))
theorem appendRange_con (j:JS) (s:SS) (L:Nat) (bs:Nat→Nat) (hd:j.dead=false) (hL:1128<L):Con PG 24 [.p 1 0,.sv 1 L (byF bs)] [some s.o,some j.o] (.i .i64 2) [.keep,.keep]:=
 appendX_con j s L bs 2 (by decide) hd (fitRange_con j.room 1 0 _ _ (by decide) (by decide) hL (fun i hi=>absurd hi (Nat.not_lt_zero _)))
theorem appendSpace_con (j:JS) (s:SS) (L:Nat) (bs:Nat→Nat) (hd:j.dead=false) (hL:L≤1128) (hf:j.room<ofNat (npF L)):Con PG 24 [.p 1 0,.sv 1 L (byF bs)] [some s.o,some j.o] (.i .i64 12) [.keep,.keep]:=
 appendX_con j s L bs 12 (by decide) hd (fitSpace_con j.room 1 _ _ (by decide) (fun _ _=>hL) (by rw [sumP1];exact hf))
def nxT (g i:Nat) (F:Nat→Nat→CV):List (Nat×AV):=[(0,.p 1 0),(6,.i .i64 (ofNat g)),(33,.sv 5 60 F),(34,.i .i64 60),(35,.i .i64 (ofNat i))]
theorem nxR_vc (s:SS) (j:JS) (g i:Nat) (G N I P L:Nat→Nat) (D:Nat→Nat→Nat) (h0:decide (ofNat i<60)=true) (K:Res→Orc→Prop):runK PG 1000000 (.code (loopAt PG 51 0) 59 (mkT (nxT g i (ptF G N I P L D))) (mkH [some s.o,some j.o])) (.t .z) K=((fun (q0:AV)=>(decide (ofNat i<60)=true∧(0≤ofNat i∧ofNat i<60)∧True∧True∧rg (ofNat i+1)∧K (.st .nrm (t1 (.p 1 0) (t0 (t0 (t0 .e (t0 (tn g) .e)) (t0 (t0 (tl (.i .i64 (ofNat i+1))) .e) (t0 (tl (.i .i64 (ofNat i+1))) .e))) (t0 (t0 (t0 (tl (.sv 5 60 (ptF G N I P L D))) .e) (t0 (tn (G i)) .e)) (t0 (t0 (tl (.pv 5 (ptF G N I P L D i))) .e) .e))) (t0 (t0 (t1 (.p 2 0) .e (t0 (tl (.p 2 0)) .e)) (t0 (t0 (tl (.b (decide (ofNat i<60)))) .e) .e)) (t1 q0 (t0 (t0 (tl (.i .i64 60)) .e) (t0 (tl q0) .e)) (t0 (t0 (tl (.agg [inv (G i),inv (N i),inv (I i),inv (P i),.sv 1 (L i) (byF (D (Int.toNat (ofNat i))))])) .e) .e)))) ⟨t1 (SS.o s) (tl (JS.o j)) (tl (.cells 121 5 [.i .i64 0,.i .i64 0,.i .i64 0,.i .i64 0,.l0] (t1 (inv (G i)) (t1 (inv (N i)) (tn (P i)) .e) (t1 (inv (I i)) (tl (.sv 1 (L i) (byF (D (Int.toNat (ofNat i)))))) .e)))),3,[2,2]⟩) .z)) (.i .i64 (if ofNat (G i)>ofNat g then ofNat (G i) else ofNat g))):=by kernel_rfl
theorem nxE_vc (s:SS) (j:JS) (g i:Nat) (F:Nat→Nat→CV) (h0:decide (ofNat i<60)=false) (K:Res→Orc→Prop):runK PG 1000000 (.code (loopAt PG 51 0) 59 (mkT (nxT g i F)) (mkH [some s.o,some j.o])) (.f .z) K=(decide (ofNat i<60)=false∧K (.st (.exit 0) (t1 (.p 1 0) (t0 (t0 .e (t0 (t0 (tn i) .e) .e)) (t0 (t0 (t0 (tl (.sv 5 60 F)) .e) .e) .e)) (t0 (t0 .e (t0 (t0 (tl (.b (decide (ofNat i<60)))) .e) .e)) (t1 (inv g) (t0 (t0 (tl (.i .i64 60)) .e) .e) .e))) ⟨t1 (SS.o s) (tl (JS.o j)) .e,2,[]⟩) .z):=by kernel_rfl
theorem nx_vc (s:SS) (j:JS) (F:Nat→Nat→CV) (M:Nat) (h0:decide (1073741824≤ofNat j.gen)=false) (K:Res→Orc→Prop):runK PG 1000000 (.call 51 [.p 1 0] (mkH [some s.o,some j.o])) (.f (.inl (.cal [0] (.tup [.sv 5 60 F,.i .i64 0]) [.keep,.gone] (.c (.lop [0,1] [0,6,33,34,35] 2 (.exit 0) [(0,.p 1 0),(6,.i .i64 (ofNat M))] [some (SS.o s),some (JS.o j)] (.s (.s .z .z) (.s .z .z))))))) K=(True∧decide (1073741824≤ofNat (JS.gen j))=false∧True∧True∧rg (1-ofNat (JS.area j))∧Con PG 40 [.p 0 0,.i .i64 (1-ofNat (JS.area j))] [some (SS.o s)] (.tup [.sv 5 60 F,.i .i64 0]) [.keep,.gone]∧True∧LDoes PG (loopAt PG 51 0) 59 2 (mkT (nxT (JS.gen j) 0 F)) [some (SS.o s),some (JS.o j)] (.exit 0) (mkT [(0,.p 1 0),(6,.i .i64 (ofNat M))]) [some (SS.o s),some (JS.o j)]∧rg (ofNat M+1)∧(2:Int)≠(0:Int)∧True∧(2:Int)≠(0:Int)∧(decide (Int.tmod (ofNat M+1) 2=Int.tmod (ofNat (JS.gen j)) 2)=true→rg (ofNat M+1+1)∧(decide (1073741824<ofNat M+(1:Int)+(1:Int))=true→K (.rv (.tup [.i .i64 0,.i .i64 15]) ⟨t1 (SS.o s) (tl (JS.o j)) (t0 .e .e),3,[1,0,2]⟩) .z)∧(decide (1073741824<ofNat M+(1:Int)+(1:Int))=false→K (.rv (.tup [.i .i64 (ofNat M+(1:Int)+(1:Int)),.i .i64 0]) ⟨t1 (SS.o s) (tl (JS.o j)) (t0 .e .e),3,[1,0,2]⟩) .z))∧(decide (Int.tmod (ofNat M+1) 2=Int.tmod (ofNat (JS.gen j)) 2)=false→(decide
 (1073741824<ofNat M+1)=true→K (.rv (.tup [.i .i64 0,.i .i64 15]) ⟨t1 (SS.o s) (tl (JS.o j)) (t0 .e .e),3,[1,0,2]⟩) .z)∧(decide (1073741824<ofNat M+1)=false→K (.rv (.tup [.i .i64 (ofNat M+1),.i .i64 0]) ⟨t1 (SS.o s) (tl (JS.o j)) (t0 .e .e),3,[1,0,2]⟩) .z))):=by kernel_rfl
theorem nxW_vc (s:SS) (j:JS) (h0:decide (1073741824≤ofNat j.gen)=true) (K:Res→Orc→Prop):runK PG 1000000 (.call 51 [.p 1 0] (mkH [some s.o,some j.o])) (.t .z) K=(True∧decide (1073741824≤ofNat (JS.gen j))=true∧K (.rv (.tup [.i .i64 0,.i .i64 15]) ⟨t1 (SS.o s) (tl (JS.o j)) .e,2,[]⟩) .z):=by kernel_rfl
def mxG (G:Nat→Nat) (g:Nat):Nat→Nat
 | 0=>g
 | i+1=>if G i>mxG G g i then G i else mxG G g i
theorem mxG_le {G:Nat→Nat} {g B:Nat} (hg:g≤B) (hG:∀i,G i≤B):∀i,mxG G g i≤B
 | 0=>hg
 | i+1=>by
   have:=mxG_le hg hG i
   show (if G i>mxG G g i then G i else mxG G g i)≤B
   split
   · exact hG i
   · exact this
theorem nx_lp (s:SS) (j:JS) (g:Nat) (G N I P L:Nat→Nat) (D:Nat→Nat→Nat) :
 LDoes PG (loopAt PG 51 0) 59 2 (mkT (nxT g 0 (ptF G N I P L D))) [some s.o,some j.o] (.exit 0) (mkT [(0,.p 1 0),(6,.i .i64 (ofNat (mxG G g 60)))]) [some s.o,some j.o]:=by
 refine loop_ind (D:=Nat) (l':=[(0,.p 1 0),(6,.i .i64 (ofNat (mxG G g 60)))]) (fun i=>(nxT (mxG G g i) i (ptF G N I P L D),[some s.o,some j.o])) (fun i=>60-i) (fun i=>i≤60) ?_ 0 (Nat.zero_le _)
 intro i hi
 by_cases hlt:i<60
 · have h0:decide (ofNat i<60)=true:=by simp;omega
   have e:(if ofNat (G i)>ofNat (mxG G g i) then ofNat (G i) else ofNat (mxG G g i))=ofNat (mxG G g (i+1)):=by
    show _=ofNat (if G i>mxG G g i then G i else mxG G g i)
    by_cases c:G i>mxG G g i
    · rw [if_pos c,if_pos (by simp;omega)]
    · rw [if_neg c,if_neg (by simp;omega)]
   refine ⟨by simp,1000000,_,(nxR_vc s j (mxG G g i) i G N I P L D h0 _).mpr ⟨h0,⟨by simp,by simp;omega⟩,trivial,trivial,⟨by simp<;>omega,by simp<;>omega⟩,?_⟩⟩
   rw [e]
   exact .inl ⟨i+1,[0,1],[],_,_,hlt,by simp only;omega,rfl,st_k [0,1] (by kernel_rfl)⟩
 · have:i=60:=by omega
   subst this
   have h0:decide (ofNat 60<60)=false:=by decide
   exact ⟨by simp,1000000,_,(nxE_vc s j (mxG G g 60) 60 (ptF G N I P L D) h0 _).mpr ⟨h0,.inr ⟨[0,1],[],_,_,rfl,by simp,st_k [0,1] (by kernel_rfl)⟩⟩⟩
def nxG (s:SS) (j:JS):Nat:=mxG (aG s (1-j.area)) j.gen 60
def nxV (s:SS) (j:JS):Nat:=bif Nat.beq ((nxG s j+1) % 2) (j.gen % 2) then nxG s j+1+1 else nxG s j+1
theorem next_con (s:SS) (j:JS) (hg:j.gen<1073741824) (ha:j.area≤1) (on:s.off=false) (hn:122≤s.n) (h512:s.n≤512) (hb:Byt s) :
 Con PG 51 [.p 1 0] [some s.o,some j.o] (bif Nat.ble (nxV s j) 1073741824 then .tup [.i .i64 (ofNat (nxV s j)),.i .i64 0] else .tup [.i .i64 0,.i .i64 15]) [.keep,.keep]:=by
 have h0:decide (1073741824≤ofNat j.gen)=false:=decide_eq_false (by simp;omega)
 have eA:(1:Int)-ofNat j.area=ofNat (1-j.area):=by simp;omega
 have w1:Con PG 40 [.p 0 0,.i .i64 ((1:Int)-ofNat j.area)] [some s.o] (.tup [.sv 5 60 (prF s (1-j.area)),.i .i64 0]) [.keep,.gone]:=by
  rw [eA];exact look_con s (1-j.area) on hn h512 hb (by omega)
 have w2:=nx_lp s j j.gen (aG s (1-j.area)) (aN s (1-j.area)) (aI s (1-j.area)) (aP s (1-j.area)) (aL s (1-j.area)) (aD s (1-j.area))
 rw [←prF_a] at w2
 have hM:nxG s j≤4294967296:=mxG_le (by omega) (fun i=>stG_le _) 60
 have r0:(-9223372036854775808:Int)≤(1:Int)-ofNat j.area∧1-ofNat j.area≤9223372036854775807:=⟨by simp<;>omega,by simp<;>omega⟩
 have w2':LDoes PG (loopAt PG 51 0) 59 2 (mkT (nxT j.gen 0 (prF s (1-j.area)))) [some s.o,some j.o] (.exit 0) (mkT [(0,.p 1 0),(6,.i .i64 (ofNat (nxG s j)))]) [some s.o,some j.o]:=w2
 unfold nxV
 generalize nxG s j=M at hM w2'⊢
 have r1:(-9223372036854775808:Int)≤ofNat M+1∧ofNat M+(1:Int)≤(9223372036854775807:Int):=⟨by simp<;>omega,by simp<;>omega⟩
 have r2:(-9223372036854775808:Int)≤ofNat M+(1:Int)+(1:Int)∧ofNat M+(1:Int)+(1:Int)≤9223372036854775807:=⟨by simp<;>omega,by simp<;>omega⟩
 have d:decide (Int.tmod (ofNat M+1) 2=Int.tmod (ofNat j.gen) 2)=Nat.beq ((M+1) % 2) (j.gen % 2):=deq ((M+1) % 2) (j.gen % 2)
 have e1:ofNat M+(1:Int)=ofNat (M+1):=rfl
 have e2:ofNat M+(1:Int)+(1:Int)=ofNat (M+1+1):=rfl
 have z:(2:Int)≠0:=by decide
 cases c:Nat.beq ((M+1) % 2) (j.gen % 2) with
 | true=>
   rw [c] at d
   rw [cond_true]
   cases c2:Nat.ble (M+1+1) 1073741824 with
   | true=>
     rw [cond_true]
     have d2:decide ((1073741824:Int)<ofNat M+(1:Int)+(1:Int))=false:=by rw [Nat.ble_eq] at c2;exact decide_eq_false (by simp;omega)
     refine con_of_run [] [] ((nx_vc s j _ M h0 _).mpr ⟨trivial,h0,trivial,trivial,r0,w1,trivial,w2',r1,z,trivial,z,fun _=>⟨r2,fun h=>(by rw [d2] at h;cases h),fun _=>?_⟩,fun h=>(by rw [d] at h;cases h)⟩)
     exact ⟨_,_,rfl,ret_k (by kernel_rfl)⟩
   | false=>
     rw [cond_false]
     have d2:decide ((1073741824:Int)<ofNat M+(1:Int)+(1:Int))=true:=by rw [Bool.eq_false_iff,ne_eq,Nat.ble_eq] at c2;exact decide_eq_true (by simp;omega)
     refine con_of_run [] [] ((nx_vc s j _ M h0 _).mpr ⟨trivial,h0,trivial,trivial,r0,w1,trivial,w2',r1,z,trivial,z,fun _=>⟨r2,fun _=>?_,fun h=>(by rw [d2] at h;cases h)⟩,fun h=>(by rw [d] at h;cases h)⟩)
     exact ⟨_,_,rfl,ret_k (by kernel_rfl)⟩
 | false=>
   rw [c] at d
   rw [cond_false]
   cases c2:Nat.ble (M+1) 1073741824 with
   | true=>
     rw [cond_true]
     have d2:decide ((1073741824:Int)<ofNat M+(1:Int))=false:=by rw [Nat.ble_eq] at c2;exact decide_eq_false (by simp;omega)
     refine con_of_run [] [] ((nx_vc s j _ M h0 _).mpr ⟨trivial,h0,trivial,trivial,r0,w1,trivial,w2',r1,z,trivial,z,fun h=>(by rw [d] at h;cases h),fun _=>⟨fun h=>(by rw [d2] at h;cases h),fun _=>?_⟩⟩)
     exact ⟨_,_,rfl,ret_k (by kernel_rfl)⟩
   | false=>
     rw [cond_false]
     have d2:decide ((1073741824:Int)<ofNat M+(1:Int))=true:=by rw [Bool.eq_false_iff,ne_eq,Nat.ble_eq] at c2;exact decide_eq_true (by simp;omega)
     refine con_of_run [] [] ((nx_vc s j _ M h0 _).mpr ⟨trivial,h0,trivial,trivial,r0,w1,trivial,w2',r1,z,trivial,z,fun h=>(by rw [d] at h;cases h),fun _=>⟨fun _=>?_,fun h=>(by rw [d2] at h;cases h)⟩⟩)
     exact ⟨_,_,rfl,ret_k (by kernel_rfl)⟩
theorem nextWorn_con (s:SS) (j:JS) (hg:1073741824≤j.gen):Con PG 51 [.p 1 0] [some s.o,some j.o] (.tup [.i .i64 0,.i .i64 15]) [.keep,.keep]:=by
 have h0:decide (1073741824≤ofNat j.gen)=true:=decide_eq_true (by simp;omega)
 exact con_of_run [] [] ((nxW_vc s j h0 _).mpr (by repeat' first | exact trivial | refine And.intro ?_ ?_ | assumption | exact nt (by assumption) | exact nf (by assumption) | exact nnt (by assumption) | exact nnf (by assumption) | (decide;done) | exact ⟨_,_,rfl,ret_k (by kernel_rfl)⟩))
end Go.Proofs.Jn
