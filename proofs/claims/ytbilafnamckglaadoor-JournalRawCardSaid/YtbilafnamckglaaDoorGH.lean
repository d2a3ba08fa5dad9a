/- Runs over unknown values, told by the kernel: part GH. -/
import Derived.Test.YtbilafnamckglaaDoorGG
noncomputable section
open Int (ofNat)
set_option linter.unusedSimpArgs false
set_option linter.unusedVariables false
set_option maxRecDepth 20000
namespace Go.Proofs.Jn
open Go Go.Sim Go.Proofs Go.Proofs.Cd Go.Proofs.St Go.Proofs.Cl Go.Proofs.YtbilafnamckglaaDoor
theorem onA_vc (W:Nat→Nat) (X:Nat→Nat→Nat→CV) (i G Q I P L:Nat) (D:Nat→Nat) (n gen num q np:Nat) (ff:Nat→Nat) (ha:decide (ofNat i<ofNat np)=true) (hn:decide (ofNat n≤ofNat i)=false) (hP:decide (ofNat P=0)=false) (hG:decide (ofNat G=ofNat gen)=true) (hQ:decide (ofNat Q=ofNat num)=true) (hI:decide (ofNat I=ofNat i)=true) (hz:decide (0<ofNat i)=false) (K:Res→Orc→Prop):runK PG 1000000 (.code (loopAt PG 75 0) 65 (mkT (oneT n gen num i q np W X)) (mkH [some (.rows 5 1 q (byF ff))])) (.t (.f (.cal [] (.agg [inv G,inv Q,inv I,inv P,.sv 1 L (byF D)]) [] (ot 4 (.f (ot 4 (.f (ot 4 (.f (ot 3 (of_ 4 (.t (.f (.f (.c .z))))))))))))))) K=((fun (q6:Bool)=>((fun (q5:Bool)=>((fun (q4:Bool)=>((fun (q3:AV)=>((fun (q2:AV)=>((fun (q1:AV)=>((fun (q0:AV)=>(decide (ofNat i<ofNat np)=true∧decide (ofNat n≤ofNat i)=false∧(0≤ofNat i∧ofNat i<↑n)∧True∧Con PG 72 [.sv 1 (W i) (X i)] [] q3 []∧True∧(!decide (ofNat P=0))=true∧True∧r3 ((!decide (ofNat P=0))=true) (decide (ofNat P=0)=false∧q4=true∧True∧r3 (q4=true) ((!decide (ofNat G=ofNat gen))=false∧q5=true∧True∧r3 (q5=true) ((!decide (ofNat Q=ofNat num))=false∧r3 (q6=true) (r4 (decide (0<ofNat i)=false) (q6=true∧decide (0<ofNat i)=false∧(!decide (ofNat I =
 ofNat i))=false∧True∧True∧(0+q≤q∧True∧q+L≤140737488355328∧(3*(q+L)+1536)*1≤562949953421312)∧rg (ofNat i+1)∧K (.st .nrm (t1 (.sv 1 n (scF W X)) (t1 (inv gen) (t0 (t0 (t1 (inv i) (tn G) (tl q2)) (t1 (.pv 1 (scF W X i)) (tl q0) (tl (.b false)))) (t1 (.p 1 0) (t1 (inv n) (tl q1) tu) (t1 (inv P) (tn I) (tl (.lr 0 1 0 q false))))) (t0 (t1 (inv P) (t1 (inv i) (tl q1) (tl (.b (decide (0<ofNat i))))) (t1 q3 (tl q0) (tl (.p 1 3)))) (t1 (inv np) (t1 (.sv 1 n (scF W X)) (tn Q) tu) (t1 (.b (decide (ofNat P=0))) (tl q2) (tl (.sv 1 L (byF D))))))) (t1 (inv num) (t0 (t1 (.lr 2 1 0 (addN q L) false) (t1 (.i .i64 (ofNat i+1)) (tn gen) (tn i)) (t1 (.sv 1 (W i) (X (Int.toNat (ofNat i)))) (tl q0) (tl (.b false)))) (t1 (inv i) (t1 (.b (decide (ofNat n≤ofNat i))) (tl (.p 1 1)) tu) (t1 (.b (decide (ofNat P=0))) (tn i) (tl (.p 1 4))))) (t0 (t1 (.i .i64 (ofNat i+1)) (t1 (.sv 1 n (scF W X)) (tl q1) (tl (.b (decide (0<ofNat i))))) (t1 (.p 1 3) (tl (.p 1 2)) (tn P))) (t1 (.b (decide (ofNat i<ofNat np))) (t1 (inv i) (tn num) tu) (t1 (.p 1 0) (tl q2) (tl (.lr 2 1 0 (addN q L) false))))))) ⟨t0 (tl (.cells 93 5 [.i .i64 0,.i .i64 0,.i .i64 0,.i .i64 0,.l0] (t1 (inv G) (t1 (inv Q) (tn P) .e) (t1 (inv I) (tl (.sv 1 L (byF D))) .e)))) (tl (.rows 5 1 (addN q L) (appZ q (byF ff) (byF D)))),3,[2,0,1,1]⟩) .z))))))) (.b !decide (ofNat Q=ofNat num)))) (.b !decide (ofNat G=ofNat
 gen)))) (.b !decide (ofNat I=ofNat i)))) (.agg [inv G,inv Q,inv I,inv P,.sv 1 L (byF D)]))) (!!decide (ofNat G=ofNat gen)))) (!!decide (ofNat Q=ofNat num)))) (!!decide (ofNat I=ofNat i))):=by kernel_rfl
theorem onB_vc (W:Nat→Nat) (X:Nat→Nat→Nat→CV) (i G Q I P L:Nat) (D:Nat→Nat) (n gen num q np:Nat) (ff:Nat→Nat) (ha:decide (ofNat i<ofNat np)=true) (hn:decide (ofNat n≤ofNat i)=false) (hP:decide (ofNat P=0)=false) (hG:decide (ofNat G=ofNat gen)=true) (hQ:decide (ofNat Q=ofNat num)=true) (hI:decide (ofNat I=ofNat i)=true) (hz:decide (0<ofNat i)=true) (hp:decide (ofNat P=ofNat np)=true) (K:Res→Orc→Prop):runK PG 1000000 (.code (loopAt PG 75 0) 65 (mkT (oneT n gen num i q np W X)) (mkH [some (.rows 5 1 q (byF ff))])) (.t (.f (.cal [] (.agg [inv G,inv Q,inv I,inv P,.sv 1 L (byF D)]) [] (ot 4 (.f (ot 4 (.f (ot 4 (.f (ot 9 (.f (.f .z)))))))))))) K=((fun (q7:Bool)=>((fun (q6:Bool)=>((fun (q5:Bool)=>((fun (q4:AV)=>((fun (q3:AV)=>((fun (q2:AV)=>((fun (q1:AV)=>((fun (q0:AV)=>(decide (ofNat i<ofNat np)=true∧decide (ofNat n≤ofNat i)=false∧(0≤ofNat i∧ofNat i<↑n)∧True∧Con PG 72 [.sv 1 (W i) (X i)] [] q4 []∧True∧(!decide (ofNat P=0))=true∧True∧r3 ((!decide (ofNat P=0))=true) (decide (ofNat P=0)=false∧q5=true∧True∧r3 (q5=true) ((!decide (ofNat G=ofNat gen))=false∧q6=true∧True∧r3 (q6=true) ((!decide (ofNat Q=ofNat num))=false∧r3 (q7=true) (decide (0<ofNat i)=true∧True∧r3 (decide (0 <
 ofNat i)=true) (q7=true∧decide (0<ofNat i)=true∧(!decide (ofNat I=ofNat i))=false∧(!decide (ofNat P=ofNat np))=false∧True∧True∧(0+q≤q∧True∧q+L≤140737488355328∧(3*(q+L)+1536)*1≤562949953421312)∧rg (ofNat i+1)∧K (.st .nrm (t1 (.sv 1 n (scF W X)) (t1 (inv gen) (t0 (t0 (t1 (inv i) (tn G) (tl q3)) (t1 (.pv 1 (scF W X i)) (tl q0) (tl q2))) (t1 (.p 1 0) (t1 (inv n) (tl q1) (tl (.p 1 3))) (t1 (inv P) (tn I) (tl (.lr 0 1 0 q false))))) (t0 (t1 (inv P) (t1 (inv i) (tl q1) (tl (.b (decide (0<ofNat i))))) (t1 q4 (tl q0) (tl (.p 1 3)))) (t1 (inv np) (t1 (.sv 1 n (scF W X)) (tn Q) (tn np)) (t1 (.b (decide (ofNat P=0))) (tl q3) (tl (.sv 1 L (byF D))))))) (t1 (inv num) (t0 (t1 (.lr 2 1 0 (addN q L) false) (t1 (.i .i64 (ofNat i+1)) (tn gen) (tn i)) (t1 (.sv 1 (W i) (X (Int.toNat (ofNat i)))) (tl q0) (tl q2))) (t1 (inv i) (t1 (.b (decide (ofNat n≤ofNat i))) (tl (.p 1 1)) (tn P)) (t1 (.b (decide (ofNat P=0))) (tn i) (tl (.p 1 4))))) (t0 (t1 (.i .i64 (ofNat i+1)) (t1 (.sv 1 n (scF W X)) (tl q1) (tl (.b (decide (0<ofNat i))))) (t1 (.p 1 3) (tl (.p 1 2)) (tn P))) (t1 (.b (decide (ofNat i<ofNat np))) (t1 (inv i) (tn num) (tl q2)) (t1 (.p 1 0) (tl q3) (tl (.lr 2 1 0 (addN q L) false))))))) ⟨t0 (tl (.cells 93 5 [.i .i64 0,.i .i64 0,.i .i64 0,.i .i64 0,.l0] (t1 (inv G) (t1 (inv Q) (tn P) .e) (t1 (inv I) (tl (.sv 1 L (byF D))) .e)))) (tl (.rows 5 1 (addN
 q L) (appZ q (byF ff) (byF D)))),3,[2,0,1,1]⟩) .z))))))) (.b !decide (ofNat Q=ofNat num)))) (.b !decide (ofNat G=ofNat gen)))) (.b !decide (ofNat P=ofNat np)))) (.b !decide (ofNat I=ofNat i)))) (.agg [inv G,inv Q,inv I,inv P,.sv 1 L (byF D)]))) (!!decide (ofNat G=ofNat gen)))) (!!decide (ofNat Q=ofNat num)))) (!!decide (ofNat I=ofNat i))):=by kernel_rfl
theorem onE_vc (W:Nat→Nat) (X:Nat→Nat→Nat→CV) (i n gen num q np:Nat) (ff:Nat→Nat) (ha:decide (ofNat i<ofNat np)=false) (K:Res→Orc→Prop):runK PG 1000000 (.code (loopAt PG 75 0) 65 (mkT (oneT n gen num i q np W X)) (mkH [some (.rows 5 1 q (byF ff))])) (.f .z) K=(decide (ofNat i<ofNat np)=false∧K (.st (.exit 0) (t1 (.sv 1 n (scF W X)) (t1 (inv gen) .e (t0 (tn np) (tn np))) (t1 (inv num) (t0 (tl (.lr 0 1 0 q false)) (tn i)) (t0 (tn i) (tl (.b (decide (ofNat i<ofNat np))))))) ⟨tl (AObj.rows 5 1 q (byF ff)),1,[]⟩) .z):=by kernel_rfl
theorem onF1_vc (W:Nat→Nat) (X:Nat→Nat→Nat→CV) (i n gen num q np:Nat) (ff:Nat→Nat) (ha:decide (ofNat i<ofNat np)=true) (hn:decide (ofNat n≤ofNat i)=true) (K:Res→Orc→Prop):runK PG 1000000 (.code (loopAt PG 75 0) 65 (mkT (oneT n gen num i q np W X)) (mkH [some (.rows 5 1 q (byF ff))])) (.t (.t .z)) K=(decide (ofNat i<ofNat np)=true∧decide (ofNat n≤ofNat i)=true∧K (.st .ret (t1 (.sv 1 n (scF W X)) (t1 (inv gen) (t0 (tl (.i .i64 0)) (t0 (tn n) .e)) (t0 (t1 (inv np) (tn i) .e) (tn np))) (t1 (inv num) (t0 (tl (.lr 0 1 0 q false)) (t1 (inv i) (tl (.b (decide (ofNat n≤ofNat i)))) .e)) (t1 .l0 (t1 (inv i) (tl (.sv 1 n (scF W X))) .e) (tl (.b (decide (ofNat i<ofNat np))))))) ⟨tl (AObj.rows 5 1 q (byF ff)),1,[]⟩) .z):=by kernel_rfl
theorem onF2_vc (W:Nat→Nat) (X:Nat→Nat→Nat→CV) (i G Q I P L:Nat) (D:Nat→Nat) (n gen num q np:Nat) (ff:Nat→Nat) (ha:decide (ofNat i<ofNat np)=true) (hn:decide (ofNat n≤ofNat i)=false) (hP:decide (ofNat P=0)=true) (K:Res→Orc→Prop):runK PG 1000000 (.code (loopAt PG 75 0) 65 (mkT (oneT n gen num i q np W X)) (mkH [some (.rows 5 1 q (byF ff))])) (.t (.f (.cal [] (.agg [inv G,inv Q,inv I,inv P,.sv 1 L (byF D)]) [] (of_ 4 (.t (oc 16 .z)))))) K=((fun (q0:AV)=>(decide (ofNat i<ofNat np)=true∧decide (ofNat n≤ofNat i)=false∧(0≤ofNat i∧ofNat i<↑n)∧True∧Con PG 72 [.sv 1 (W i) (X i)] [] q0 []∧True∧r4 ((!decide (ofNat P=0))=false) (decide (ofNat P=0)=true∧K (.st .ret (t1 (.sv 1 n (scF W X)) (t1 (inv gen) (t0 (t1 (.i .i64 0) (t0 tu tb) (t1 (.pv 1 (scF W X i)) tu tu)) (t1 (.p 1 0) (t1 (inv n) tb tu) (t1 (inv P) tu .e))) (t0 (t1 (inv np) (t1 (inv i) tu tu) (t1 q0 tb .e)) (t1 (inv np) (t1 (.sv 1 n (scF W X)) tu tu) (t1 (.b (decide (ofNat P=0))) tu .e)))) (t1 (inv num) (t0 (t1 (.lr 0 1 0 q false) (t0 tu tu) (t1 (.sv 1 (W i) (X (Int.toNat (ofNat i)))) tb tb)) (t1 (inv i) (t1 (.b (decide (ofNat n≤ofNat i))) tu tu) (t1 (.b (decide (ofNat P=0))) tu .e))) (t1 .l0 (t1 (inv i) (t1 (.sv 1 n (scF W X)) tb tu) (t1 (.p 1 3) tu .e)) (t1 (.b (decide (ofNat i<ofNat np))) (t1 (inv i) tu tu) (t1 (.tup []) tb .e))))) ⟨t1 (AObj.rows
 5 1 q (byF ff)) (tl (.cells 93 5 [.i .i64 0,.i .i64 0,.i .i64 0,.i .i64 0,.l0] (t1 (inv G) (t1 (inv Q) (tn P) .e) (t1 (inv I) (tl (.sv 1 L (byF D))) .e)))) .e,2,[1,1]⟩) .z))) (.agg [inv G,inv Q,inv I,inv P,.sv 1 L (byF D)])):=by kernel_rfl
theorem onF3_vc (W:Nat→Nat) (X:Nat→Nat→Nat→CV) (i G Q I P L:Nat) (D:Nat→Nat) (n gen num q np:Nat) (ff:Nat→Nat) (ha:decide (ofNat i<ofNat np)=true) (hn:decide (ofNat n≤ofNat i)=false) (hP:decide (ofNat P=0)=false) (hG:decide (ofNat G=ofNat gen)=false) (K:Res→Orc→Prop):runK PG 1000000 (.code (loopAt PG 75 0) 65 (mkT (oneT n gen num i q np W X)) (mkH [some (.rows 5 1 q (byF ff))])) (.t (.f (.cal [] (.agg [inv G,inv Q,inv I,inv P,.sv 1 L (byF D)]) [] (ot 4 (of_ 5 (.t (oc 11 .z))))))) K=((fun (q1:AV)=>((fun (q0:AV)=>(decide (ofNat i<ofNat np)=true∧decide (ofNat n≤ofNat i)=false∧(0≤ofNat i∧ofNat i<↑n)∧True∧Con PG 72 [.sv 1 (W i) (X i)] [] q1 []∧True∧(!decide (ofNat P=0))=true∧True∧r3 ((!decide (ofNat P=0))=true) (decide (ofNat P=0)=false∧r4 ((!!decide (ofNat G=ofNat gen))=false) ((!decide (ofNat G=ofNat gen))=true∧K (.st .ret (t1 (.sv 1 n (scF W X)) (t1 (inv gen) (t0 (t1 (.i .i64 0) (t0 (tn G) tb) (t1 (.pv 1 (scF W X i)) tu tu)) (t1 (.p 1 0) (t1 (inv n) (tl q0) tu) (t1 (inv P) tu .e))) (t0 (t1 (inv np) (t1 (inv i) (tl q0) tu) (t1 q1 tb .e)) (t1 (inv np) (t1 (.sv 1 n (scF W X)) tu tu) (t1 (.b (decide (ofNat P=0))) tu .e)))) (t1 (inv num) (t0 (t1 (.lr 0 1 0 q false) (t0 (tn gen) tu) (t1 (.sv 1 (W i) (X (Int.toNat (ofNat i)))) tb tb)) (t1 (inv i) (t1 (.b (decide (ofNat n
 ≤ofNat i))) tu tu) (t1 (.b (decide (ofNat P=0))) tu .e))) (t1 .l0 (t1 (inv i) (t1 (.sv 1 n (scF W X)) (tl q0) tu) (t1 (.p 1 3) tu .e)) (t1 (.b (decide (ofNat i<ofNat np))) (t1 (inv i) tu tu) (t1 (.p 1 0) tb .e))))) ⟨t1 (AObj.rows 5 1 q (byF ff)) (tl (.cells 93 5 [.i .i64 0,.i .i64 0,.i .i64 0,.i .i64 0,.l0] (t1 (inv G) (t1 (inv Q) (tn P) .e) (t1 (inv I) (tl (.sv 1 L (byF D))) .e)))) .e,2,[1,1]⟩) .z)))) (.b !decide (ofNat G=ofNat gen)))) (.agg [inv G,inv Q,inv I,inv P,.sv 1 L (byF D)])):=by kernel_rfl
theorem onF4_vc (W:Nat→Nat) (X:Nat→Nat→Nat→CV) (i G Q I P L:Nat) (D:Nat→Nat) (n gen num q np:Nat) (ff:Nat→Nat) (ha:decide (ofNat i<ofNat np)=true) (hn:decide (ofNat n≤ofNat i)=false) (hP:decide (ofNat P=0)=false) (hG:decide (ofNat G=ofNat gen)=true) (hQ:decide (ofNat Q=ofNat num)=false) (K:Res→Orc→Prop):runK PG 1000000 (.code (loopAt PG 75 0) 65 (mkT (oneT n gen num i q np W X)) (mkH [some (.rows 5 1 q (byF ff))])) (.t (.f (.cal [] (.agg [inv G,inv Q,inv I,inv P,.sv 1 L (byF D)]) [] (ot 4 (.f (ot 4 (of_ 5 (.t (oc 6 .z))))))))) K=((fun (q3:Bool)=>((fun (q2:AV)=>((fun (q1:AV)=>((fun (q0:AV)=>(decide (ofNat i<ofNat np)=true∧decide (ofNat n≤ofNat i)=false∧(0≤ofNat i∧ofNat i<↑n)∧True∧Con PG 72 [.sv 1 (W i) (X i)] [] q2 []∧True∧(!decide (ofNat P=0))=true∧True∧r3 ((!decide (ofNat P=0))=true) (decide (ofNat P=0)=false∧q3=true∧True∧r3 (q3=true) ((!decide (ofNat G=ofNat gen))=false∧r4 ((!!decide (ofNat Q=ofNat num))=false) ((!decide (ofNat Q=ofNat num))=true∧K (.st .ret (t1 (.sv 1 n (scF W X)) (t1 (inv gen) (t0 (t1 (.i .i64 0) (t0 (tn G) tb) (t1 (.pv 1 (scF W X i)) (tl q0) tu)) (t1 (.p 1 0) (t1 (inv n) (tl q1) tu) (t1 (inv P) tu .e))) (t0 (t1 (inv np) (t1 (inv i) (tl q1) tu) (t1 q2 (tl q0) .e)) (t1 (inv np) (t1 (.sv 1 n (scF W X)) (tn Q) tu)
 (t1 (.b (decide (ofNat P=0))) tu .e)))) (t1 (inv num) (t0 (t1 (.lr 0 1 0 q false) (t0 (tn gen) tu) (t1 (.sv 1 (W i) (X (Int.toNat (ofNat i)))) (tl q0) tb)) (t1 (inv i) (t1 (.b (decide (ofNat n≤ofNat i))) (tl (.p 1 1)) tu) (t1 (.b (decide (ofNat P=0))) tu .e))) (t1 .l0 (t1 (inv i) (t1 (.sv 1 n (scF W X)) (tl q1) tu) (t1 (.p 1 3) tu .e)) (t1 (.b (decide (ofNat i<ofNat np))) (t1 (inv i) (tn num) tu) (t1 (.p 1 0) tb .e))))) ⟨t1 (AObj.rows 5 1 q (byF ff)) (tl (.cells 93 5 [.i .i64 0,.i .i64 0,.i .i64 0,.i .i64 0,.l0] (t1 (inv G) (t1 (inv Q) (tn P) .e) (t1 (inv I) (tl (.sv 1 L (byF D))) .e)))) .e,2,[1,1]⟩) .z))))) (.b !decide (ofNat Q=ofNat num)))) (.b !decide (ofNat G=ofNat gen)))) (.agg [inv G,inv Q,inv I,inv P,.sv 1 L (byF D)]))) (!!decide (ofNat G=ofNat gen))):=by kernel_rfl
theorem onF5_vc (W:Nat→Nat) (X:Nat→Nat→Nat→CV) (i G Q I P L:Nat) (D:Nat→Nat) (n gen num q np:Nat) (ff:Nat→Nat) (ha:decide (ofNat i<ofNat np)=true) (hn:decide (ofNat n≤ofNat i)=false) (hP:decide (ofNat P=0)=false) (hG:decide (ofNat G=ofNat gen)=true) (hQ:decide (ofNat Q=ofNat num)=true) (hI:decide (ofNat I=ofNat i)=false) (K:Res→Orc→Prop):runK PG 1000000 (.code (loopAt PG 75 0) 65 (mkT (oneT n gen num i q np W X)) (mkH [some (.rows 5 1 q (byF ff))])) (.t (.f (.cal [] (.agg [inv G,inv Q,inv I,inv P,.sv 1 L (byF D)]) [] (ot 4 (.f (ot 4 (.f (ot 4 (of_ 5 (.t (.c .z))))))))))) K=((fun (q5:Bool)=>((fun (q4:Bool)=>((fun (q3:AV)=>((fun (q2:AV)=>((fun (q1:AV)=>((fun (q0:AV)=>(decide (ofNat i<ofNat np)=true∧decide (ofNat n≤ofNat i)=false∧(0≤ofNat i∧ofNat i<↑n)∧True∧Con PG 72 [.sv 1 (W i) (X i)] [] q3 []∧True∧(!decide (ofNat P=0))=true∧True∧r3 ((!decide (ofNat P=0))=true) (decide (ofNat P=0)=false∧q4=true∧True∧r3 (q4=true) ((!decide (ofNat G=ofNat gen))=false∧q5=true∧True∧r3 (q5=true) ((!decide (ofNat Q=ofNat num))=false∧r4 ((!!decide (ofNat I=ofNat i))=false) ((!decide (ofNat I=ofNat i))=true∧K (.st .ret (t1 (.sv 1 n (scF W X)) (t1 (inv gen) (t0 (t1 (.i .i64 0) (t0 (tn G) (tl q2)) (t1 (.pv 1 (scF W X
 i)) (tl q0) tu)) (t1 (.p 1 0) (t1 (inv n) (tl q1) tu) (t1 (inv P) (tn I) .e))) (t0 (t1 (inv np) (t1 (inv i) (tl q1) tu) (t1 q3 (tl q0) .e)) (t1 (inv np) (t1 (.sv 1 n (scF W X)) (tn Q) tu) (t1 (.b (decide (ofNat P=0))) (tl q2) .e)))) (t1 (inv num) (t0 (t1 (.lr 0 1 0 q false) (t0 (tn gen) tu) (t1 (.sv 1 (W i) (X (Int.toNat (ofNat i)))) (tl q0) tb)) (t1 (inv i) (t1 (.b (decide (ofNat n≤ofNat i))) (tl (.p 1 1)) tu) (t1 (.b (decide (ofNat P=0))) (tn i) .e))) (t1 .l0 (t1 (inv i) (t1 (.sv 1 n (scF W X)) (tl q1) tu) (t1 (.p 1 3) (tl (.p 1 2)) .e)) (t1 (.b (decide (ofNat i<ofNat np))) (t1 (inv i) (tn num) tu) (t1 (.p 1 0) (tl q2) .e))))) ⟨t1 (AObj.rows 5 1 q (byF ff)) (tl (.cells 93 5 [.i .i64 0,.i .i64 0,.i .i64 0,.i .i64 0,.l0] (t1 (inv G) (t1 (inv Q) (tn P) .e) (t1 (inv I) (tl (.sv 1 L (byF D))) .e)))) .e,2,[1,1]⟩) .z)))))) (.b !decide (ofNat Q=ofNat num)))) (.b !decide (ofNat G=ofNat gen)))) (.b !decide (ofNat I=ofNat i)))) (.agg [inv G,inv Q,inv I,inv P,.sv 1 L (byF D)]))) (!!decide (ofNat G=ofNat gen)))) (!!decide (ofNat Q=ofNat num))):=by kernel_rfl
theorem onF6_vc (W:Nat→Nat) (X:Nat→Nat→Nat→CV) (i G Q I P L:Nat) (D:Nat→Nat) (n gen num q np:Nat) (ff:Nat→Nat) (ha:decide (ofNat i<ofNat np)=true) (hn:decide (ofNat n≤ofNat i)=false) (hP:decide (ofNat P=0)=false) (hG:decide (ofNat G=ofNat gen)=true) (hQ:decide (ofNat Q=ofNat num)=true) (hI:decide (ofNat I=ofNat i)=true) (hz:decide (0<ofNat i)=true) (hp:decide (ofNat P=ofNat np)=false) (K:Res→Orc→Prop):runK PG 1000000 (.code (loopAt PG 75 0) 65 (mkT (oneT n gen num i q np W X)) (mkH [some (.rows 5 1 q (byF ff))])) (.t (.f (.cal [] (.agg [inv G,inv Q,inv I,inv P,.sv 1 L (byF D)]) [] (ot 4 (.f (ot 4 (.f (ot 4 (.f (ot 9 (.f (.t .z)))))))))))) K=((fun (q7:Bool)=>((fun (q6:Bool)=>((fun (q5:Bool)=>((fun (q4:AV)=>((fun (q3:AV)=>((fun (q2:AV)=>((fun (q1:AV)=>((fun (q0:AV)=>(decide (ofNat i<ofNat np)=true∧decide (ofNat n≤ofNat i)=false∧(0≤ofNat i∧ofNat i<↑n)∧True∧Con PG 72 [.sv 1 (W i) (X i)] [] q4 []∧True∧(!decide (ofNat P=0))=true∧True∧r3 ((!decide (ofNat P=0))=true) (decide (ofNat P=0)=false∧q5=true∧True∧r3 (q5=true) ((!decide (ofNat G=ofNat gen))=false∧q6=true∧True∧r3 (q6=true) ((!decide (ofNat Q=ofNat num))=false∧r3 (q7=true) (decide (0<ofNat i)=true∧True∧r3 (decide (0 <
 ofNat i)=true) (q7=true∧decide (0<ofNat i)=true∧(!decide (ofNat I=ofNat i))=false∧(!decide (ofNat P=ofNat np))=true∧K (.st .ret (t1 (.sv 1 n (scF W X)) (t1 (inv gen) (t0 (t1 (.i .i64 0) (t0 (tn G) (tl q3)) (t1 (.pv 1 (scF W X i)) (tl q0) (tl q2))) (t1 (.p 1 0) (t1 (inv n) (tl q1) (tl (.p 1 3))) (t1 (inv P) (tn I) .e))) (t0 (t1 (inv np) (t1 (inv i) (tl q1) (tl (.b (decide (0<ofNat i))))) (t1 q4 (tl q0) .e)) (t1 (inv np) (t1 (.sv 1 n (scF W X)) (tn Q) (tn np)) (t1 (.b (decide (ofNat P=0))) (tl q3) .e)))) (t1 (inv num) (t0 (t1 (.lr 0 1 0 q false) (t0 (tn gen) (tn i)) (t1 (.sv 1 (W i) (X (Int.toNat (ofNat i)))) (tl q0) (tl q2))) (t1 (inv i) (t1 (.b (decide (ofNat n≤ofNat i))) (tl (.p 1 1)) (tn P)) (t1 (.b (decide (ofNat P=0))) (tn i) .e))) (t1 .l0 (t1 (inv i) (t1 (.sv 1 n (scF W X)) (tl q1) (tl (.b (decide (0<ofNat i))))) (t1 (.p 1 3) (tl (.p 1 2)) .e)) (t1 (.b (decide (ofNat i<ofNat np))) (t1 (inv i) (tn num) (tl q2)) (t1 (.p 1 0) (tl q3) .e))))) ⟨t1 (AObj.rows 5 1 q (byF ff)) (tl (.cells 93 5 [.i .i64 0,.i .i64 0,.i .i64 0,.i .i64 0,.l0] (t1 (inv G) (t1 (inv Q) (tn P) .e) (t1 (inv I) (tl (.sv 1 L (byF D))) .e)))) .e,2,[1,1]⟩) .z))))))) (.b !decide (ofNat Q=ofNat num)))) (.b !decide (ofNat G=ofNat gen)))) (.b !decide (ofNat P=ofNat np)))) (.b !decide (ofNat I=ofNat i)))) (.agg [inv G,inv Q,inv I,inv P,.sv 1 L (byF D)]))) (!!decide
 (ofNat G=ofNat gen)))) (!!decide (ofNat Q=ofNat num)))) (!!decide (ofNat I=ofNat i))):=by kernel_rfl
def npS (p:Nat):Nat→Nat
 | 0=>1
 | _+1=>p
def onI (n gen num p:Nat) (W:Nat→Nat) (X:Nat→Nat→Nat→CV) (L:Nat→Nat) (d:Nat×(Nat→Nat)):List (Nat×AV)×List (Option AObj):=
 (oneT n gen num d.1 (cl L d.1) (npS p d.1) W X,[some (.rows 5 1 (cl L d.1) (byF d.2))])
section
variable (n gen num p:Nat) (W:Nat→Nat) (X:Nat→Nat→Nat→CV) (G N I P L:Nat→Nat) (D:Nat→Nat→Nat)
theorem on_round (hn:n≤60) (hL:∀i,L i≤47) (lk:∀i,i<n→Con PG 72 [.sv 1 (W i) (X i)] [] (prV (G i) (N i) (I i) (P i) (L i) (D i)) []) {inv:Nat×(Nat→Nat)→Prop} {μ:Nat×(Nat→Nat)→Nat} {x:XO} {l':List (Nat×AV)} {objs':List (Option AObj)}
 (i:Nat) (ff:Nat→Nat) (hi:i<n) (hp:i<npS p i) (ok:RcOk p gen num G N I P i) (p0:p≠0) (h1:∀t,t<cl L i→ff t=cb L D i t) (hinv:inv (i+1,cb L D (i+1))) (hmu:μ (i+1,cb L D (i+1))<μ (i,ff)) :
 ∃f o,runK PG f (.code (loopAt PG 75 0) 65 (mkT (onI n gen num p W X L (i,ff)).1) (mkH (onI n gen num p W X L (i,ff)).2)) o fun r _=>RoundV 0 (onI n gen num p W X L) μ inv x l' objs' (i,ff) r:=by
 have hc:=cl_le hL i
 have hLi:=hL i
 obtain ⟨a1,a2,a3,a4⟩:=ok
 have ha:decide (ofNat i<ofNat (npS p i))=true:=by simpa using hp
 have hn':decide (ofNat n≤ofNat i)=false:=decide_eq_false (by simp;omega)
 have hP:decide (ofNat (P i)=(0:Int))=false:=decide_eq_false (by simp;omega)
 have d1:decide (ofNat (G i)=ofNat gen)=true:=decide_eq_true (by rw [a1])
 have d2:decide (ofNat (N i)=ofNat num)=true:=decide_eq_true (by rw [a2])
 have d3:decide (ofNat (I i)=ofNat i)=true:=decide_eq_true (by rw [a3])
 have r0:(0:Int)≤ofNat i∧ofNat i<↑n:=⟨by simp,by simp;omega⟩
 have r1:0+cl L i≤cl L i∧True∧cl L i+L i≤140737488355328∧(3*(cl L i+L i)+1536)*1≤562949953421312:=⟨by omega,trivial,by omega,by omega⟩
 have r2:(-9223372036854775808:Int)≤ofNat i+1∧ofNat i+(1:Int)≤(9223372036854775807:Int):=⟨by simp<;>omega,by simp<;>omega⟩
 have c:=lk i hi
 have e4:P i=npS p (i+1):=a4
 have cw:∀t,t<cl L i+L i→appZ (cl L i) (byF ff) (byF (D i)) t 0=byF (cb L D (i+1)) t 0:=by
  intro t ht
  refine (appZ_i (Eq.refl _) (Eq.refl _)).trans ?_
  show CV.i .u8 _=CV.i .u8 (ofNat (bif Nat.blt t (cl L i) then cb L D i t else D i (t-cl L i)))
  by_cases c:t<cl L i
  · rw [if_pos c,bltT' c,cond_true,h1 t c]
  · rw [if_neg c,bltF' c,cond_false]
 have fin:∀tm1 H1,StIs 0 [2] [] tm1 H1 (oneT n gen num (i+1) (addN (cl L i) (L i)) (P i) W X) [some (.rows 5 1 (addN (cl L i) (L i)) (appZ (cl L i) (byF ff) (byF (D i))))]→RoundV 0 (onI n gen num p W X L) μ inv x l' objs' (i,ff) (.st .nrm tm1 H1):=by
  intro tm1 H1 st
  refine .inl ⟨(i+1,cb L D (i+1)),[2],[],_,_,_,_,hinv,hmu,rfl,st,?_,?_⟩
  · rw [addN_eq,e4];exact .refl _
  · rw [addN_eq]
    refine ⟨.rowsW fun t j ht hj=>.of ?_,trivial⟩
    obtain rfl:j=0:=by omega
    exact cw t ht
 by_cases z:0<i
 · have hz:decide ((0:Int)<ofNat i)=true:=decide_eq_true (by simp;omega)
   have d4:decide (ofNat (P i)=ofNat (npS p i))=true:=decide_eq_true (by cases i with | zero=>omega | succ i=>rw [a4];rfl)
   refine ⟨1000000,_,(onB_vc W X i (G i) (N i) (I i) (P i) (L i) (D i) n gen num (cl L i) (npS p i) ff ha hn' hP d1 d2 d3 hz d4 _).mpr ?_⟩
   refine ⟨ha,hn',r0,trivial,c,trivial,?_⟩
   repeat' first | exact trivial | assumption | exact nt (by assumption) | exact nf (by assumption) | exact nnt (by assumption) | exact nnf (by assumption) | refine And.intro ?_ ?_
   exact fin _ _ (st_k [2] (by kernel_rfl))
 · have hz:decide ((0:Int)<ofNat i)=false:=decide_eq_false (by simp;omega)
   refine ⟨1000000,_,(onA_vc W X i (G i) (N i) (I i) (P i) (L i) (D i) n gen num (cl L i) (npS p i) ff ha hn' hP d1 d2 d3 hz _).mpr ?_⟩
   refine ⟨ha,hn',r0,trivial,c,trivial,?_⟩
   repeat' first | exact trivial | assumption | exact nt (by assumption) | exact nf (by assumption) | exact nnt (by assumption) | exact nnf (by assumption) | refine And.intro ?_ ?_
   exact fin _ _ (st_k [2] (by kernel_rfl))
end
theorem one1_vc (W:Nat→Nat) (X:Nat→Nat→Nat→CV) (c P:Nat) (B:Nat→Nat) (n gen num:Nat) (K:Res→Orc→Prop):runK PG 1000000 (.call 75 [.sv 1 n (scF W X),inv gen,inv num] (mkH [])) (.lop [] [0,1,2,8,9,10] 0 (.exit 0) [(8,.lr 0 1 0 c false),(9,.i .i64 (ofNat P))] [some (.rows 5 1 c (byF B))] .z) K=(LDoes PG (loopAt PG 75 0) 65 0 (mkT [(0,.sv 1 n (scF W X)),(1,.i .i64 (ofNat gen)),(2,.i .i64 (ofNat num)),(8,.l0),(9,.i .i64 1),(10,.i .i64 0)]) [] (.exit 0) (mkT [(8,.lr 0 1 0 c false),(9,.i .i64 (ofNat P))]) [some (.rows 5 1 c (byF B))]∧K (.rv (.tup [.lr 0 1 0 c false,inv P]) ⟨tl (AObj.rows 5 1 c (byF B)),1,[0]⟩) .z):=by kernel_rfl
theorem one0_vc (W:Nat→Nat) (X:Nat→Nat→Nat→CV) (n gen num:Nat) (K:Res→Orc→Prop):runK PG 1000000 (.call 75 [.sv 1 n (scF W X),inv gen,inv num] (mkH [])) (.lop [] [0,1,2,8,9,10] 0 .ret [(6,.l0),(7,.i .i64 0)] [] .z) K=(LDoes PG (loopAt PG 75 0) 65 0 (mkT [(0,.sv 1 n (scF W X)),(1,.i .i64 (ofNat gen)),(2,.i .i64 (ofNat num)),(8,.l0),(9,.i .i64 1),(10,.i .i64 0)]) [] .ret (mkT [(6,.l0),(7,.i .i64 0)]) []∧K (.rv (.tup [.l0,.i .i64 0]) ⟨.e,0,[]⟩) .z):=by kernel_rfl
def OnBad (n gen num p:Nat) (G N I P:Nat→Nat) (m:Nat):Prop:=n≤m∨m<n∧(P m=0∨G m≠gen∨N m≠num∨I m≠m∨0<m∧P m≠p)
section
variable (n gen num p:Nat) (W:Nat→Nat) (X:Nat→Nat→Nat→CV) (G N I P L:Nat→Nat) (D:Nat→Nat→Nat)
theorem npS_lt {p i:Nat} (h:i<p):i<npS p i:=by cases i with | zero=>exact Nat.zero_lt_one | succ i=>exact h
theorem on_lp (hn:n≤60) (hL:∀i,L i≤47) (lk:∀i,i<n→Con PG 72 [.sv 1 (W i) (X i)] [] (prV (G i) (N i) (I i) (P i) (L i) (D i)) []) (p1:1≤p) (pn:p≤n) (ok:∀i,i<p→RcOk p gen num G N I P i) :
 LDoes PG (loopAt PG 75 0) 65 0 (mkT [(0,.sv 1 n (scF W X)),(1,.i .i64 (ofNat gen)),(2,.i .i64 (ofNat num)),(8,.l0),(9,.i .i64 1),(10,.i .i64 0)]) [] (.exit 0) (mkT [(8,.lr 0 1 0 (cl L p) false),(9,.i .i64 (ofNat p))]) [some (.rows 5 1 (cl L p) (byF (cb L D p)))]:=by
 have key:LDoes PG (loopAt PG 75 0) 65 0 (mkT (onI n gen num p W X L (0,fun _=>0)).1) (onI n gen num p W X L (0,fun _=>0)).2 (.exit 0) (mkT [(8,.lr 0 1 0 (cl L p) false),(9,.i .i64 (ofNat p))]) [some (.rows 5 1 (cl L p) (byF (cb L D p)))]:=by
  refine loop_indV (D:=Nat×(Nat→Nat)) (l':=[(8,.lr 0 1 0 (cl L p) false),(9,.i .i64 (ofNat p))]) (onI n gen num p W X L) (fun d=>p-d.1) (fun d=>d.1≤p∧∀t,t<cl L d.1→d.2 t=cb L D d.1 t) ?_ (0,fun _=>0) ⟨Nat.zero_le _,fun t ht=>absurd ht (Nat.not_lt_zero _)⟩
  rintro ⟨i,ff⟩ ⟨hi,h1⟩
  simp only at hi h1
  by_cases c:i<p
  · exact ⟨Nat.zero_le _,on_round n gen num p W X G N I P L D hn hL lk i ff (by omega) (npS_lt c) (ok i c) (by omega) h1 ⟨c,fun t _=>rfl⟩ (by simp only;omega)⟩
  · have e:i=p:=by omega
    subst e
    have e2:npS i i=i:=by cases i with | zero=>omega | succ i=>rfl
    have ha:decide (ofNat i<ofNat (npS i i))=false:=decide_eq_false (by rw [e2];simp)
    refine ⟨Nat.zero_le _,1000000,_,(onE_vc W X i n gen num (cl L i) (npS i i) ff ha _).mpr ⟨ha,.inr ⟨[0],[],_,_,[(8,.lr 0 1 0 (cl L i) false),(9,.i .i64 (ofNat (npS i i)))],[some (.rows 5 1 (cl L i) (byF ff))],rfl,by simp,st_k [0] (by kernel_rfl),?_,.rowsW fun t j ht hj=>.of (by show CV.i .u8 (ofNat (ff t))=CV.i .u8 (ofNat (cb L D i t));rw [h1 t ht]),trivial⟩⟩⟩
    rw [e2];exact .refl _
 exact key.weak ⟨rfl,.inl rfl,rfl,.inl rfl,rfl,.inl rfl,rfl,.inr ⟨rfl,.inl ⟨0,1,0,false,rfl⟩⟩,rfl,.inl rfl,rfl,.inl rfl,trivial⟩ (fun o ho=>by rw [List.mem_singleton.1 ho];exact ⟨_,rfl,rfl⟩)
theorem onNo_lp (m:Nat) (hn:n≤60) (hL:∀i,L i≤47) (lk:∀i,i<n→Con PG 72 [.sv 1 (W i) (X i)] [] (prV (G i) (N i) (I i) (P i) (L i) (D i)) []) (hm:m<npS p m) (mn:m≤n) (ok:∀i,i<m→RcOk p gen num G N I P i) (p0:0<m→p≠0) (bad:OnBad n gen num p G N I P m) :
 LDoes PG (loopAt PG 75 0) 65 0 (mkT [(0,.sv 1 n (scF W X)),(1,.i .i64 (ofNat gen)),(2,.i .i64 (ofNat num)),(8,.l0),(9,.i .i64 1),(10,.i .i64 0)]) [] .ret (mkT [(6,.l0),(7,.i .i64 0)]) []:=by
 have key:LDoes PG (loopAt PG 75 0) 65 0 (mkT (onI n gen num p W X L (0,fun _=>0)).1) (onI n gen num p W X L (0,fun _=>0)).2 .ret (mkT [(6,.l0),(7,.i .i64 0)]) []:=by
  refine loop_indV (D:=Nat×(Nat→Nat)) (l':=[(6,.l0),(7,.i .i64 0)]) (onI n gen num p W X L) (fun d=>m-d.1) (fun d=>d.1≤m∧∀t,t<cl L d.1→d.2 t=cb L D d.1 t) ?_ (0,fun _=>0) ⟨Nat.zero_le _,fun t ht=>absurd ht (Nat.not_lt_zero _)⟩
  rintro ⟨i,ff⟩ ⟨hi,h1⟩
  simp only at hi h1
  by_cases c:i<m
  · have hp:i<p:=by cases m with | zero=>omega | succ m=>exact Nat.lt_of_lt_of_le c (Nat.le_of_lt hm)
    exact ⟨Nat.zero_le _,on_round n gen num p W X G N I P L D hn hL lk i ff (by omega) (npS_lt hp) (ok i c) (by omega) h1 ⟨c,fun t _=>rfl⟩ (by simp only;omega)⟩
  · have e:i=m:=by omega
    subst e
    have ha:decide (ofNat i<ofNat (npS p i))=true:=by simpa using hm
    refine ⟨Nat.zero_le _,1000000,?_⟩
    by_cases q0:n≤i
    · have hn':decide (ofNat n≤ofNat i)=true:=decide_eq_true (by simp;omega)
      exact ⟨_,(onF1_vc W X i n gen num (cl L i) (npS p i) ff ha hn' _).mpr ⟨ha,hn',.inr ⟨[],[],_,_,[(6,.l0),(7,.i .i64 0)],[],rfl,by simp,st_k [] (by kernel_rfl),.refl _,OVL.refl _⟩⟩⟩
    have hn':decide (ofNat n≤ofNat i)=false:=decide_eq_false (by simp;omega)
    have r0:(0:Int)≤ofNat i∧ofNat i<↑n:=⟨by simp,by simp;omega⟩
    have cc:=lk i (by omega)
    by_cases q1:P i=0
    · have hP:decide (ofNat (P i)=(0:Int))=true:=decide_eq_true (by rw [q1];rfl)
      refine ⟨_,(onF2_vc W X i (G i) (N i) (I i) (P i) (L i) (D i) n gen num (cl L i) (npS p i) ff ha hn' hP _).mpr ⟨ha,hn',r0,trivial,cc,trivial,?_⟩⟩
      repeat' first | exact trivial | assumption | exact nt (by assumption) | exact nf (by assumption) | exact nnt (by assumption) | exact nnf (by assumption) | refine And.intro ?_ ?_
      exact .inr ⟨[],[],_,_,[(6,.l0),(7,.i .i64 0)],[],rfl,by simp,st_k [] (by kernel_rfl),.refl _,OVL.refl _⟩
    have hP:decide (ofNat (P i)=(0:Int))=false:=decide_eq_false (by simp;omega)
    by_cases q2:G i=gen
    rotate_left
    · have hG:decide (ofNat (G i)=ofNat gen)=false:=decide_eq_false fun e=>q2 (Int.ofNat.inj e)
      refine ⟨_,(onF3_vc W X i (G i) (N i) (I i) (P i) (L i) (D i) n gen num (cl L i) (npS p i) ff ha hn' hP hG _).mpr ⟨ha,hn',r0,trivial,cc,trivial,?_⟩⟩
      repeat' first | exact trivial | assumption | exact nt (by assumption) | exact nf (by assumption) | exact nnt (by assumption) | exact nnf (by assumption) | refine And.intro ?_ ?_
      exact .inr ⟨[],[],_,_,[(6,.l0),(7,.i .i64 0)],[],rfl,by simp,st_k [] (by kernel_rfl),.refl _,OVL.refl _⟩
    have hG:decide (ofNat (G i)=ofNat gen)=true:=decide_eq_true (by rw [q2])
    by_cases q3:N i=num
    rotate_left
    · have hQ:decide (ofNat (N i)=ofNat num)=false:=decide_eq_false fun e=>q3 (Int.ofNat.inj e)
      refine ⟨_,(onF4_vc W X i (G i) (N i) (I i) (P i) (L i) (D i) n gen num (cl L i) (npS p i) ff ha hn' hP hG hQ _).mpr ⟨ha,hn',r0,trivial,cc,trivial,?_⟩⟩
      repeat' first | exact trivial | assumption | exact nt (by assumption) | exact nf (by assumption) | exact nnt (by assumption) | exact nnf (by assumption) | refine And.intro ?_ ?_
      exact .inr ⟨[],[],_,_,[(6,.l0),(7,.i .i64 0)],[],rfl,by simp,st_k [] (by kernel_rfl),.refl _,OVL.refl _⟩
    have hQ:decide (ofNat (N i)=ofNat num)=true:=decide_eq_true (by rw [q3])
    by_cases q4:I i=i
    rotate_left
    · have hI:decide (ofNat (I i)=ofNat i)=false:=decide_eq_false fun e=>q4 (Int.ofNat.inj e)
      refine ⟨_,(onF5_vc W X i (G i) (N i) (I i) (P i) (L i) (D i) n gen num (cl L i) (npS p i) ff ha hn' hP hG hQ hI _).mpr ⟨ha,hn',r0,trivial,cc,trivial,?_⟩⟩
      repeat' first | exact trivial | assumption | exact nt (by assumption) | exact nf (by assumption) | exact nnt (by assumption) | exact nnf (by assumption) | refine And.intro ?_ ?_
      exact .inr ⟨[],[],_,_,[(6,.l0),(7,.i .i64 0)],[],rfl,by simp,st_k [] (by kernel_rfl),.refl _,OVL.refl _⟩
    have hI:decide (ofNat (I i)=ofNat i)=true:=decide_eq_true (by rw [q4])
    obtain ⟨i0,q5⟩:0<i∧P i≠p:=by
     rcases bad with h | ⟨_,h | h | h | h | h⟩
     · exact absurd h q0
     · exact absurd h q1
     · exact absurd q2 h
     · exact absurd q3 h
     · exact absurd q4 h
     · exact h
    have hz:decide ((0:Int)<ofNat i)=true:=decide_eq_true (by simp;omega)
    have hp:decide (ofNat (P i)=ofNat (npS p i))=false:=decide_eq_false fun e=>q5 (by cases i with | zero=>omega | succ i=>exact Int.ofNat.inj e)
    refine ⟨_,(onF6_vc W X i (G i) (N i) (I i) (P i) (L i) (D i) n gen num (cl L i) (npS p i) ff ha hn' hP hG hQ hI hz hp _).mpr ⟨ha,hn',r0,trivial,cc,trivial,?_⟩⟩
    repeat' first | exact trivial | assumption | exact nt (by assumption) | exact nf (by assumption) | exact nnt (by assumption) | exact nnf (by assumption) | refine And.intro ?_ ?_
    exact .inr ⟨[],[],_,_,[(6,.l0),(7,.i .i64 0)],[],rfl,by simp,st_k [] (by kernel_rfl),.refl _,OVL.refl _⟩
 exact key.weak ⟨rfl,.inl rfl,rfl,.inl rfl,rfl,.inl rfl,rfl,.inr ⟨rfl,.inl ⟨0,1,0,false,rfl⟩⟩,rfl,.inl rfl,rfl,.inl rfl,trivial⟩ (fun o ho=>by rw [List.mem_singleton.1 ho];exact ⟨_,rfl,rfl⟩)
theorem one1_con (hn:n≤60) (hL:∀i,L i≤47) (lk:∀i,i<n→Con PG 72 [.sv 1 (W i) (X i)] [] (prV (G i) (N i) (I i) (P i) (L i) (D i)) []) (p1:1≤p) (pn:p≤n) (ok:∀i,i<p→RcOk p gen num G N I P i) :
 Con PG 75 [.sv 1 n (scF W X),.i .i64 (ofNat gen),.i .i64 (ofNat num)] [] (.tup [.sv 1 (cl L p) (byF (cb L D p)),.i .i64 (ofNat p)]) []:=by
 have k0:Con PG 75 [.sv 1 n (scF W X),.i .i64 (ofNat gen),.i .i64 (ofNat num)] [] (.tup [.sv 1 (cl L p) (shiftF 0 (byF (cb L D p))),.i .i64 (ofNat p)]) []:=
  con_of_run [0] [] ((one1_vc W X (cl L p) p (cb L D p) n gen num _).mpr ⟨on_lp n gen num p W X G N I P L D hn hL lk p1 pn ok,_,_,rfl,ret_fz [0] (((1=1∧0+cl L p≤cl L p)∧True∧True)∧True) (by kernel_rfl) (by kernel_rfl) ⟨⟨⟨rfl,by omega⟩,trivial,trivial⟩,trivial⟩ (by kernel_rfl) rfl (by kernel_rfl) (by kernel_rfl) rfl trivial⟩)
 have f0:shiftF 0 (byF (cb L D p))=byF (cb L D p):=by rw [shift_by];simp only [Nat.zero_add]
 rw [f0] at k0;exact k0
theorem one0_con (m:Nat) (hn:n≤60) (hL:∀i,L i≤47) (lk:∀i,i<n→Con PG 72 [.sv 1 (W i) (X i)] [] (prV (G i) (N i) (I i) (P i) (L i) (D i)) []) (hm:m<npS p m) (mn:m≤n) (ok:∀i,i<m→RcOk p gen num G N I P i) (p0:0<m→p≠0) (bad:OnBad n gen num p G N I P m) :
 Con PG 75 [.sv 1 n (scF W X),.i .i64 (ofNat gen),.i .i64 (ofNat num)] [] (.tup [.l0,.i .i64 0]) []:=
 con_of_run [] [] ((one0_vc W X n gen num _).mpr ⟨onNo_lp n gen num p W X G N I P L D m hn hL lk hm mn ok p0 bad,_,_,rfl,ret_k (by kernel_rfl)⟩)
end
theorem sca_vc (W:Nat→Nat) (X:Nat→Nat→Nat→CV) (R U:Nat) (M:Nat→Nat) (B:Nat→Nat→Nat) (gen:Nat) (K:Res→Orc→Prop):runK PG 1000000 (.call 47 [.sv 1 60 (scF W X),inv gen] (mkH [])) (.lop [] [0,1,6,7] 0 .ret [(4,.lr 0 1 0 R false),(5,.i .i64 (ofNat U))] [some (.rows 38 1 R (recF M B))] .z) K=(LDoes PG (loopAt PG 47 0) 31 0 (mkT [(0,.sv 1 60 (scF W X)),(1,.i .i64 (ofNat gen)),(6,.l0),(7,.i .i64 0)]) [] .ret (mkT [(4,.lr 0 1 0 R false),(5,.i .i64 (ofNat U))]) [some (.rows 38 1 R (recF M B))]∧K (.rv (.tup [.lr 0 1 0 R false,inv U]) ⟨tl (AObj.rows 38 1 R (recF M B)),1,[0]⟩) .z):=by kernel_rfl
theorem scR_vc (W:Nat→Nat) (X:Nat→Nat→Nat→CV) (Q:Nat) (FF:Nat→Nat) (N2 gen r u:Nat) (m:Nat→Nat) (b:Nat→Nat→Nat) (h0:decide (ofNat N2=0)=false) (K:Res→Orc→Prop):runK PG 1000000 (.code (loopAt PG 47 0) 31 (mkT [(0,.sv 1 60 (scF W X)),(1,.i .i64 (ofNat gen)),(6,.lr 0 1 0 r false),(7,.i .i64 (ofNat u))]) (mkH [some (.rows 38 1 r (recF m b))])) (.cal [] (.tup [.sv 1 Q (byF FF),inv N2]) [] (.f .z)) K=((fun (q1:Int)=>((fun (q0:AV)=>((0≤ofNat u∧True∧u≤60∧60≤60)∧Con PG 75 [.sv 1 (60-u) (shiftF u (scF W X)),inv gen,inv r] [] q0 []∧decide (ofNat N2=0)=false∧(0+r≤r∧True∧r+1≤140737488355328∧(3*(r+1)+1536)*24≤562949953421312)∧rg q1∧K (.st .nrm (t1 (.sv 1 60 (scF W X)) (t1 (inv gen) (t0 (t1 (.i .i64 q1) (tl (.lr 0 1 0 r false)) .e) (t1 (.sv 1 60 (scF W X)) (tn N2) (tl (.lr 2 1 0 (addN r 1) false)))) (t0 (t1 (inv N2) (tl q0) (tl (.sv 1 Q (byF FF)))) (t1 (.sv 1 (60-u) (shiftF u (scF W X))) (tl (.b (decide (ofNat N2=0)))) (tn N2)))) (t0 (t0 (t1 (.sv 1 Q (byF FF)) (tn r) (tl (.lr 0 1 0 r false))) (t1 (inv u) (tn N2) (tn u))) (t1 (.lr 2 1 0 (addN r 1) false) (t1 q0 (tl (.sv 1 Q (byF FF))) (tl (.l 1 0 1 1 1 true))) (t1 (inv gen) .e (tl (.i .i64 q1)))))) ⟨t0 (tl (.cells 38 1 [] (tl (.sv 1 Q (byF FF))))) (tl (.rows 38 1 (addN r 1) (appZ r (recF m b) (listF 1 [CV.sv 1 Q (byF FF)] 1)))),3,[2,0,1]⟩) .z)) (.tup [.sv 1 Q (byF FF),inv N2]))) (ofNat u +
 ofNat N2)):=by kernel_rfl
theorem scN_vc (W:Nat→Nat) (X:Nat→Nat→Nat→CV) (gen r u:Nat) (m:Nat→Nat) (b:Nat→Nat→Nat) (K:Res→Orc→Prop):runK PG 1000000 (.code (loopAt
 PG 47 0) 31 (mkT [(0,.sv 1 60 (scF W X)),(1,.i .i64 (ofNat gen)),(6,.lr 0 1 0 r false),(7,.i .i64 (ofNat u))]) (mkH [some (.rows 38 1 r (recF m b))]))
 (Orc.cal [] (AV.tup [AV.l0,AV.i .i64 0]) [] (Orc.c Orc.z)) K=((0≤ofNat u∧True∧u≤60∧60≤60)∧Con PG 75 [AV.sv 1 (60-u) (shiftF u (scF W X)),AV.i .i64
 (ofNat gen),AV.i .i64 (ofNat r)] [] (AV.tup [AV.l0,AV.i .i64 0]) []∧K (Res.st XO.ret (T.n (some (AV.sv 1 60 (scF W X))) (T.n (some (AV.i .i64 (ofNat gen))) (T.n
 none (T.n (some (AV.i .i64 (ofNat u))) (T.n (some (AV.lr 0 1 0 r false)) T.e T.e) (T.n (some (AV.i .i64 (ofNat u))) T.e T.e)) (T.n (some (AV.sv 1 60 (scF W X))) (T.n (some
 (AV.i .i64 0)) T.e T.e) T.e)) (T.n (some (AV.i .i64 (ofNat u))) (T.n (some (AV.i .i64 0)) (T.n (some (AV.tup [AV.l0,AV.i .i64 0])) T.e T.e) T.e) (T.n (some (AV.sv 1 (60-u)
 (shiftF u (scF W X)))) (T.n (some (AV.b true)) T.e T.e) T.e))) (T.n none (T.n (some (AV.lr 0 1 0 r false)) (T.n (some AV.l0) (T.n (some (AV.i .i64 (ofNat r))) T.e T.e) T.e)
 (T.n (some (AV.i .i64 (ofNat u))) (T.n (some (AV.i .i64 0)) T.e T.e) T.e)) (T.n (some (AV.lr 0 1 0 r false)) (T.n (some (AV.tup [AV.l0,AV.i .i64 0])) (T.n (some AV.l0) T.e
 T.e) T.e) (T.n (some (AV.i .i64 (ofNat gen))) (T.n (some (AV.lr 0 1 0 r false)) T.e T.e) T.e)))) ⟨T.n (some (AObj.rows 38 1 r (recF m b))) T.e T.e,1,[]⟩) Orc.z):=by
 kernel_rfl
theorem first_bad (R:Nat→Prop):∀B:Nat,(∀i,i<B→R i)∨∃q,q<B∧¬R q∧∀i,i<q→R i
 | 0=>.inl fun i hi=>absurd hi (Nat.not_lt_zero _)
 | B+1=>by
   rcases first_bad R B with h | ⟨q,h1,h2,h3⟩
   · by_cases hq:R B
     · exact .inl fun i hi=>by
        rcases Nat.lt_or_ge i B with h' | h'
        · exact h i h'
        · have:i=B:=by omega
          subst this;exact hq
     · exact .inr ⟨B,by omega,hq,h⟩
   · exact .inr ⟨q,by omega,h2,h3⟩
theorem no_stop (n gen num:Nat) (G N I P:Nat→Nat) (no:¬(P 0≤n∧1≤P 0∧∀i,i<P 0→RcOk (P 0) gen num G N I P i)) :
 ∃m,m<npS (P 0) m∧m≤n∧(∀i,i<m→RcOk (P 0) gen num G N I P i)∧(0<m→P 0≠0)∧OnBad n gen num (P 0) G N I P m:=by
 by_cases n0:n=0
 · exact ⟨0,Nat.zero_lt_one,Nat.zero_le _,fun i hi=>absurd hi (Nat.not_lt_zero _),fun h=>absurd h (Nat.lt_irrefl _),.inl (by omega)⟩
 by_cases p0:P 0=0
 · exact ⟨0,Nat.zero_lt_one,Nat.zero_le _,fun i hi=>absurd hi (Nat.not_lt_zero _),fun h=>absurd h (Nat.lt_irrefl _),.inr ⟨by omega,.inl p0⟩⟩
 rcases first_bad (RcOk (P 0) gen num G N I P) (min (P 0) n) with h | ⟨q,h1,h2,h3⟩
 · have hp:n<P 0:=by
    rcases Nat.lt_or_ge n (P 0) with h' | h'
    · exact h'
    · exact absurd ⟨h',by omega,fun i hi=>h i (by omega)⟩ no
   exact ⟨n,npS_lt hp,Nat.le_refl _,fun i hi=>h i (by omega),fun _=>p0,.inl (Nat.le_refl _)⟩
 · refine ⟨q,npS_lt (by omega),by omega,h3,fun _=>p0,.inr ⟨by omega,?_⟩⟩
   by_cases q2:G q=gen
   rotate_left
   · exact .inr (.inl q2)
   by_cases q3:N q=num
   rotate_left
   · exact .inr (.inr (.inl q3))
   by_cases q4:I q=q
   rotate_left
   · exact .inr (.inr (.inr (.inl q4)))
   have q5:P q≠P 0:=fun e=>h2 ⟨q2,q3,q4,e⟩
   refine .inr (.inr (.inr (.inr ⟨?_,q5⟩)))
   rcases Nat.eq_zero_or_pos q with e | e
   · subst e;exact absurd rfl q5
   · exact e
section
variable (gen c:Nat) (W:Nat→Nat) (X:Nat→Nat→Nat→CV) (G N I P L:Nat→Nat) (D:Nat→Nat→Nat)
theorem sc_lp (hL:∀i,L i≤47) (lk:∀i,i<60→Con PG 72 [.sv 1 (W i) (X i)] [] (prV (G i) (N i) (I i) (P i) (L i) (D i)) []) (st:∀r,r<c→StAt gen G N I P (jU P r) r) (no:¬StAt gen G N I P (jU P c) c) :
 LDoes PG (loopAt PG 47 0) 31 0 (mkT [(0,.sv 1 60 (scF W X)),(1,.i .i64 (ofNat gen)),(6,.l0),(7,.i .i64 0)]) [] .ret (mkT [(4,.lr 0 1 0 c false),(5,.i .i64 (ofNat (jU P c)))]) [some (.rows 38 1 c (recF (jm P L) (jb P L D)))]:=by
 have key:LDoes PG (loopAt PG 47 0) 31 0 (mkT [(0,.sv 1 60 (scF W X)),(1,.i .i64 (ofNat gen)),(6,.lr 0 1 0 0 false),(7,.i .i64 0)]) [some (.rows 38 1 0 (recF (fun _=>0) fun _ _=>0))] .ret (mkT [(4,.lr 0 1 0 c false),(5,.i .i64 (ofNat (jU P c)))]) [some (.rows 38 1 c (recF (jm P L) (jb P L D)))]:=by
  refine loop_indV (D:=Nat×(Nat→Nat)×(Nat→Nat→Nat)) (l':=[(4,.lr 0 1 0 c false),(5,.i .i64 (ofNat (jU P c)))]) (fun d=>([(0,.sv 1 60 (scF W X)),(1,.i .i64 (ofNat gen)),(6,.lr 0 1 0 d.1 false),(7,.i .i64 (ofNat (jU P d.1)))],[some (.rows 38 1 d.1 (recF d.2.1 d.2.2))])) (fun d=>c-d.1)
   (fun d=>d.1≤c∧∀t,t<d.1→d.2.1 t=jm P L t∧d.2.2 t=jb P L D t) ?_ (0,(fun _=>0),fun _ _=>0) ⟨Nat.zero_le _,fun t ht=>absurd ht (Nat.not_lt_zero _)⟩
  rintro ⟨r,m,b⟩ ⟨hr,h1⟩
  simp only at hr h1
  have hu:=jU_le r fun t ht=>st t (by omega)
  have r0:0≤ofNat (jU P r)∧True∧jU P r≤60∧60≤60:=⟨by simp,trivial,hu.1,Nat.le_refl _⟩
  have hs:shiftF (jU P r) (scF W X)=scF (fun i=>W (jU P r+i)) (fun i=>X (jU P r+i)):=by funext i j;rw [shiftF_eq];rfl
  have lk':∀i,i<60-jU P r→Con PG 72 [.sv 1 (W (jU P r+i)) (X (jU P r+i))] [] (prV (G (jU P r+i)) (N (jU P r+i)) (I (jU P r+i)) (P (jU P r+i)) (L (jU P r+i)) (D (jU P r+i))) []:=fun i hi=>lk _ (by omega)
  by_cases hlt:r<c
  · obtain ⟨a1,a2,a3⟩:=st r hlt
    have h0:decide (ofNat (P (jU P r))=(0:Int))=false:=decide_eq_false (by simp;omega)
    have w:=one1_con (60-jU P r) gen r (P (jU P r)) (fun i=>W (jU P r+i)) (fun i=>X (jU P r+i)) (fun i=>G (jU P r+i)) (fun i=>N (jU P r+i)) (fun i=>I (jU P r+i)) (fun i=>P (jU P r+i)) (fun i=>L (jU P r+i)) (fun i=>D (jU P r+i)) (by omega) (fun i=>hL _) lk' a2 a1 a3
    rw [←hs] at w
    have r1:0+r≤r∧True∧r+1≤140737488355328∧(3*(r+1)+1536)*24≤562949953421312:=⟨by omega,trivial,by omega,by omega⟩
    have r2:(-9223372036854775808:Int)≤ofNat (jU P r)+ofNat (P (jU P r))∧ofNat (jU P r)+ofNat (P (jU P r))≤9223372036854775807:=⟨by simp<;>omega,by simp<;>omega⟩
    refine ⟨Nat.zero_le _,1000000,_,(scR_vc W X (jm P L r) (jb P L D r) (P (jU P r)) gen r (jU P r) m b h0 _).mpr ?_⟩
    repeat' first | exact trivial | assumption | refine And.intro ?_ ?_
    refine .inl ⟨(r+1,jm P L,jb P L D),[2],[],_,_,[(0,.sv 1 60 (scF W X)),(1,.i .i64 (ofNat gen)),(6,.lr 0 1 0 (addN r 1) false),(7,.i .i64 (ofNat (jU P r)+ofNat (P (jU P r))))],
     [some (.rows 38 1 (addN r 1) (appZ r (recF m b) (listF 1 [CV.sv 1 (jm P L r) (byF (jb P L D r))] 1)))],⟨hlt,fun t _=>⟨rfl,rfl⟩⟩,by simp only;omega,rfl,st_k [2] (by kernel_rfl),?_,?_⟩
    · rw [addN_eq];exact .refl _
    · rw [addN_eq]
      refine ⟨.rowsW fun t j ht hj=>?_,trivial⟩
      obtain rfl:j=0:=by omega
      refine (appZ_CW _ _ _ _ _).trans ?_
      by_cases hc:t<r
      · rw [show Nat.blt t r=true from by rw [Nat.blt_eq];exact hc,cond_true]
        refine .of ?_
        show CV.sv 1 (m t) (byF (b t))=CV.sv 1 (jm P L t) (byF (jb P L D t))
        rw [(h1 t hc).1,(h1 t hc).2]
      · rw [show Nat.blt t r=false from by rw [Bool.eq_false_iff,ne_eq,Nat.blt_eq];exact hc,cond_false]
        have:t=r:=by omega
        subst this
        rw [Nat.sub_self];exact .refl _
  · have:r=c:=by omega
    subst this
    have fin:OVL [some (.rows 38 1 r (recF m b))] [some (.rows 38 1 r (recF (jm P L) (jb P L D)))]:=⟨.rowsW fun t j ht hj=>.of (by
     show CV.sv 1 (m t) (byF (b t))=CV.sv 1 (jm P L t) (byF (jb P L D t))
     rw [(h1 t ht).1,(h1 t ht).2]),trivial⟩
    obtain ⟨q,b1,b2,b3,b4,b5⟩:=no_stop (60-jU P r) gen r (fun i=>G (jU P r+i)) (fun i=>N (jU P r+i)) (fun i=>I (jU P r+i)) (fun i=>P (jU P r+i)) fun h=>no ⟨h.1,h.2.1,h.2.2⟩
    have w:=one0_con (60-jU P r) gen r (P (jU P r+0)) (fun i=>W (jU P r+i)) (fun i=>X (jU P r+i)) (fun i=>G (jU P r+i)) (fun i=>N (jU P r+i)) (fun i=>I (jU P r+i)) (fun i=>P (jU P r+i)) (fun i=>L (jU P r+i)) (fun i=>D (jU P r+i)) q (by omega) (fun i=>hL _) lk' b1 b2 b3 b4 b5
    rw [←hs] at w
    refine ⟨Nat.zero_le _,1000000,_,(scN_vc W X gen r (jU P r) m b _).mpr ?_⟩
    repeat' first | exact trivial | assumption | refine And.intro ?_ ?_
    exact .inr ⟨[0],[],_,_,[(4,.lr 0 1 0 r false),(5,.i .i64 (ofNat (jU P r)))],[some (.rows 38 1 r (recF m b))],rfl,by simp,st_k [0] (by kernel_rfl),.refl _,fin⟩
 exact key.weak ⟨rfl,.inl rfl,rfl,.inl rfl,rfl,.inr ⟨rfl,.inl ⟨0,1,0,false,rfl⟩⟩,rfl,.inl rfl,trivial⟩ (fun o ho=>by rw [List.mem_singleton.1 ho];exact ⟨_,rfl,rfl⟩)
theorem scan_con (hL:∀i,L i≤47) (lk:∀i,i<60→Con PG 72 [.sv 1 (W i) (X i)] [] (prV (G i) (N i) (I i) (P i) (L i) (D i)) []) (st:∀r,r<c→StAt gen G N I P (jU P r) r) (no:¬StAt gen G N I P (jU P c) c) :
 Con PG 47 [.sv 1 60 (scF W X),.i .i64 (ofNat gen)] [] (.tup [.sv 1 c (recF (jm P L) (jb P L D)),.i .i64 (ofNat (jU P c))]) [.gone]:=by
 have k0:Con PG 47 [.sv 1 60 (scF W X),.i .i64 (ofNat gen)] [] (.tup [.lr 0 1 0 c false,.i .i64 (ofNat (jU P c))]) [.set (.rows 38 1 c (recF (jm P L) (jb P L D)))]:=
  con_of_run [] [0] ((sca_vc W X c (jU P c) (jm P L) (jb P L D) gen _).mpr ⟨sc_lp gen c W X G N I P L D hL lk st no,_,_,rfl,ret_k (by kernel_rfl)⟩)
 exact (k0.freeze (us':=[.gone]) (v':=.tup [.sv 1 c (shiftF 0 (recF (jm P L) (jb P L D))),.i .i64 (ofNat (jU P c))]) 0 rfl ⟨rfl,trivial⟩ (.inr ⟨by kernel_rfl,⟨rfl,by omega⟩,trivial,trivial⟩))
end
theorem cut_vc (NP:Nat) (F:Nat→Nat→CV) (gen num L:Nat) (bs:Nat→Nat) (K:Res→Orc→Prop):runK PG 1000000 (.call 61 [inv gen,inv num,.sv 1 L (byF bs)] (mkH [])) (.cal [] (inv NP) [] (.lop [] [0,1,2,7,8,9] 0 (.exit 0) [(8,.lr 0 5 0 NP false)] [some (.rows 93 5 NP F)] .z)) K=(Con PG 58 [inv L] [] (inv NP) []∧LDoes PG (loopAt PG 61 0) 39 0 (mkT [(0,.i .i64 (ofNat gen)),(1,.i .i64 (ofNat num)),(2,.sv 1 L (byF bs)),(7,.i .i64 (ofNat NP)),(8,.l0),(9,.i .i64 0)]) [] (.exit 0) (mkT [(8,.lr 0 5 0 NP false)]) [some (.rows 93 5 NP F)]∧K (.rv (.lr 0 5 0 NP false) ⟨tl (AObj.rows 93 5 NP F),1,[0]⟩) .z):=by kernel_rfl
theorem cutR_vc (gen num L np k:Nat) (bs:Nat→Nat) (F:Nat→Nat→CV) (h:decide (ofNat k<ofNat np)=true) (K:Res→Orc→Prop):runK PG 1000000 (.code (loopAt PG 61 0) 39 (mkT [(0,.i .i64 (ofNat gen)),(1,.i .i64 (ofNat num)),(2,.sv 1 L (byF bs)),(7,.i .i64 (ofNat np)),(8,.lr 0 5 0 k false),(9,.i .i64 (ofNat k))]) (mkH [some (.rows 93 5 k F)])) (.t .z) K=((fun (q0:Int)=>(decide (ofNat k<ofNat np)=true∧rg (ofNat k+1)∧rg ((ofNat k+1)*47)∧rg (ofNat k*47)∧(0≤ofNat k*47∧(0≤if ofNat L<(ofNat k+1)*47 then ofNat L else (ofNat k+1)*47)∧Int.toNat (ofNat k*47)≤Int.toNat q0∧Int.toNat q0≤L)∧(0+k≤k∧True∧k+1≤140737488355328∧(3*(k+1)+1536)*56≤562949953421312)∧rg (ofNat k+1)∧K (.st .nrm (t1 (inv gen) (t1 (inv num) (t0 (t1 (inv np) (t1 (inv np) (tn k) .e) (tn L)) (t0 (t1 (inv k) (tl (.agg [inv gen,inv num,inv k,inv np,.sv 1 (Int.toNat q0-Int.toNat (ofNat k*47)) (shiftF (Int.toNat (ofNat k*47)) (byF bs))])) .e) (tn num))) (t0 (t1 (.i .i64 (ofNat k+1)) (t1 (inv k) (tl (.i .i64 q0)) .e) (tl (.lr 0 5 0 k false))) (t0 (t1 (.i .i64 ((ofNat k+1)*47)) (tl (.lr 2 5 0 (addN k 1) false)) .e) (tn np)))) (t1 (.sv 1 L (byF bs)) (t0 (t1 (.lr 2 5 0 (addN k 1) false) (t1 (.b (decide (ofNat k<ofNat np))) (tl (.i .i64 (ofNat k*47))) .e) (tl (.i .i64 q0))) (t0 (t1 (.i .i64 (ofNat k +
 1)) (tl (.l 1 0 1 1 5 true)) .e) (tn k))) (t0 (t1 (.i .i64 q0) (t1 (.i .i64 (ofNat k+1)) (tl (.sv 1 (Int.toNat q0-Int.toNat (ofNat k*47)) (shiftF (Int.toNat (ofNat k*47)) (byF bs)))) .e) (tn gen)) (t1 (inv k) (tl (.sv 1 L (byF bs))) (tl (.sv 1 L (byF bs))))))) ⟨t0 (tl (.cells 93 5 [] (t1 (inv gen) (t1 (inv num) (tn np) .e) (t1 (inv k) (tl (.sv 1 (Int.toNat q0-Int.toNat (ofNat k*47)) (shiftF (Int.toNat (ofNat k*47)) (byF bs)))) .e)))) (tl (.rows 93 5 (addN k 1) (appZ k F (listF 5 [CV.i .i64 (ofNat gen),CV.i .i64 (ofNat num),CV.i .i64 (ofNat k),CV.i .i64 (ofNat np),CV.sv 1 (Int.toNat q0-Int.toNat (ofNat k*47)) (shiftF (Int.toNat (ofNat k*47)) (byF bs))] 1)))),3,[2,0,1]⟩) .z)) (if ofNat L<(ofNat k+1)*47 then ofNat L else (ofNat k+1)*47)):=by kernel_rfl
theorem cutE_vc (gen num L np k:Nat) (bs:Nat→Nat) (F:Nat→Nat→CV) (h:decide (ofNat k<ofNat np)=false) (K:Res→Orc→Prop):runK PG 1000000 (.code (loopAt PG 61 0) 39 (mkT [(0,.i .i64 (ofNat gen)),(1,.i .i64 (ofNat num)),(2,.sv 1 L (byF bs)),(7,.i .i64 (ofNat np)),(8,.lr 0 5 0 k false),(9,.i .i64 (ofNat k))]) (mkH [some (.rows 93 5 k F)])) (.f .z) K=(decide (ofNat k<ofNat np)=false∧K (.st (.exit 0) (t1 (inv gen) (t1 (inv num) (t0 (t1 (inv np) (tn np) .e) .e) (t0 (tn k) .e)) (t1 (.sv 1 L (byF bs)) (t0 (t1 (.lr 0 5 0 k false) (tl (.b (decide (ofNat k<ofNat np)))) .e) .e) (t0 .e (tn k)))) ⟨tl (AObj.rows 93 5 k F),1,[]⟩) .z):=by kernel_rfl
def cutF (gen num L np:Nat) (bs:Nat→Nat):Nat→Nat→CV:=fun i j=>match j with
 | 0=>.i .i64 (ofNat gen)
 | 1=>.i .i64 (ofNat num)
 | 2=>.i .i64 (ofNat i)
 | 3=>.i .i64 (ofNat np)
 | _+4=>.sv 1 (pl L i) (byF fun t=>bs (i*47+t))
def cuE (L k:Nat):Int:=if ofNat L<(ofNat k+1)*47 then ofNat L else (ofNat k+1)*47
theorem cuE_eq (L k:Nat):cuE L k=ofNat (min ((k+1)*47) L):=by
 unfold cuE
 by_cases h:L<(k+1)*47
 · rw [if_pos (by simp;omega),Nat.min_eq_right (by omega)]
 · rw [if_neg (by simp;omega),Nat.min_eq_left (by omega)];simp
theorem np_lt {L k:Nat} (h:k<npF L):k*47≤L:=by
 unfold npF at h
 split at h<;>omega
theorem np_le {L:Nat} (h:L≤1128):npF L≤24:=by
 unfold npF
 split<;>omega
theorem cut_cw (gen num L np k:Nat) (bs:Nat→Nat) {i j:Nat} (hi:i<addN k 1) (hj:j<5) :
 CW (appZ k (cutF gen num L np bs) (listF 5 [CV.i .i64 (ofNat gen),CV.i .i64 (ofNat num),CV.i .i64 (ofNat k),CV.i .i64 (ofNat np),CV.sv 1 (Int.toNat (cuE L k)-Int.toNat (ofNat k*47)) (shiftF (Int.toNat (ofNat k*47)) (byF bs))] 1) i j) (cutF gen num L np bs i j):=by
 rw [addN_eq] at hi
 refine (appZ_CW _ _ _ _ _).trans ?_
 by_cases h:i<k
 · rw [bltT' h,cond_true];exact .refl _
 · have:i=k:=by omega
   subst this
   rw [bltF' h,cond_false,Nat.sub_self]
   have e:Int.toNat (cuE L i)-Int.toNat (ofNat i*47)=pl L i:=by rw [cuE_eq];rfl
   have e2:shiftF (Int.toNat (ofNat i*47)) (byF bs)=byF fun t=>bs (i*47+t):=shift_by _ _
   rw [e,e2]
   have:j=0∨j=1∨j=2∨j=3∨j=4:=by omega
   rcases this with rfl | rfl | rfl | rfl | rfl<;>exact .of (Eq.refl _)
def cuI (gen num L np:Nat) (bs:Nat→Nat) (k:Nat):List (Nat×AV)×List (Option AObj):=([(0,.i .i64 (ofNat gen)),(1,.i .i64 (ofNat num)),(2,.sv 1 L (byF bs)),(7,.i .i64 (ofNat np)),(8,.lr 0 5 0 k false),(9,.i .i64 (ofNat k))],[some (.rows 93 5 k (cutF gen num L np bs))])
theorem cut_lp (gen num L:Nat) (bs:Nat→Nat) (hL:L≤1128) :
 LDoes PG (loopAt PG 61 0) 39 0 (mkT [(0,.i .i64 (ofNat gen)),(1,.i .i64 (ofNat num)),(2,.sv 1 L (byF bs)),(7,.i .i64 (ofNat (npF L))),(8,.l0),(9,.i .i64 0)]) [] (.exit 0) (mkT [(8,.lr 0 5 0 (npF L) false)]) [some (.rows 93 5 (npF L) (cutF gen num L (npF L) bs))]:=by
 have n24:=np_le hL
 have key:LDoes PG (loopAt PG 61 0) 39 0 (mkT (cuI gen num L (npF L) bs 0).1) (cuI gen num L (npF L) bs 0).2 (.exit 0) (mkT [(8,.lr 0 5 0 (npF L) false)]) [some (.rows 93 5 (npF L) (cutF gen num L (npF L) bs))]:=by
  refine loop_indV (D:=Nat) (l':=[(8,.lr 0 5 0 (npF L) false)]) (cuI gen num L (npF L) bs) (fun k=>npF L-k) (fun k=>k≤npF L) ?_ 0 (Nat.zero_le _)
  intro k hk
  by_cases c:k<npF L
  · have h:decide (ofNat k<ofNat (npF L))=true:=decide_eq_true (by simp;omega)
    have hk47:=np_lt c
    have e2:Int.toNat (cuE L k)=min ((k+1)*47) L:=by rw [cuE_eq];rfl
    have e1:Int.toNat (ofNat k*47)=k*47:=rfl
    have g0:(0:Int)≤cuE L k:=by rw [cuE_eq];exact Int.natCast_nonneg _
    refine ⟨Nat.zero_le _,1000000,_,(cutR_vc gen num L (npF L) k bs (cutF gen num L (npF L) bs) h _).mpr ⟨h,⟨by simp;omega,by simp;omega⟩,⟨by simp;omega,by simp;omega⟩,⟨by simp;omega,by simp;omega⟩,⟨by simp;omega,g0,by show Int.toNat (ofNat k*47)≤Int.toNat (cuE L k);rw [e1,e2];omega,by show Int.toNat (cuE L k)≤L;rw [e2];omega⟩,⟨by omega,trivial,by omega,by omega⟩,⟨by simp;omega,by simp;omega⟩,
     .inl ⟨k+1,[2],[],_,_,[(0,.i .i64 (ofNat gen)),(1,.i .i64 (ofNat num)),(2,.sv 1 L (byF bs)),(7,.i .i64 (ofNat (npF L))),(8,.lr 0 5 0 (addN k 1) false),(9,.i .i64 (ofNat k+1))],[some (.rows 93 5 (addN k 1) (appZ k (cutF gen num L (npF L) bs) (listF 5 [CV.i .i64 (ofNat gen),CV.i .i64 (ofNat num),CV.i .i64 (ofNat k),CV.i .i64 (ofNat (npF L)),CV.sv 1 (Int.toNat (cuE L k)-Int.toNat (ofNat k*47)) (shiftF (Int.toNat (ofNat k*47)) (byF bs))] 1)))],c,by show npF L-(k+1)<npF L-k;omega,rfl,st_k [2] (by kernel_rfl),?_,?_⟩⟩⟩
    · rw [addN_eq];exact .refl _
    · have:OVL [some (.rows 93 5 (addN k 1) (appZ k (cutF gen num L (npF L) bs) (listF 5 [CV.i .i64 (ofNat gen),CV.i .i64 (ofNat num),CV.i .i64 (ofNat k),CV.i .i64 (ofNat (npF L)),CV.sv 1 (Int.toNat (cuE L k)-Int.toNat (ofNat k*47)) (shiftF (Int.toNat (ofNat k*47)) (byF bs))] 1)))] [some (.rows 93 5 (addN k 1) (cutF gen num L (npF L) bs))]:=⟨.rowsW fun i j hi hj=>cut_cw gen num L (npF L) k bs hi hj,trivial⟩
      rw [addN_eq] at this⊢;exact this
  · have e:k=npF L:=by omega
    subst e
    have h:decide (ofNat (npF L)<ofNat (npF L))=false:=decide_eq_false (by simp)
    exact ⟨Nat.zero_le _,1000000,_,(cutE_vc gen num L (npF L) (npF L) bs (cutF gen num L (npF L) bs) h _).mpr ⟨h,.inr ⟨[0],[],_,_,[(8,.lr 0 5 0 (npF L) false)],[some (.rows 93 5 (npF L) (cutF gen num L (npF L) bs))],rfl,by simp,st_k [0] (by kernel_rfl),.refl _,.refl _⟩⟩⟩
 exact key.weak ⟨rfl,.inl rfl,rfl,.inl rfl,rfl,.inl rfl,rfl,.inl rfl,rfl,.inr ⟨rfl,.inl ⟨0,5,0,false,rfl⟩⟩,rfl,.inl rfl,trivial⟩ (fun o ho=>by rw [List.mem_singleton.1 ho];exact ⟨_,rfl,rfl⟩)
theorem cut_con (gen num L:Nat) (bs:Nat→Nat) (hL:L≤1128):Con PG 61 [.i .i64 (ofNat gen),.i .i64 (ofNat num),.sv 1 L (byF bs)] [] (.sv 5 (npF L) (cutF gen num L (npF L) bs)) []:=by
 have k0:Con PG 61 [.i .i64 (ofNat gen),.i .i64 (ofNat num),.sv 1 L (byF bs)] [] (.sv 5 (npF L) (shiftF 0 (cutF gen num L (npF L) bs))) []:=
  con_of_run [0] [] ((cut_vc (npF L) (cutF gen num L (npF L) bs) gen num L bs _).mpr ⟨rparts_con L (by omega),cut_lp gen num L bs hL,_,_,rfl,ret_fz [0] ((5=5∧0+npF L≤npF L)∧True) (by kernel_rfl) (by kernel_rfl) ⟨⟨rfl,by omega⟩,trivial⟩ (by kernel_rfl) rfl (by kernel_rfl) (by kernel_rfl) rfl trivial⟩)
 exact k0.post (.svW fun i j hi hj=>.of (by rw [shiftF_eq,Nat.zero_add])) (OVL.refl _)
def rjO (g a r u:Nat) (d:Bool):AObj:=.cells 53 6 [] (setAll .e 0 [.p 0 0,.i .i64 (ofNat g),.i .i64 (ofNat a),.i .i64 (ofNat r),.i .i64 (ofNat u),.b d])
theorem set_vc (s t:SS) (e:Int) (g a r u:Nat) (d:Bool) (K:Res→Orc→Prop):runK PG 1000000 (.call 62 [.p 2 0] (mkH [some (rsA 3 s),some (rsR s),some (rjO g a r u d),some (rsP s)])) (.cal [0,1,3] (.i .i64 e) [.set (rsA 2 t),.set (rsR t),.set (rsP t)] (.s .z .z)) K=(True∧Con PG 46 [.p 0 0] [some (rsA 2 s),some (rsR s),some (rsP s)] (.i .i64 e) [.set (rsA 2 t),.set (rsR t),.set (rsP t)]∧((!decide (e=0))=true→True∧K (.rv (.i .i64 13) ⟨t1 (rsA 3 t) (t1 (rsR t) (tl (rsP t)) .e) (tl (.cells 53 6 [] (t1 (.p 0 0) (t1 (inv g) (tn r) tb) (t1 (inv a) (tn u) .e)))),4,[2,3,1,0]⟩) .z)∧((!decide (e=0))=false→K (.rv (.i .i64 0) ⟨t1 (rsA 3 t) (t1 (rsR t) (tl (rsP t)) .e) (tl (.cells 53 6 [] (t1 (.p 0 0) (t1 (inv g) (tn r) (tl (.b d))) (t1 (inv a) (tn u) .e)))),4,[3,1,0]⟩) .z)):=by kernel_rfl
theorem set_con (s:SS) (g a r u:Nat) (d:Bool) (hl:s.P.length≤1073741824) (ha:∀w∈s.P,w.1<s.n) :
 Con PG 62 [.p 2 0] [some (rsA 3 s),some (rsR s),some (rjO g a r u d),some (rsP s)] (.i .i64 (bif decide (s.faultE=0) then 0 else 13)) [.set (rsA 3 s.bar),.set (rsR s.bar),.set (rjO g a r u (d || !decide (s.faultE=0))),.set (rsP s.bar)]:=by
 have k:=rbar2_con s hl ha
 by_cases h:s.faultE=0
 · have e:decide (s.faultE=0)=true:=decide_eq_true h
   rw [e,cond_true,show (d || !true)=d by simp]
   exact con_of_run [] [] ((set_vc s s.bar s.faultE g a r u d _).mpr ⟨trivial,k,fun q=>(by rw [e] at q;cases q),fun _=>⟨_,_,rfl,ret_k (by kernel_rfl)⟩⟩)
 · have e:decide (s.faultE=0)=false:=decide_eq_false h
   rw [e,cond_false,show (d || !false)=true by simp]
   exact con_of_run [] [] ((set_vc s s.bar s.faultE g a r u d _).mpr ⟨trivial,k,fun _=>⟨trivial,_,_,rfl,ret_k (by kernel_rfl)⟩,fun q=>(by rw [e] at q;cases q)⟩)
abbrev wL (s:SS) (g a r u:Nat) (d:Bool):List (Option AObj):=[some (rsA 3 s),some (rsR s),some (rjO g a r u d),some (rsP s)]
abbrev lyT (at0 np k:Nat) (F:Nat→Nat→CV):List (Nat×AV):=[(0,.p 2 0),(1,.i .i64 (ofNat at0)),(2,.sv 5 np F),(7,.i .i64 (ofNat k))]
theorem layG_lq (s w:SS) (e:Int) (CB:Nat→Nat→Nat) (at0 gen num L np:Nat) (bs:Nat→Nat) (g a r u k:Nat) (d:Bool) (h:decide (ofNat k<ofNat np)=true) (h2:decide (e=0)=true):LD PG (loopAt PG 60 0) 33 3 [(0,.p 2 0),(1,.i .i64 (ofNat at0)),(2,.sv 5 np (cutF gen num L np bs)),(7,.i .i64 (ofNat k))] [some (rsA 3 s),some (rsR s),some (rjO g a r u d),some (rsP s)] (.t (.cal [] (.sv 1 64 (byF (CB k))) [] (.cal [0,1,3] (.i .i64 e) [.set (rsA 3 w),.keep,.gone,.set (rsP w)] (.f .z)))) .nrm [0,1,2,4] [(0,.p 2 0),(1,.i .i64 (ofNat at0)),(2,.sv 5 np (cutF gen num L np bs)),(7,.i .i64 (ofNat k+1))] [some (rsA 3 w),some (rsR s),some (rjO g a r u d),some (rsP w)] 5 (fun Lf=>decide (ofNat k<ofNat np)=true∧True∧rg (ofNat at0+ofNat k)∧(0≤ofNat k∧ofNat k<↑np)∧True∧Con PG 45 [.agg [.i .i64 (ofNat gen),.i .i64 (ofNat num),.i .i64 (ofNat k),.i .i64 (ofNat np),.sv 1 (pl L k) (byF fun t=>bs (k*47+t))]] [] (.sv 1 64 (byF (CB k))) []∧Con PG 44 [.p 0 0,.i .i64 (ofNat at0+ofNat k),.sv 1 64 (byF (CB k))] [some (rsA 2 s),some (rsR s),some (rsP s)] (.i .i64 e) [.set (rsA 3 w),.keep,.gone,.set (rsP w)]∧(!decide (e=0))=false∧rg (ofNat k+1)∧Lf):=by unfold LD LQ;kernel_rfl
theorem layF_lq (s w:SS) (e:Int) (CB:Nat→Nat→Nat) (at0 gen num L np:Nat) (bs:Nat→Nat) (g a r u k:Nat) (d:Bool) (h:decide (ofNat k<ofNat np)=true) (h2:decide (e=0)=false):LD PG (loopAt PG 60 0) 33 3 [(0,.p 2 0),(1,.i .i64 (ofNat at0)),(2,.sv 5 np (cutF gen num L np bs)),(7,.i .i64 (ofNat k))] [some (rsA 3 s),some (rsR s),some (rjO g a r u d),some (rsP s)] (.t (.cal [] (.sv 1 64 (byF (CB k))) [] (.cal [0,1,3] (.i .i64 e) [.set (rsA 3 w),.keep,.gone,.set (rsP w)] (.t .z)))) .ret [0,1,2,4] [(6,.i .i64 13)] [some (rsA 3 w),some (rsR s),some (rjO g a r u true),some (rsP w)] 5 (fun Lf=>decide (ofNat k<ofNat np)=true∧True∧rg (ofNat at0+ofNat k)∧(0≤ofNat k∧ofNat k<↑np)∧True∧Con PG 45 [.agg [.i .i64 (ofNat gen),.i .i64 (ofNat num),.i .i64 (ofNat k),.i .i64 (ofNat np),.sv 1 (pl L k) (byF fun t=>bs (k*47+t))]] [] (.sv 1 64 (byF (CB k))) []∧Con PG 44 [.p 0 0,.i .i64 (ofNat at0+ofNat k),.sv 1 64 (byF (CB k))] [some (rsA 2 s),some (rsR s),some (rsP s)] (.i .i64 e) [.set (rsA 3 w),.keep,.gone,.set (rsP w)]∧(!decide (e=0))=true∧True∧Lf):=by unfold LD LQ;kernel_rfl
theorem layO_lq (s:SS) (e:Int) (CB:Nat→Nat→Nat) (at0 gen num L np:Nat) (bs:Nat→Nat) (g a r u k:Nat) (d:Bool) (h:decide (ofNat k<ofNat np)=true) (h2:decide (e=0)=false):LD PG (loopAt PG 60 0) 33 3 [(0,.p 2 0),(1,.i .i64 (ofNat at0)),(2,.sv 5 np (cutF gen num L np bs)),(7,.i .i64 (ofNat k))] [some (rsA 3 s),some (rsR s),some (rjO g a r u d),some (rsP s)] (.t (.cal [] (.sv 1 64 (byF (CB k))) [] (.cal [0,1,3] (.i .i64 e) [.keep,.keep,.keep] (.t .z)))) .ret [0,1,2,3] [(6,.i .i64 13)] [some (rsA 3 s),some (rsR s),some (rjO g a r u true),some (rsP s)] 4 (fun Lf=>decide (ofNat k<ofNat np)=true∧True∧rg (ofNat at0+ofNat k)∧(0≤ofNat k∧ofNat k<↑np)∧True∧Con PG 45 [.agg [.i .i64 (ofNat gen),.i .i64 (ofNat num),.i .i64 (ofNat k),.i .i64 (ofNat np),.sv 1 (pl L k) (byF fun t=>bs (k*47+t))]] [] (.sv 1 64 (byF (CB k))) []∧Con PG 44 [.p 0 0,.i .i64 (ofNat at0+ofNat k),.sv 1 64 (byF (CB k))] [some (rsA 2 s),some (rsR s),some (rsP s)] (.i .i64 e) [.keep,.keep,.keep]∧(!decide (e=0))=true∧True∧Lf):=by unfold LD LQ;kernel_rfl
theorem layE_lq (s:SS) (at0 np g a r u k:Nat) (d:Bool) (F:Nat→Nat→CV) (h:decide (ofNat k<ofNat np)=false):LD PG (loopAt PG 60 0) 33 3 [(0,.p 2 0),(1,.i .i64 (ofNat at0)),(2,.sv 5 np F),(7,.i .i64 (ofNat k))] [some (rsA 3 s),some (rsR s),some (rjO g a r u d),some (rsP s)] (.f .z) (.exit 0) [0,1,2,3] [] [some (rsA 3 s),some (rsR s),some (rjO g a r u d),some (rsP s)] 4 (fun Lf=>decide (ofNat k<ofNat np)=false∧Lf):=by unfold LD LQ;kernel_rfl
theorem lyG_vq (s w:SS) (at0 np:Nat) (F:Nat→Nat→CV) (g a r u:Nat) (d:Bool):VD PG 60 [.p 2 0,.i .i64 (ofNat at0),.sv 5 np F] [some (rsA 3 s),some (rsR s),some (rjO g a r u d),some (rsP s)] (.lop [0,1,2,3] [0,1,2,7] 3 (.exit 0) [] [some (rsA 3 w),some (rsR w),some (rjO g a r u d),some (rsP w)] .z) (.i .i64 0) [.set (rsA 4 w),.set (rsR w),.keep,.gone,.set (rsP w)] [4] 5 (fun Lf=>LDoes PG (loopAt PG 60 0) 33 3 (mkT [(0,.p 2 0),(1,.i .i64 (ofNat at0)),(2,.sv 5 np F),(7,.i .i64 0)]) [some (rsA 3 s),some (rsR s),some (rjO g a r u d),some (rsP s)] (.exit 0) (mkT []) [some (rsA 3 w),some (rsR w),some (rjO g a r u d),some (rsP w)]∧Lf):=by unfold VD VQ;kernel_rfl
theorem lyF_vq (s w:SS) (at0 np:Nat) (F:Nat→Nat→CV) (g a r u:Nat) (d:Bool):VD PG 60 [.p 2 0,.i .i64 (ofNat at0),.sv 5 np F] [some (rsA 3 s),some (rsR s),some (rjO g a r u d),some (rsP s)] (.lop [0,1,2,3] [0,1,2,7] 3 .ret [(6,.i .i64 13)] [some (rsA 3 w),some (rsR w),some (rjO g a r u true),some (rsP w)] .z) (.i .i64 13) [.set (rsA 4 w),.set (rsR w),.set (rjO g a r u true),.gone,.set (rsP w)] [4] 5 (fun Lf=>LDoes PG (loopAt PG 60 0) 33 3 (mkT [(0,.p 2 0),(1,.i .i64 (ofNat at0)),(2,.sv 5 np F),(7,.i .i64 0)]) [some (rsA 3 s),some (rsR s),some (rjO g a r u d),some (rsP s)] .ret (mkT [(6,.i .i64 13)]) [some (rsA 3 w),some (rsR w),some (rjO g a r u true),some (rsP w)]∧Lf):=by unfold VD VQ;kernel_rfl
theorem wrE_pay {s:SS} {q:Nat} (ho:s.off=false) (hq:q<s.n) (bs:Nat→Int):s.wrE (ofNat q) 64=(s.wrote q bs).payE:=by
 have hd:decide (0≤ofNat q∧ofNat q<ofNat s.n∧64=64)=true:=by simp;omega
 unfold SS.wrE;rw [ho,hd];rfl
theorem rsR_wrS (s:SS) {q:Nat} (hq:q<s.n) (bs:Nat→Int):rsR (s.wrS (ofNat q) 64 bs)=rsR s:=by
 cases ho:s.off with
 | true=>rw [wrS_off ho]
 | false=>
   rw [wrS_on ho hq]
   rcases pay_or (s.wrote q bs) with e | e | e<;>rw [e]<;>rfl
structure LyOk (c:Nat→Nat→Nat) (np at0:Nat) (R:Int×SS×Nat) (d:SS×Nat):Prop where
 k:d.2≤np
 run:runW c (np-d.2) d.1 (at0+d.2) d.2=R
 ok:∃mm,OkM d.1 mm∧mm+(np-d.2)<1073741823
 at_:at0+np≤d.1.n
theorem lay_lp (gen num L np at0 g a r u:Nat) (d:Bool) (bs:Nat→Nat) (hb:∀t,bs t<256) (R:Int×SS×Nat) (x:XO) (l':List (Nat×AV)) (objs':List (Option AObj))
 (hx:(R.1=0∧x=.exit 0∧l'=[]∧objs'=wL R.2.1 g a r u d)∨(R.1≠0∧x=.ret∧l'=[(6,.i .i64 13)]∧objs'=wL R.2.1 g a r u true)) (d0:SS×Nat) (h:LyOk (pcB gen num np L bs) np at0 R d0) (hn:np≤512) :
 LDoes PG (loopAt PG 60 0) 33 3 (mkT (lyT at0 np d0.2 (cutF gen num L np bs))) (wL d0.1 g a r u d) x (mkT l') objs':=by
 refine loop_q (D:=SS×Nat) (l':=l') (fun d'=>(lyT at0 np d'.2 (cutF gen num L np bs),wL d'.1 g a r u d)) (fun d'=>np-d'.2) (LyOk (pcB gen num np L bs) np at0 R) (fun _=>by show 3≤4;decide) ?_ d0 h
 rintro ⟨s,k⟩ ⟨hk,hR,⟨mm,ok,hm⟩,ha⟩
 simp only at hk hR ok hm ha
 have hn512:=ok.n
 by_cases c:k<np
 · obtain ⟨j,hj⟩:∃j,np-k=j+1:=⟨np-k-1,by omega⟩
   rw [hj] at hR hm
   have h0:decide (ofNat k<ofNat np)=true:=decide_eq_true (by simp;omega)
   have hq:at0+k<s.n:=by omega
   have kl:=rlay5_con gen num k np (pl L k) (fun t=>bs (k*47+t)) (pl_le L k) (fun t _=>hb _)
   have eA:ofNat at0+ofNat k=ofNat (at0+k):=rfl
   have r1:rg (ofNat at0+ofNat k):=⟨by simp;omega,by simp;omega⟩
   have r2:(0:Int)≤ofNat k∧ofNat k<(↑np:Int):=⟨by simp,by simp;omega⟩
   have r3:rg (ofNat k+1):=⟨by simp;omega,by simp;omega⟩
   have hR':(match decide (s.wrE (ofNat (at0+k)) 64=0) with
    | true=>runW (pcB gen num np L bs) j (s.wrS (ofNat (at0+k)) 64 fun t=>ofNat (pcB gen num np L bs k t)) (at0+k+1) (k+1)
    | false=>(s.wrE (ofNat (at0+k)) 64,s.wrS (ofNat (at0+k)) 64 (fun t=>ofNat (pcB gen num np L bs k t)),at0+k))=R:=hR
   cases ho:s.off with
   | true=>
     have e13:s.wrE (ofNat (at0+k)) 64=13:=by unfold SS.wrE;rw [ho]
     have w:=rwriteNo_con s (ofNat (at0+k)) 64 (fun t=>ofNat (pcB gen num np L bs k t)) (.inl ho)
     rw [e13] at w hR'
     rw [wrS_off ho] at hR'
     have hR':((13:Int),s,at0+k)=R:=hR'
     subst hR'
     rcases hx with ⟨h1,_⟩ | ⟨_,rfl,rfl,rfl⟩
     · exact absurd (show (13:Int)=0 from h1) (by decide)
     exact rd_out (layO_lq s 13 (pcB gen num np L bs) at0 gen num L np bs g a r u k d h0 rfl) ⟨h0,trivial,r1,r2,trivial,kl,w,rfl,trivial,rfl⟩ rfl rfl (.refl _) (.refl _)
   | false=>
     have w:=rwriteOk_con s (at0+k) (fun t=>ofNat (pcB gen num np L bs k t)) (ok.ok (by omega)) (by have:=ok.P;omega) ho hq
     rw [←wrE_pay ho hq,←wrS_on ho hq] at w
     have eR:=rsR_wrS s hq fun t=>ofNat (pcB gen num np L bs k t)
     have ok2:=ok.wrS hq fun t=>ofNat (pcB gen num np L bs k t)
     have en:=wrS_n s (ofNat (at0+k)) fun t=>ofNat (pcB gen num np L bs k t)
     generalize s.wrS (ofNat (at0+k)) 64 (fun t=>ofNat (pcB gen num np L bs k t))=W at w hR' eR ok2 en
     cases de:decide (s.wrE (ofNat (at0+k)) 64=0) with
     | true=>
       rw [de] at hR'
       exact rd_nrm (layG_lq s W _ (pcB gen num np L bs) at0 gen num L np bs g a r u k d h0 de) ⟨h0,trivial,r1,r2,trivial,kl,w,by rw [de];rfl,r3,rfl⟩ (W,k+1) ⟨c,by simp only;rw [show np-(k+1)=j by omega];exact hR',⟨mm+1,ok2,by simp only;omega⟩,by simp only;omega⟩ (by simp only;omega) rfl (.refl _) (by show OVL _ (wL W g a r u d);unfold wL;rw [eR];exact .refl _)
     | false=>
       rw [de] at hR'
       simp only at hR'
       subst hR'
       rcases hx with ⟨h1,_⟩ | ⟨_,rfl,rfl,rfl⟩
       · exact absurd h1 (of_decide_eq_false de)
       exact rd_out (layF_lq s W _ (pcB gen num np L bs) at0 gen num L np bs g a r u k d h0 de) ⟨h0,trivial,r1,r2,trivial,kl,w,by rw [de];rfl,trivial,rfl⟩ rfl rfl (.refl _) (by unfold wL;rw [eR];exact .refl _)
 · have e:k=np:=by omega
   subst e
   rw [Nat.sub_self] at hR
   have hR:((0:Int),s,at0+k)=R:=hR
   subst hR
   have h0:decide (ofNat k<ofNat k)=false:=decide_eq_false (by simp)
   rcases hx with ⟨_,rfl,rfl,rfl⟩ | ⟨h1,_⟩
   · exact rd_out (layE_lq s at0 k g a r u k d _ h0) ⟨h0,rfl⟩ rfl rfl (.refl _) (.refl _)
   · exact absurd rfl h1
theorem rlay_con (gen num L at0 g a r u mm:Nat) (d:Bool) (bs:Nat→Nat) (hb:∀t,bs t<256) (s:SS) (ok:OkM s mm) (hL:L≤1128) (hm:mm+npF L<1073741823) (ha:at0+npF L≤s.n) :
 Con PG 60 [.p 2 0,.i .i64 (ofNat at0),.sv 5 (npF L) (cutF gen num L (npF L) bs)] (wL s g a r u d) (.i .i64 (bif decide ((runW (pcB gen num (npF L) L bs) (npF L) s at0 0).1=0) then 0 else 13))
  [.set (rsA 4 (runW (pcB gen num (npF L) L bs) (npF L) s at0 0).2.1),.set (rsR (runW (pcB gen num (npF L) L bs) (npF L) s at0 0).2.1),.set (rjO g a r u (d || !decide ((runW (pcB gen num (npF L) L bs) (npF L) s at0 0).1=0))),.gone,.set (rsP (runW (pcB gen num (npF L) L bs) (npF L) s at0 0).2.1)]:=by
 have n24:=np_le hL
 have lp:=fun x l' objs' hx=>lay_lp gen num L (npF L) at0 g a r u d bs hb (runW (pcB gen num (npF L) L bs) (npF L) s at0 0) x l' objs' hx (s,0) ⟨Nat.zero_le _,by simp only [Nat.sub_zero,Nat.add_zero],⟨mm,ok,by simp only [Nat.sub_zero];exact hm⟩,ha⟩ (by omega)
 generalize runW (pcB gen num (npF L) L bs) (npF L) s at0 0=R at lp⊢
 by_cases h:R.1=0
 · rw [decide_eq_true h,cond_true,show (d || !true)=d by simp]
   have k:=con_d (lyG_vq s R.2.1 at0 (npF L) (cutF gen num L (npF L) bs) g a r u d) ⟨lp _ _ _ (.inl ⟨h,rfl,rfl,rfl⟩),rfl⟩
   exact k.post (.refl _) (OVL.refl _)
 · rw [decide_eq_false h,cond_false,show (d || !false)=true by simp]
   exact con_d (lyF_vq s R.2.1 at0 (npF L) (cutF gen num L (npF L) bs) g a r u d) ⟨lp _ _ _ (.inr ⟨h,rfl,rfl,rfl⟩),rfl⟩
theorem rapG_vq (s w v:SS) (L NP:Nat) (bs:Nat→Nat) (F:Nat→Nat→CV) (g a r u:Nat) (h1:decide (1128<ofNat L)=false) (h2:decide (60<ofNat u+ofNat NP)=false) (h3:decide (1073741824≤ofNat r)=false):VD PG 26 [.p 2 0,.sv 1 L (byF bs)] [some (rsA 3 s),some (rsR s),some (rjO g a r u false),some (rsP s)] (.c (.f (.cal [] (.i .i64 (ofNat NP)) [] (.t (.t (.t (.t (.t (.f (.f (.cal [] (.sv 5 NP F) [] (.cal [0,1,2,3] (.i .i64 0) [.set (rsA 4 w),.set (rsR w),.keep,.gone,.set (rsP w)] (.c (.cal [0,1,2,4] (.i .i64 0) [.set (rsA 3 v),.set (rsR v),.keep,.set (rsP v)] (.c .z))))))))))))))) (.i .i64 0) [.set (rsA 4 v),.set (rsR v),.set (rjO g a (r+1) (u+NP) false),.gone,.set (rsP v)] [4] 5 (fun Lf=>True∧decide (1128<ofNat L)=false∧Con PG 58 [.i .i64 (ofNat L)] [] (.i .i64 (ofNat NP)) []∧True∧rg (ofNat u+ofNat NP)∧(!decide (60<ofNat u+ofNat NP))=true∧(!decide (60<ofNat u+ofNat NP))=true∧(!decide (60<ofNat u+ofNat NP))=true∧True∧(!decide (60<ofNat u+ofNat NP))=true∧(!decide (60<ofNat u+ofNat NP))=true∧decide (60<ofNat u+ofNat NP)=false∧decide (1073741824≤ofNat r)=false∧True∧rg (ofNat a*60)∧rg (2+ofNat a*60)∧True∧rg (2+ofNat a*60+ofNat u)∧True∧True∧Con PG 61 [.i .i64 (ofNat g),.i .i64 (ofNat r),.sv 1 L (byF bs)] [] (.sv 5 NP F) []∧Con PG 60 [.p 2 0,.i .i64 (2+ofNat a*60+ofNat u),.sv 5 NP F] [some (rsA 3 s),some (rsR s),some (rjO g a r u false),some (rsP s)] (.i .i64 0) [.set (rsA 4 w),.set (rsR w),.keep,.gone,.set (rsP w)]∧Con PG 62 [.p 2 0] [some (rsA 3 w),some (rsR w),some (rjO g a r u false),some (rsP w)] (.i .i64 0) [.set (rsA 3 v),.set (rsR v),.keep,.set (rsP v)]∧True∧rg (ofNat r+1)∧True∧True∧rg (ofNat u+ofNat NP)∧True∧Lf):=by unfold VD VQ;kernel_rfl
theorem rapF_vq (s w:SS) (L NP:Nat) (bs:Nat→Nat) (F:Nat→Nat→CV) (g a r u:Nat) (h1:decide (1128<ofNat L)=false) (h2:decide (60<ofNat u+ofNat NP)=false) (h3:decide (1073741824≤ofNat r)=false):VD PG 26 [.p 2 0,.sv 1 L (byF bs)] [some (rsA 3 s),some (rsR s),some (rjO g a r u false),some (rsP s)] (.c (.f (.cal [] (.i .i64 (ofNat NP)) [] (.t (.t (.t (.t (.t (.f (.f (.cal [] (.sv 5 NP F) [] (.cal [0,1,2,3] (.i .i64 13) [.set (rsA 4 w),.set (rsR w),.set (rjO g a r u true),.gone,.set (rsP w)] (oc 2 .z))))))))))))) (.i .i64 13) [.set (rsA 4 w),.set (rsR w),.set (rjO g a r u true),.gone,.set (rsP w)] [4] 5 (fun Lf=>True∧decide (1128<ofNat L)=false∧Con PG 58 [.i .i64 (ofNat L)] [] (.i .i64 (ofNat NP)) []∧True∧rg (ofNat u+ofNat NP)∧(!decide (60<ofNat u+ofNat NP))=true∧(!decide (60<ofNat u+ofNat NP))=true∧(!decide (60<ofNat u+ofNat NP))=true∧True∧(!decide (60<ofNat u+ofNat NP))=true∧(!decide (60<ofNat u+ofNat NP))=true∧decide (60<ofNat u+ofNat NP)=false∧decide (1073741824≤ofNat r)=false∧True∧rg (ofNat a*60)∧rg (2+ofNat a*60)∧True∧rg (2+ofNat a*60+ofNat u)∧True∧True∧Con PG 61 [.i .i64 (ofNat g),.i .i64 (ofNat r),.sv 1 L (byF bs)] [] (.sv 5 NP F) []∧Con PG 60 [.p 2 0,.i .i64 (2+ofNat a*60+ofNat u),.sv 5 NP F] [some (rsA 3 s),some (rsR s),some (rjO g a r u false),some (rsP s)] (.i .i64 13) [.set (rsA 4 w),.set (rsR w),.set (rjO g a r u true),.gone,.set (rsP w)]∧Lf):=by unfold VD VQ;kernel_rfl
theorem rapS_vq (s:SS) (L NP:Nat) (bs:Nat→Nat) (g a r u:Nat) (h1:decide (1128<ofNat L)=false) (h2:decide (60<ofNat u+ofNat NP)=true):VD PG 26 [.p 2 0,.sv 1 L (byF bs)] [some (rsA 3 s),some (rsR s),some (rjO g a r u false),some (rsP s)] (.c (.f (.cal [] (.i .i64 (ofNat NP)) [] (.f (.f (.f (.f (.f (.t (.c .z)))))))))) (.i .i64 12) [.keep,.keep,.keep,.keep] [] 4 (fun Lf=>True∧decide (1128<ofNat L)=false∧Con PG 58 [.i .i64 (ofNat L)] [] (.i .i64 (ofNat NP)) []∧True∧rg (ofNat u+ofNat NP)∧(!decide (60<ofNat u+ofNat NP))=false∧(!decide (60<ofNat u+ofNat NP))=false∧(!decide (60<ofNat u+ofNat NP))=false∧(!decide (60<ofNat u+ofNat NP))=false∧(!decide (60<ofNat u+ofNat NP))=false∧decide (60<ofNat u+ofNat NP)=true∧Lf):=by unfold VD VQ;kernel_rfl
theorem rapR_vq (s:SS) (L:Nat) (bs:Nat→Nat) (g a r u:Nat) (h1:decide (1128<ofNat L)=true):VD PG 26 [.p 2 0,.sv 1 L (byF bs)] [some (rsA 3 s),some (rsR s),some (rjO g a r u false),some (rsP s)] (.c (.t .z)) (.i .i64 2) [.keep,.keep,.keep,.keep] [] 4 (fun Lf=>True∧decide (1128<ofNat L)=true∧Lf):=by unfold VD VQ;kernel_rfl
theorem rroom_vq (s:SS) (g a r u:Nat) (d:Bool):VD PG 29 [.p 2 0] [some (rsA 3 s),some (rsR s),some (rjO g a r u d),some (rsP s)] (.z) (.i .i64 (60-ofNat u)) [.keep,.keep,.keep,.keep] [] 4 (fun Lf=>True∧rg (60-ofNat u)∧Lf):=by unfold VD VQ;kernel_rfl
theorem rnxR_lq (s:SS) (W:Nat→Nat) (X:Nat→Nat→Nat→CV) (G Q I P L:Nat→Nat) (D:Nat→Nat→Nat) (g a r u i g0:Nat) (d:Bool) (h:decide (ofNat i<60)=true):LD PG (loopAt PG 59 0) 50 4 [(0,.p 2 0),(3,.sv 1 60 (scF W X)),(4,.i .i64 (ofNat g0)),(5,.i .i64 (ofNat i))] [some (rsA 3 s),some (rsR s),some (rjO g a r u d),some (rsP s)] (.t (.cal [] (prV (G i) (Q i) (I i) (P i) (L i) (D i)) [] .z)) .nrm [0,1,2,3] [(0,.p 2 0),(3,.sv 1 60 (scF W X)),(4,.i .i64 (if ofNat (G i)>ofNat g0 then ofNat (G i) else ofNat g0)),(5,.i .i64 (ofNat i+1))] [some (rsA 3 s),some (rsR s),some (rjO g a r u d),some (rsP s)] 5 (fun Lf=>decide (ofNat i<60)=true∧(0≤ofNat i∧ofNat i<60)∧True∧Con PG 72 [.sv 1 (W i) (X i)] [] (prV (G i) (Q i) (I i) (P i) (L i) (D i)) []∧True∧rg (ofNat i+1)∧Lf):=by unfold LD LQ;kernel_rfl
theorem rnxE_lq (s:SS) (O:Nat→Nat→CV) (g a r u i g0:Nat) (d:Bool) (h:decide (ofNat i<60)=false):LD PG (loopAt PG 59 0) 50 4 [(0,.p 2 0),
 (3,.sv 1 60 O),(4,.i .i64 (ofNat g0)),(5,.i .i64 (ofNat i))] [some (rsA 3 s),some (rsR s),some (rjO g a r u d),some (rsP s)] (Orc.f Orc.z) (.exit 0) [0,1,2,
 3] [(0,.p 2 0),(4,.i .i64 (ofNat g0))] [some (rsA 3 s),some (rsR s),some (rjO g a r u d),some (rsP s)] 4 (fun Lf=>decide (ofNat i<60)=false∧Lf):=by
 unfold LD LQ;kernel_rfl
theorem rnxA_vq (s:SS) (A O:Nat→Nat→CV) (M g a r u:Nat) (d:Bool) (h:decide (Int.tmod (ofNat M+1) 2=Int.tmod (ofNat g) 2)=true):VD PG 59 [.p 2 0] [some (rsA 3 s),some (rsR s),some (rjO g a r u d),some (rsP s)] (.cal [0,1,3] (.sv 1 122 A) [.keep,.keep,.keep] (.cal [] (.sv 1 60 O) [] (.lop [0,1,2,3] [0,3,4,5] 4 (.exit 0) [(0,.p 2 0),(4,.i .i64 (ofNat M))] [some (rsA 3 s),some (rsR s),some (rjO g a r u d),some (rsP s)] (.t .z)))) (.i .i64 (ofNat M+(1:Int)+(1:Int))) [.keep,.keep,.keep,.keep] [] 4 (fun Lf=>True∧Con PG 42 [.p 0 0] [some (rsA 2 s),some (rsR s),some (rsP s)] (.sv 1 122 A) [.keep,.keep,.keep]∧True∧rg (1-ofNat a)∧Con PG 48 [.sv 1 122 A,.i .i64 (1-ofNat a)] [] (.sv 1 60 O) []∧True∧LDoes PG (loopAt PG 59 0) 50 4 (mkT [(0,.p 2 0),(3,.sv 1 60 O),(4,.i .i64 (ofNat g)),(5,.i .i64 0)]) [some (rsA 3 s),some (rsR s),some (rjO g a r u d),some (rsP s)] (.exit 0) (mkT [(0,.p 2 0),(4,.i .i64 (ofNat M))]) [some (rsA 3 s),some (rsR s),some (rjO g a r u d),some (rsP s)]∧rg (ofNat M+1)∧(2:Int)≠(0:Int)∧True∧(2:Int)≠(0:Int)∧decide (Int.tmod (ofNat M+1) 2=Int.tmod (ofNat g) 2)=true∧rg (ofNat M+(1:Int)+(1:Int))∧Lf):=by unfold VD VQ;kernel_rfl
theorem rnxB_vq (s:SS) (A O:Nat→Nat→CV) (M g a r u:Nat) (d:Bool) (h:decide (Int.tmod (ofNat M+1) 2=Int.tmod (ofNat g) 2)=false):VD PG 59 [.p 2 0] [some (rsA 3 s),some (rsR s),some (rjO g a r u d),some (rsP s)] (.cal [0,1,3] (.sv 1 122 A) [.keep,.keep,.keep] (.cal [] (.sv 1 60 O) [] (.lop [0,1,2,3] [0,3,4,5] 4 (.exit 0) [(0,.p 2 0),(4,.i .i64 (ofNat M))] [some (rsA 3 s),some (rsR s),some (rjO g a r u d),some (rsP s)] (.f .z)))) (.i .i64 (ofNat M+1)) [.keep,.keep,.keep,.keep] [] 4 (fun Lf=>True∧Con PG 42 [.p 0 0] [some (rsA 2 s),some (rsR s),some (rsP s)] (.sv 1 122 A) [.keep,.keep,.keep]∧True∧rg (1-ofNat a)∧Con PG 48 [.sv 1 122 A,.i .i64 (1-ofNat a)] [] (.sv 1 60 O) []∧True∧LDoes PG (loopAt PG 59 0) 50 4 (mkT [(0,.p 2 0),(3,.sv 1 60 O),(4,.i .i64 (ofNat g)),(5,.i .i64 0)]) [some (rsA 3 s),some (rsR s),some (rjO g a r u d),some (rsP s)] (.exit 0) (mkT [(0,.p 2 0),(4,.i .i64 (ofNat M))]) [some (rsA 3 s),some (rsR s),some (rjO g a r u d),some (rsP s)]∧rg (ofNat M+1)∧(2:Int)≠(0:Int)∧True∧(2:Int)≠(0:Int)∧decide (Int.tmod (ofNat M+1) 2=Int.tmod (ofNat g) 2)=false∧Lf):=by unfold VD VQ;kernel_rfl
theorem cmt1 (gen first L:Nat) (bs:Nat→Nat) (s:SS) (a:Nat) :
 ((runW (pcB gen first (npF L) L bs) (npF L) s a 0).1=0→cmtE gen first 1 (fun _=>L) (fun _=>bs) s a=(runW (pcB gen first (npF L) L bs) (npF L) s a 0).2.1.faultE∧cmtS gen first 1 (fun _=>L) (fun _=>bs) s a=(runW (pcB gen first (npF L) L bs) (npF L) s a 0).2.1.bar)∧
 ((runW (pcB gen first (npF L) L bs) (npF L) s a 0).1≠0→cmtE gen first 1 (fun _=>L) (fun _=>bs) s a=(runW (pcB gen first (npF L) L bs) (npF L) s a 0).1∧cmtS gen first 1 (fun _=>L) (fun _=>bs) s a=(runW (pcB gen first (npF L) L bs) (npF L) s a 0).2.1):=by
 have e:runR gen first (fun _=>L) (fun _=>bs) 1 s a 0=match decide ((runW (pcB gen first (npF L) L bs) (npF L) s a 0).1=0) with
  | true=>(0,(runW (pcB gen first (npF L) L bs) (npF L) s a 0).2.1,(runW (pcB gen first (npF L) L bs) (npF L) s a 0).2.2)
  | false=>runW (pcB gen first (npF L) L bs) (npF L) s a 0:=rfl
 unfold cmtE cmtS
 rw [e]
 generalize runW (pcB gen first (npF L) L bs) (npF L) s a 0=R
 constructor
 · intro h
   rw [decide_eq_true h]
   exact ⟨rfl,rfl⟩
 · intro h
   rw [decide_eq_false h]
   simp only
   rw [decide_eq_false h]
   exact ⟨rfl,rfl⟩
theorem runW_on {c:Nat→Nat→Nat} {j:Nat} {s:SS} {a k:Nat} (hj:1≤j) (ha:a+j≤s.n) (h:(runW c j s a k).1=0):(runW c j s a k).2.1.off=false:=by
 cases ho:s.off with
 | false=>
   obtain ⟨w,_,_,q,_⟩:=runW_p c j s a k ho ha
   exact (q h).2.1
 | true=>
   obtain ⟨i,rfl⟩:∃i,j=i+1:=⟨j-1,by omega⟩
   have e13:s.wrE (ofNat a) 64=13:=by unfold SS.wrE;rw [ho]
   unfold runW at h
   rw [e13] at h
   exact absurd (show (13:Int)=0 from h) (by decide)
theorem fault0 {s:SS} (h:s.off=false):s.faultE=0:=by unfold SS.faultE;rw [h];rfl
theorem setOn_con {s:SS} {mm:Nat} (ok:OkM s mm) (hm:mm<1073741823) (on:s.off=false) (g a r u:Nat) (d:Bool) :
 Con PG 62 [.p 2 0] (wL s g a r u d) (.i .i64 0) [.set (rsA 3 s.bar),.set (rsR s.bar),.keep,.set (rsP s.bar)]:=by
 have k:=set_con s g a r u d (by have:=ok.P;omega) ok.at_
 rw [fault0 on,show (d || !decide ((0:Int)=0))=d by simp] at k
 exact k.post (.refl _) (OVL.refl _)
abbrev apL (S:SS) (g a r u n:Nat) (E:Int):List Upd:=[.set (rsA 4 S),.set (rsR S),.set (rjO g a (bif decide (E=0) then r+1 else r) (bif decide (E=0) then u+n else u) (!decide (E=0))),.gone,.set (rsP S)]
theorem rappend_con (j:JS) (rm mm L:Nat) (s:SS) (bs:Nat→Nat) (h60:rm≤60) (ha:j.area≤1) (hrec:j.recs≤60) (ok:OkM s mm) (hm:mm+npF L<1073741823) (hn:122≤s.n) (hb:∀t,bs t<256) (hL:L≤1128) (hf:npF L≤rm) :
 Con PG 26 [.p 2 0,.sv 1 L (byF bs)] (wL s j.gen j.area j.recs (60-rm) false) (.i .i64 (bif decide (apE j rm s L bs=0) then 0 else 13)) (apL (apS j rm s L bs) j.gen j.area j.recs (60-rm) (npF L) (apE j rm s L bs)):=by
 have eQ:Jn.apQ j rm=2+j.area*60+(60-rm):=rfl
 have cu:=cut_con j.gen j.recs L bs hL
 have pp:=rparts_con L (by omega)
 have ly:=rlay_con j.gen j.recs L (Jn.apQ j rm) j.gen j.area j.recs (60-rm) mm false bs hb s ok hL hm (by rw [eQ];omega)
 obtain ⟨c1,c2⟩:=cmt1 j.gen j.recs L bs s (Jn.apQ j rm)
 have hon:=runW_on (c:=pcB j.gen j.recs (npF L) L bs) (s:=s) (a:=Jn.apQ j rm) (k:=0) (npF_pos L) (by rw [eQ];omega)
 have ok2:=(runW_ok (pcB j.gen j.recs (npF L) L bs) (npF L) s (Jn.apQ j rm) 0 mm ok (by rw [eQ];omega)).1
 unfold apE apS
 have eA:(2:Int)+ofNat j.area*60+ofNat (60-rm)=ofNat (Jn.apQ j rm):=by rw [eQ];simp
 generalize runW (pcB j.gen j.recs (npF L) L bs) (npF L) s (Jn.apQ j rm) 0=R at ly c1 c2 hon ok2
 have n24:=np_le hL
 have d1:decide ((1128:Int)<ofNat L)=false:=decide_eq_false (by simp;omega)
 have d2:decide ((60:Int)<ofNat (60-rm)+ofNat (npF L))=false:=decide_eq_false (by simp;omega)
 have d3:decide ((1073741824:Int)≤ofNat j.recs)=false:=decide_eq_false (by simp;omega)
 have n2:(!decide ((60:Int)<ofNat (60-rm)+ofNat (npF L)))=true:=by rw [d2];rfl
 have r1:rg (ofNat (60-rm)+ofNat (npF L)):=⟨by simp;omega,by simp;omega⟩
 have r2:rg (ofNat j.area*60):=⟨by simp;omega,by simp;omega⟩
 have r3:rg ((2:Int)+ofNat j.area*60):=⟨by simp;omega,by simp;omega⟩
 have r4:rg ((2:Int)+ofNat j.area*60+ofNat (60-rm)):=⟨by simp;omega,by simp;omega⟩
 have r5:rg (ofNat j.recs+1):=⟨by simp;omega,by simp;omega⟩
 by_cases h:R.1=0
 · obtain ⟨e1,e2⟩:=c1 h
   rw [e1,e2,fault0 (hon h),show decide ((0:Int)=0)=true from rfl]
   rw [decide_eq_true h] at ly
   have se:=setOn_con ok2 (by omega) (hon h) j.gen j.area j.recs (60-rm) false
   have ly:Con PG 60 [.p 2 0,.i .i64 ((2:Int)+ofNat j.area*60+ofNat (60-rm)),.sv 5 (npF L) (cutF j.gen j.recs L (npF L) bs)] (wL s j.gen j.area j.recs (60-rm) false) (.i .i64 0) [.set (rsA 4 R.2.1),.set (rsR R.2.1),.keep,.gone,.set (rsP R.2.1)]:=by
    rw [eA];exact ly.post (.refl _) (OVL.refl _)
   exact con_d (rapG_vq s R.2.1 R.2.1.bar L (npF L) bs (cutF j.gen j.recs L (npF L) bs) j.gen j.area j.recs (60-rm) d1 d2 d3)
    ⟨trivial,d1,pp,trivial,r1,n2,n2,n2,trivial,n2,n2,d2,d3,trivial,r2,r3,trivial,r4,trivial,trivial,cu,ly,se,trivial,r5,trivial,trivial,r1,trivial,rfl⟩
 · obtain ⟨e1,e2⟩:=c2 h
   rw [e1,e2,decide_eq_false h]
   rw [decide_eq_false h] at ly
   simp only [apL,decide_eq_false h,cond_false,Bool.not_false]
   have ly:Con PG 60 [.p 2 0,.i .i64 ((2:Int)+ofNat j.area*60+ofNat (60-rm)),.sv 5 (npF L) (cutF j.gen j.recs L (npF L) bs)] (wL s j.gen j.area j.recs (60-rm) false) (.i .i64 13) [.set (rsA 4 R.2.1),.set (rsR R.2.1),.set (rjO j.gen j.area j.recs (60-rm) true),.gone,.set (rsP R.2.1)]:=by
    rw [eA];exact ly
   exact con_d (rapF_vq s R.2.1 L (npF L) bs (cutF j.gen j.recs L (npF L) bs) j.gen j.area j.recs (60-rm) d1 d2 d3)
    ⟨trivial,d1,pp,trivial,r1,n2,n2,n2,trivial,n2,n2,d2,d3,trivial,r2,r3,trivial,r4,trivial,trivial,cu,ly,rfl⟩
abbrev kp4:List Upd:=[.keep,.keep,.keep,.keep]
theorem rappendRange_con (s:SS) (g a r u L:Nat) (bs:Nat→Nat) (hL:1128<L):Con PG 26 [.p 2 0,.sv 1 L (byF bs)] (wL s g a r u false) (.i .i64 2) kp4:=
 have d1:decide ((1128:Int)<ofNat L)=true:=decide_eq_true (by simp;omega)
 con_d (rapR_vq s L bs g a r u d1) ⟨trivial,d1,rfl⟩
theorem rappendSpace_con (s:SS) (g a r u L:Nat) (bs:Nat→Nat) (hL:L≤1128) (hu:u≤60) (hf:60<u+npF L):Con PG 26 [.p 2 0,.sv 1 L (byF bs)] (wL s g a r u false) (.i .i64 12) kp4:=by
 have d1:decide ((1128:Int)<ofNat L)=false:=decide_eq_false (by simp;omega)
 have d2:decide ((60:Int)<ofNat u+ofNat (npF L))=true:=decide_eq_true (by simp;omega)
 have n2:(!decide ((60:Int)<ofNat u+ofNat (npF L)))=false:=by rw [d2];rfl
 have n24:=np_le hL
 have r1:rg (ofNat u+ofNat (npF L)):=⟨by simp;omega,by simp;omega⟩
 exact con_d (rapS_vq s L (npF L) bs g a r u d1 d2) ⟨trivial,d1,rparts_con L (by omega),trivial,r1,n2,n2,n2,n2,n2,d2,rfl⟩
theorem rroom_con (s:SS) (g a r u:Nat) (d:Bool) (hu:u≤60):Con PG 29 [.p 2 0] (wL s g a r u d) (.i .i64 (60-ofNat u)) kp4:=con_d (rroom_vq s g a r u d) ⟨trivial,⟨by simp;omega,by simp;omega⟩,rfl⟩
theorem rnx_lp (s:SS) (g a r u g0:Nat) (d:Bool) (W:Nat→Nat) (X:Nat→Nat→Nat→CV) (G N I P L:Nat→Nat) (D:Nat→Nat→Nat) (lk:∀i,i<60→Con PG 72 [.sv 1 (W i) (X i)] [] (prV (G i) (N i) (I i) (P i) (L i) (D i)) []) :
 LDoes PG (loopAt PG 59 0) 50 4 (mkT [(0,.p 2 0),(3,.sv 1 60 (scF W X)),(4,.i .i64 (ofNat g0)),(5,.i .i64 0)]) (wL s g a r u d) (.exit 0) (mkT [(0,.p 2 0),(4,.i .i64 (ofNat (mxG G g0 60)))]) (wL s g a r u d):=by
 refine loop_q (D:=Nat) (l':=[(0,.p 2 0),(4,.i .i64 (ofNat (mxG G g0 60)))]) (fun i=>([(0,.p 2 0),(3,.sv 1 60 (scF W X)),(4,.i .i64 (ofNat (mxG G g0 i))),(5,.i .i64 (ofNat i))],wL s g a r u d)) (fun i=>60-i) (fun i=>i≤60) (fun _=>by show 4≤4;decide) ?_ 0 (Nat.zero_le _)
 intro i hi
 by_cases hlt:i<60
 · have h0:decide (ofNat i<(60:Int))=true:=decide_eq_true (by simp;omega)
   have e:(if ofNat (G i)>ofNat (mxG G g0 i) then ofNat (G i) else ofNat (mxG G g0 i))=ofNat (mxG G g0 (i+1)):=by
    show _=ofNat (if G i>mxG G g0 i then G i else mxG G g0 i)
    by_cases c:G i>mxG G g0 i
    · rw [if_pos c,if_pos (by simp;omega)]
    · rw [if_neg c,if_neg (by simp;omega)]
   exact rd_nrm (rnxR_lq s W X G N I P L D g a r u i (mxG G g0 i) d h0) ⟨h0,⟨by simp,by simp;omega⟩,trivial,lk i hlt,trivial,⟨by simp;omega,by simp;omega⟩,rfl⟩ (i+1) hlt (by show 60-(i+1)<60-i;omega) rfl (by rw [e];exact .refl _) (.refl _)
 · have:i=60:=by omega
   subst this
   have h0:decide (ofNat 60<(60:Int))=false:=by decide
   exact rd_out (rnxE_lq s _ g a r u 60 (mxG G g0 60) d h0) ⟨h0,rfl⟩ rfl rfl (.refl _) (.refl _)
theorem lookS_con (s:SS) (hb:Byt s) (q:Nat):Con PG 72 [.sv 1 (s.rdN (ofNat q)) fun k _=>.i .u8 (s.rdB (ofNat q) k)] [] (ptV (bB s q)) []:=by
 by_cases h:s.rdE (ofNat q)=0
 · have e:bB s q=rdC s (ofNat q):=by unfold bB;rw [decide_eq_true h]
   have k:=rlook5_con (rdC s (ofNat q)) fun k _=>rdC_lt hb _ k
   rw [←e] at k
   rw [SS.rdN_64 h]
   exact k.pre ⟨.sv fun a j _ _=>by show CV.i .u8 (s.rdB (ofNat q) a)=CV.i .u8 (ofNat (bB s q a));rw [rdC_eq hb,e],trivial⟩
 · have e:bB s q=fun _=>0:=by unfold bB;rw [decide_eq_false h]
   rw [e,SS.rdN_0 h]
   exact rlookN5_con _ zero_bad 0 _ (by decide)
def aW (s:SS) (a i:Nat):Nat:=s.rdN (ofNat (2+a*60+i))
def aX (s:SS) (a i:Nat):Nat→Nat→CV:=fun k _=>.i .u8 (s.rdB (ofNat (2+a*60+i)) k)
theorem rof2_con (s:SS) (a:Nat) (ha:a≤1):Con PG 48 [.sv 1 122 (alF s),.i .i64 (ofNat a)] [] (.sv 1 60 (scF (aW s a) (aX s a))) []:=rof_con a ha (alF s)
theorem lookA_con (s:SS) (hb:Byt s) (a i:Nat):Con PG 72 [.sv 1 (aW s a i) (aX s a i)] [] (prV (aG s a i) (aN s a i) (aI s a i) (aP s a i) (aL s a i) (aD s a i)) []:=lookS_con s hb _
theorem rnext_con (s:SS) (j:JS) (mm r u:Nat) (d:Bool) (ok:OkM s mm) (hm:mm<1073741823) (hb:Byt s) (ha:j.area≤1) (hg:j.gen≤4294967296) :
 Con PG 59 [.p 2 0] (wL s j.gen j.area r u d) (.i .i64 (ofNat (nxV s j))) kp4:=by
 have al:=rall_con s (by have:=ok.P;omega)
 have eA:(1:Int)-ofNat j.area=ofNat (1-j.area):=by simp;omega
 have of_:Con PG 48 [.sv 1 122 (alF s),.i .i64 ((1:Int)-ofNat j.area)] [] (.sv 1 60 (scF (aW s (1-j.area)) (aX s (1-j.area)))) []:=by rw [eA];exact rof2_con s _ (by omega)
 have lp:=rnx_lp s j.gen j.area r u j.gen d (aW s (1-j.area)) (aX s (1-j.area)) _ _ _ _ _ _ fun i _=>lookA_con s hb (1-j.area) i
 have hM:nxG s j≤4294967296:=mxG_le hg (fun i=>stG_le _) 60
 have lp:LDoes PG (loopAt PG 59 0) 50 4 (mkT [(0,.p 2 0),(3,.sv 1 60 (scF (aW s (1-j.area)) (aX s (1-j.area)))),(4,.i .i64 (ofNat j.gen)),(5,.i .i64 0)]) (wL s j.gen j.area r u d) (.exit 0) (mkT [(0,.p 2 0),(4,.i .i64 (ofNat (nxG s j)))]) (wL s j.gen j.area r u d):=lp
 unfold nxV
 generalize nxG s j=M at hM lp⊢
 generalize scF (aW s (1-j.area)) (aX s (1-j.area))=O at of_ lp
 have r0:rg ((1:Int)-ofNat j.area):=⟨by simp;omega,by simp;omega⟩
 have r1:rg (ofNat M+1):=⟨by simp;omega,by simp;omega⟩
 have r2:rg (ofNat M+1+1):=⟨by simp;omega,by simp;omega⟩
 have dq:decide (Int.tmod (ofNat M+1) 2=Int.tmod (ofNat j.gen) 2)=Nat.beq ((M+1) % 2) (j.gen % 2):=deq ((M+1) % 2) (j.gen % 2)
 have z:(2:Int)≠0:=by decide
 cases c:Nat.beq ((M+1) % 2) (j.gen % 2) with
 | true=>
   rw [cond_true]
   exact con_d (rnxA_vq s (alF s) O M j.gen j.area r u d (dq.trans c)) ⟨trivial,al,trivial,r0,of_,trivial,lp,r1,z,trivial,z,dq.trans c,r2,rfl⟩
 | false=>
   rw [cond_false]
   exact con_d (rnxB_vq s (alF s) O M j.gen j.area r u d (dq.trans c)) ⟨trivial,al,trivial,r0,of_,trivial,lp,r1,z,trivial,z,dq.trans c,rfl⟩
end Go.Proofs.Jn
