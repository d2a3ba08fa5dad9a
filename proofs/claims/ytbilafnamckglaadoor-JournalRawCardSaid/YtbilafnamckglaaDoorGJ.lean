/- Runs over unknown values, told by the kernel: part GJ. -/
import Derived.Test.YtbilafnamckglaaDoorGI
noncomputable section
open Int (ofNat)
set_option linter.unusedSimpArgs false
set_option linter.unusedVariables false
set_option maxRecDepth 20000
namespace Go.Proofs.Jn
open Go Go.Sim Go.Proofs Go.Proofs.Cd Go.Proofs.St Go.Proofs.Cl Go.Proofs.YtbilafnamckglaaDoor
abbrev tt1 (x:Int):Prop:=(!!decide (x=x))=true
abbrev tt0 (x:Int):Prop:=(!decide (x=x))=false
theorem tt1_ (x:Int):tt1 x:=by unfold tt1;simp
theorem tt0_ (x:Int):tt0 x:=by unfold tt0;simp
abbrev rjJ (j:JS) (u:Nat):AObj:=rjO j.gen j.area j.recs u j.dead
abbrev wJu (s:SS) (j:JS) (u:Nat):List (Option AObj):=[some (rsA 3 s),some (rsR s),some (rjJ j u),some (rsP s)]
def Opn (T V:SS) (J:JS):Prop:=∃(c:Nat) (F:Nat→Nat→CV),Con PG 10 [.p 0 0] [some T.o] (.tup [.p 1 0,.sv 1 c F,.i .i64 0]) [.set V.o,.set J.o]∧
 ((0<bgG T∧V=T∧Con PG 13 [.p 0 0] (wS T) (.tup [.p 3 0,.sv 1 c F,.i .i64 0]) [.set (rsA 2 V),.set (rsR V),.set (rsP V),.set (rjJ J J.u)])∨
  (bgG T=0∧Con PG 13 [.p 0 0] (wS T) (.tup [.p 3 0,.sv 1 c F,.i .i64 0]) [.set (rsA 4 V),.set (rsR V),.gone,.set (rjJ J J.u),.set (rsP V)]))∧Con PG 23 [.sv 1 c F,.sv 1 c F] [] (.b true) []
theorem sm5_con (c:Nat) (m:Nat→Nat) (b:Nat→Nat→Nat) (hc:c≤512):Con PG 23 [.sv 1 c (recF m b),.sv 1 c (recF m b)] [] (.b true) []:=by
 have k:Con PG 33 [.sv 1 c (recF m b),.sv 1 c (recF m b)] [] (.b true) []:=same_con c m m b b hc fun i _=>⟨rfl,fun _ _=>rfl⟩
 exact con_d (sm5_vq c (recF m b) (recF m b)) ⟨k,rfl⟩
theorem hdG_le {s:SS} {B:Nat} (h:GB s B) (q:Nat):hdG s q≤B:=by
 unfold hdG
 cases hdOk (bB s q) q
 · rw [cond_false];exact Nat.zero_le _
 · rw [cond_true];exact h.bB q
theorem bgG_le {s:SS} {B:Nat} (h:GB s B):bgG s≤B:=by
 unfold bgG
 cases Nat.blt (hdG s 0) (hdG s 1)
 · rw [cond_false];exact hdG_le h 0
 · rw [cond_true];exact hdG_le h 1
theorem opJ_u {s:SS} {a g c:Nat} (rc:Recs s a g c):(opJ s a g c).u=jU (aP s a) c∧∃rm,rm≤60∧(opJ s a g c).room=ofNat rm∧c≤60-rm:=by
 have hu:=jU_le c rc.st
 have e:(opJ s a g c).room=ofNat (60-jU (aP s a) c):=by show (60:Int)-ofNat _= _;simp;omega
 exact ⟨by rw [u_of e];omega,60-jU (aP s a) c,by omega,e,by omega⟩
section
variable (N:Nat) (KK KZ:Nat→Int) (TT:Nat→Bool) (BL:Nat→Nat) (BB:Nat→Nat→Nat) (LN:Nat→Nat) (LM:Nat→Nat→Nat) (LB:Nat→Nat→Nat→Nat)
end
end Go.Proofs.Jn
namespace Go.Proofs.St
open Go Go.Sim Go.Proofs.YtbilafnamckglaaDoor
theorem ncopiedR_vc (n k:Nat) (bs:Nat→Nat) (ff:Nat→Nat→CV) (K:Res→Orc→Prop):runK PG 1000000 (.code (loopAt PG 65 0) 22 (mkT [(0,.sv 1 n (bF bs)),(3,.lr 0 1 0 n false),(4,.i .i64 (ofNat k))]) (mkH [some (.rows 5 1 n ff)])) (.s .z .z) K=((fun (q0:AV)=>((decide (ofNat k<ofNat n)=true→(0≤ofNat k∧ofNat k<↑n)∧True∧(0≤ofNat k∧ofNat k<↑n)∧k<n∧rg (ofNat k+1)∧K (.st .nrm (t1 (.sv 1 n (bF bs)) (t0 (t1 (.lr 0 1 0 n false) (t0 (tn k) .e) (t1 q0 (tl (.i .u8 (ofNat (bs k)))) .e)) (t0 (t1 (.sv 1 n (bF bs)) (tn k) .e) (tl (.i .i64 (ofNat k+1))))) (t0 (t1 (.i .i64 (ofNat k+1)) (t1 (inv k) (tl (.sv 1 n (bF bs))) .e) (t1 (inv k) (tl (.pr 0 1 k 0)) .e)) (t0 (t1 (inv n) (tl (.pv 1 (bF bs k))) .e) (tl (.lr 0 1 0 n false))))) ⟨tl (AObj.rows 5 1 n (setRow ff k 0 [CV.i .u8 (ofNat (bs k))])),1,[0]⟩) .z)∧(decide (ofNat k<ofNat n)=false→K (.st (.exit 0) (t1 (.sv 1 n (bF bs)) (t0 (t1 (.lr 0 1 0 n false) .e (tl q0)) (t0 (tl (.sv 1 n (bF bs))) .e)) (t0 (t1 (inv k) (tn k) .e) (t0 (tn n) .e))) ⟨tl (AObj.rows 5 1 n ff),1,[]⟩) .z))) (.b (decide (ofNat k<ofNat n)))):=by kernel_rfl
theorem ncopied_vc (n:Nat) (bs:Nat→Nat) (K:Res→Orc→Prop):runK PG 1000000 (.call 65 [.sv 1 n (bF bs)] (mkH [])) (.s (.lop [0] [0,3,4] 0 (.exit 0) [(3,.lr 0 1 0 n false)] [some (.rows 5 1 n (bF bs))] .z) .z) K=((0≤ofNat n∧ofNat n≤ofNat n∧ofNat n≤1073741824)∧LDoes PG (loopAt PG 65 0) 22 0 (mkT [(0,.sv 1 n (bF bs)),(3,.lr 0 1 0 n false),(4,.i .i64 0)]) [some (.rows 5 1 n fun x j=>List.getD [CV.i .u8 0] j CV.p0)] (.exit 0) (mkT [(3,.lr 0 1 0 n false)]) [some (.rows 5 1 n (bF bs))]∧K (.rv (.lr 1 1 0 n false) ⟨t0 (tl (.rows 5 1 n (bF bs))) .e,2,[1,0,0]⟩) .z):=by kernel_rfl
def ncpF (b:Nat→Nat) (k:Nat):Nat→Nat→CV:=fun i _=>.i .u8 (bif Nat.blt i k then ofNat (b i) else 0)
theorem ncp_step (b:Nat→Nat) (n k:Nat):OEq (some (.rows 5 1 n (setRow (ncpF b k) k 0 [.i .u8 (ofNat (b k))]))) (some (.rows 5 1 n (ncpF b (k+1)))):=by
 refine .rows fun i j hi hj=>?_
 have:j=0:=by omega
 subst this
 show CV.i .u8 (bif Nat.beq i k then ofNat (b k) else (bif Nat.blt i k then ofNat (b i) else 0))=CV.i .u8 (bif Nat.blt i (k+1) then ofNat (b i) else 0)
 by_cases h:i=k
 · subst h
   rw [Nat.beq_refl,cond_true,show Nat.blt i (i+1)=true by rw [Nat.blt_eq];omega,cond_true]
 · rw [show Nat.beq i k=false by rw [Bool.eq_false_iff,ne_eq,Nat.beq_eq];exact h,cond_false]
   by_cases h2:i<k
   · rw [show Nat.blt i k=true by rw [Nat.blt_eq];exact h2,show Nat.blt i (k+1)=true by rw [Nat.blt_eq];omega]
   · rw [show Nat.blt i k=false by rw [Bool.eq_false_iff,ne_eq,Nat.blt_eq];exact h2,show Nat.blt i (k+1)=false by rw [Bool.eq_false_iff,ne_eq,Nat.blt_eq];omega]
theorem ncopiedL_lp (n:Nat) (bs:Nat→Nat) (hn:n≤1073741824):LDoes PG (loopAt PG 65 0) 22 0 (mkT [(0,.sv 1 n (bF bs)),(3,.lr 0 1 0 n false),(4,.i .i64 0)]) [some (.rows 5 1 n (ncpF bs 0))] (.exit 0) (mkT [(3,.lr 0 1 0 n false)]) [some (.rows 5 1 n (bF bs))]:=by
 refine loop_indE (D:=Nat) (l':=[(3,.lr 0 1 0 n false)]) (fun k=>([(0,.sv 1 n (bF bs)),(3,.lr 0 1 0 n false),(4,.i .i64 (ofNat k))],[some (.rows 5 1 n (ncpF bs k))])) (fun k=>n-k) (fun k=>k≤n) ?_ 0 (Nat.zero_le n)
 intro k hk
 refine ⟨Nat.zero_le _,1000000,_,(ncopiedR_vc n k bs (ncpF bs k) _).mpr ⟨fun h=>?_,fun h=>?_⟩⟩
 · have hlt:k<n:=by have:=of_decide_eq_true h;simp at this;omega
   exact ⟨⟨by simp,by simp;omega⟩,trivial,⟨by simp,by simp;omega⟩,hlt,⟨by simp<;>omega,by simp<;>omega⟩,.inl ⟨k+1,[0],[],_,_,_,hlt,by show n-(k+1)<n-k;omega,rfl,
    st_is [0] (objs:=[some (.rows 5 1 n (setRow (ncpF bs k) k 0 [.i .u8 (ofNat (bs k))]))]) (by kernel_rfl) rfl rfl rfl ⟨by kernel_rfl,by kernel_rfl,trivial⟩ rfl,ncp_step bs n k,trivial⟩⟩
 · have hge:¬k<n:=by have:=of_decide_eq_false h;simp at this;omega
   refine .inr ⟨[0],[],_,_,_,rfl,by simp,st_is [0] (objs:=[some (.rows 5 1 n (ncpF bs k))]) (by kernel_rfl) rfl rfl rfl ⟨by kernel_rfl,by kernel_rfl,trivial⟩ rfl,.rows fun i j hi hj=>?_,trivial⟩
   show CV.i .u8 (bif Nat.blt i k then ofNat (bs i) else 0)=CV.i .u8 (ofNat (bs i))
   rw [show Nat.blt i k=true by rw [Nat.blt_eq];omega,cond_true]
theorem ncopied_con (n:Nat) (bs:Nat→Nat) (hn:n≤1073741824):Con PG 65 [.sv 1 n (bF bs)] [] (.sv 1 n (bF bs)) []:=
 con_of_run [1] [] ((ncopied_vc n bs _).mpr ⟨⟨by simp,Int.le_refl _,by simp;omega⟩,(ncopiedL_lp n bs hn).oeq ⟨.rows fun i j hi hj=>by
  have:j=0:=by omega
  subst this
  show CV.i .u8 (bif Nat.blt i 0 then ofNat (bs i) else 0)= _
  rw [show Nat.blt i 0=false by rw [Bool.eq_false_iff,ne_eq,Nat.blt_eq];omega];exact Eq.refl _,trivial⟩ ⟨.inl rfl,trivial⟩,_,_,rfl,ret_fz [1] ((1=1∧0+n≤n)∧True) (by kernel_rfl) (by kernel_rfl) ⟨⟨rfl,by omega⟩,trivial⟩ (by kernel_rfl) rfl (by kernel_rfl) (by kernel_rfl) rfl trivial⟩)
theorem rfrom0_vc (n:Nat) (ll:Nat→Nat) (bb:Nat→Nat→Nat) (K:Res→Orc→Prop):runK PG 1000000 (.code (loopAt PG 36 0) 51 (mkT [(0,.sv 1 n (imF ll bb)),(4,.p 0 0),(5,.i .i64 0)]) (mkH [some (.cells 56 5 [] (setAll .e 0 [.l0,.l0,.i .i64 0,.i .i64 (-1),.b false]))])) (.s (.s (ot 6 (.s .z (.cal [] (.sv 1 (ll 0) fun k x=>CV.i .u8 (ofNat (bb 0 k))) [] .z))) (of_ 6 (.c (.cal [] (.sv 1 (ll 0) fun k x=>CV.i .u8 (ofNat (bb 0 k))) [] .z)))) .z) K=((fun (q6:AV)=>((fun (q5:AV)=>((fun (q4:AV)=>((fun (q3:AV)=>((fun (q2:AV)=>((fun (q1:AV)=>((fun (q0:Bool)=>((decide (0<ofNat n)=true→((0:Int)≤(0:Int)∧(0:Int)<↑n)∧True∧(q0=true→q0=true∧q0=true∧((0:Int)≤(0:Int)∧(0:Int)<↑n)∧q0=true∧True∧q0=true∧q0=true∧q0=true∧((!decide (ofNat (ll 0)=0))=true→K (.st .ret (t1 q1 (t0 (t1 (.i .i64 2) (t0 (t0 (tl q3) .e) (tl (.i .i64 0))) (t0 (t1 q5 (tl q4) .e) (tl q2))) (t1 (.i .i64 0) (t0 (t1 q1 (tn (ll 0)) .e) (tl (.sv 1 (ll 0) fun k x=>CV.i .u8 (ofNat (bb 0 k))))) (t0 .e (tl q1)))) (t1 .p0 (t1 (.p 0 0) (t0 (t1 (.i .i64 0) (tl (.sv 1 (ll 0) fun k x=>CV.i .u8 (ofNat (bb 0 k)))) .e) (tl q3)) (t0 .e (tl q2))) (t0 (t0 (t1 (inv n) (tl q4) .e) (tn (ll 0))) (t0 (tl q1) (tl (.i .i64 0)))))) ⟨tl (AObj.cells 56 5 [] (t1 .l0 (t1 .l0 (tl (.i .i64 (-1))) .e) (t1 (.i .i64 0) (tl (.b false)) .e))),1,[]⟩) .z)∧((!decide (ofNat (ll 0)=0))=false→True∧((0:Int)≤
 (0:Int)∧(0:Int)<↑n)∧True∧Con PG 65 [.sv 1 (ll 0) fun k x=>CV.i .u8 (ofNat (bb 0 k))] [] (.sv 1 (ll 0) fun k x=>CV.i .u8 (ofNat (bb 0 k))) []∧True∧rg (1)∧K (.st .nrm (t1 q1 (t0 (t0 (t0 (t0 (tl q3) (tl q6)) (t1 (.i .i64 0) (tl (.p 0 0)) .e)) (t0 (t1 q5 (tl q4) .e) (t1 q2 (tl q3) .e))) (t1 (.i .i64 1) (t0 (t1 q1 (tn (ll 0)) (tl (.p 0 0))) (t1 (.sv 1 (ll 0) fun k x=>CV.i .u8 (ofNat (bb 0 k))) (tl q1) .e)) (t0 (t1 (.i .i64 1) (tl (.p 0 0)) .e) (t1 q1 (tl (.sv 1 (ll 0) fun k x=>CV.i .u8 (ofNat (bb 0 k)))) .e)))) (t0 (t1 (.p 0 0) (t0 (t1 (.i .i64 0) (tl (.sv 1 (ll 0) fun k x=>CV.i .u8 (ofNat (bb 0 k)))) (tl (.p 0 0))) (t1 q3 (tl .l0) .e)) (t0 (t1 (.i .i64 0) (tl (.p 0 0)) .e) (t1 q2 (tl (.sv 1 (ll 0) fun k x=>CV.i .u8 (ofNat (bb 0 k)))) .e))) (t0 (t0 (t1 (inv n) (tl q4) .e) (t1 (inv (ll 0)) (tl (.i .i64 0)) .e)) (t0 (t1 q1 (tl (.p 0 0)) .e) (t1 (.i .i64 0) (tl (.l 1 0 1 1 1 true)) .e))))) ⟨t1 (AObj.cells 56 5 [] (t1 q6 (t1 .l0 (tl (.i .i64 (-1))) .e) (t1 (.i .i64 0) (tl (.b false)) .e))) (tl (.cells 38 1 [] (tl (.sv 1 (ll 0) fun k x=>CV.i .u8 (ofNat (bb 0 k)))))) (tl (.cells 38 1 [] (tl (.sv 1 (ll 0) fun k x=>CV.i .u8 (ofNat (bb 0 k)))))),3,[0,2,1]⟩) .z))∧(q0=false→q0=false∧q0=false∧q0=false∧q0=false∧q0=false∧q0=false∧True∧((0:Int)≤(0:Int)∧(0:Int)<↑n)∧True∧Con PG 65 [.sv 1 (ll 0) fun k x=>CV.i .u8 (ofNat (bb 0 k))] [] (.sv 1 (ll 0) fun k x=>CV.i .u8
 (ofNat (bb 0 k))) []∧True∧rg (1)∧K (.st .nrm (t1 q1 (t0 (t0 (t0 (t0 tu (tl q6)) (t1 (.i .i64 0) (tl (.p 0 0)) .e)) (t0 (t1 q5 (tl (.b false)) .e) (t1 q2 (tl q3) .e))) (t1 (.i .i64 1) (t0 (t1 q1 tu (tl (.p 0 0))) (t1 (.sv 1 (ll 0) fun k x=>CV.i .u8 (ofNat (bb 0 k))) (tl q1) .e)) (t0 (t1 (.i .i64 1) (tl (.p 0 0)) .e) (t1 (.tup []) (tl (.sv 1 (ll 0) fun k x=>CV.i .u8 (ofNat (bb 0 k)))) .e)))) (t0 (t1 (.p 0 0) (t0 (t1 (.i .i64 0) tu (tl (.p 0 0))) (t1 q3 (tl .l0) .e)) (t0 (t1 (.i .i64 0) (tl (.p 0 0)) .e) (t1 q2 (tl (.sv 1 (ll 0) fun k x=>CV.i .u8 (ofNat (bb 0 k)))) .e))) (t0 (t0 (t1 (inv n) tu .e) (t1 (inv (ll 0)) (tl (.i .i64 0)) .e)) (t0 (t1 q1 (tl (.p 0 0)) .e) (t1 (.tup []) (tl (.l 1 0 1 1 1 true)) .e))))) ⟨t1 (AObj.cells 56 5 [] (t1 q6 (t1 .l0 (tl (.i .i64 (-1))) .e) (t1 (.i .i64 0) (tl (.b false)) .e))) (tl (.cells 38 1 [] (tl (.sv 1 (ll 0) fun k x=>CV.i .u8 (ofNat (bb 0 k)))))) (tl (.cells 38 1 [] (tl (.sv 1 (ll 0) fun k x=>CV.i .u8 (ofNat (bb 0 k)))))),3,[0,2,1]⟩) .z))∧(decide (0<ofNat n)=false→K (.st (.exit 0) (t1 q1 (t0 (t0 .e (t0 (tl q5) .e)) (t1 (.i .i64 0) (t0 (tl q1) .e) .e)) (t0 (t1 (.p 0 0) (t0 (tl (.i .i64 0)) .e) .e) (t0 (t0 (tn n) .e) .e))) ⟨tl (AObj.cells 56 5 [] (t1 .l0 (t1 .l0 (tl (.i .i64 (-1))) .e) (t1 (.i .i64 0) (tl (.b false)) .e))),1,[]⟩) .z))) (!decide (ofNat (ll 0)=64)))) (.sv 1 n (imF ll bb)))) (.b !decide (ofNat (ll 0)=64)))) (.pv 1 (imF ll bb 0)))) (.b !decide (ofNat (ll 0)
 =0)))) (.b (decide (0<ofNat n))))) (.l 2 0 1 1 1 false)):=by kernel_rfl
theorem rfromR_vc (n k:Nat) (ll:Nat→Nat) (bb:Nat→Nat→Nat) (ff:Nat→Nat→CV) (K:Res→Orc→Prop):runK PG 1000000 (.code (loopAt PG 36 0) 51 (mkT [(0,.sv 1 n (imF ll bb)),(4,.p 0 0),(5,.i .i64 (ofNat k))]) (mkH [some (.cells 56 5 [] (setAll .e 0 [.lr 1 1 0 k false,.l0,.i .i64 0,.i .i64 (-1),.b false])),some (.rows 38 1 k ff)])) (.s (.s (ot 6 (.s .z (.cal [] (.sv 1 (ll k) fun k_1 x=>CV.i .u8 (ofNat (bb k k_1))) [] .z))) (of_ 6 (.c (.cal [] (.sv 1 (ll k) fun k_1 x=>CV.i .u8 (ofNat (bb k k_1))) [] .z)))) .z) K=((fun (q7:AV)=>((fun (q6:AV)=>((fun (q5:AV)=>((fun (q4:AV)=>((fun (q3:AV)=>((fun (q2:AV)=>((fun (q1:AV)=>((fun (q0:Bool)=>((decide (ofNat k<ofNat n)=true→(0≤ofNat k∧ofNat k<↑n)∧True∧(q0=true→q0=true∧q0=true∧(0≤ofNat k∧ofNat k<↑n)∧q0=true∧True∧q0=true∧q0=true∧q0=true∧((!decide (ofNat (ll k)=0))=true→K (.st .ret (t1 q1 (t0 (t1 (.i .i64 2) (t0 (t0 (tl q4) .e) (tn k)) (t0 (t1 q3 (tl q5) .e) (tl q2))) (t1 (inv k) (t0 (t1 q1 (tn (ll k)) .e) (tl (.sv 1 (ll k) fun k_1 x=>CV.i .u8 (ofNat (bb k k_1))))) (t0 .e (tl q1)))) (t1 .p0 (t1 (.p 0 0) (t0 (t1 (inv k) (tl (.sv 1 (ll k) fun k_1 x=>CV.i .u8 (ofNat (bb k k_1)))) .e) (tl q4)) (t0 .e (tl q2))) (t0 (t0 (t1 (inv n) (tl q5) .e) (tn (ll k))) (t0 (tl q1) (tn k))))) ⟨t1 (AObj.cells 56 5 [] (t1 (.lr 1 1 0 k false) (t1 .l0 (tl (.i .i64 (-1))) .e) (t1 (.i .i64 0)
 (tl (.b false)) .e))) (tl (.rows 38 1 k ff)) .e,2,[]⟩) .z)∧((!decide (ofNat (ll k)=0))=false→True∧(0≤ofNat k∧ofNat k<↑n)∧True∧Con PG 65 [.sv 1 (ll k) fun k_1 x=>CV.i .u8 (ofNat (bb k k_1))] [] (.sv 1 (ll k) fun k_1 x=>CV.i .u8 (ofNat (bb k k_1))) []∧(0+k≤k∧True∧k+1≤140737488355328∧(3*(k+1)+1536)*24≤562949953421312)∧True∧rg (ofNat k+1)∧K (.st .nrm (t1 q1 (t0 (t0 (t0 (t0 (tl q4) (tl q6)) (t1 (inv k) (tl (.p 0 0)) .e)) (t0 (t1 q3 (tl q5) .e) (t1 q2 (tl q4) .e))) (t1 q7 (t0 (t1 q1 (tn (ll k)) (tl (.p 0 0))) (t1 (.sv 1 (ll k) fun k_1 x=>CV.i .u8 (ofNat (bb k k_1))) (tl q1) .e)) (t0 (t1 q7 (tl (.p 0 0)) .e) (t1 q1 (tl (.sv 1 (ll k) fun k_1 x=>CV.i .u8 (ofNat (bb k k_1)))) .e)))) (t0 (t1 (.p 0 0) (t0 (t1 (inv k) (tl (.sv 1 (ll k) fun k_1 x=>CV.i .u8 (ofNat (bb k k_1)))) (tl (.p 0 0))) (t1 q4 (tl (.lr 1 1 0 k false)) .e)) (t0 (t1 (inv k) (tl (.p 0 0)) .e) (t1 q2 (tl (.sv 1 (ll k) fun k_1 x=>CV.i .u8 (ofNat (bb k k_1)))) .e))) (t0 (t0 (t1 (inv n) (tl q5) .e) (t1 (inv (ll k)) (tn k) .e)) (t0 (t1 q1 (tl (.p 0 0)) .e) (t1 (inv k) (tl (.l 2 0 1 1 1 true)) .e))))) ⟨t1 (AObj.cells 56 5 [] (t1 q6 (t1 .l0 (tl (.i .i64 (-1))) .e) (t1 (.i .i64 0) (tl (.b false)) .e))) (t0 (tl (.rows 38 1 (addN k 1) (appZ k ff fun x j=>List.getD [CV.sv 1 (ll k) fun k_1 x=>CV.i .u8 (ofNat (bb k k_1))] j CV.p0))) .e) (tl (.cells 38 1 [] (tl (.sv 1 (ll k) fun k_1 x=>CV.i .u8 (ofNat (bb k
 k_1)))))),4,[0,3,1,2]⟩) .z))∧(q0=false→q0=false∧q0=false∧q0=false∧q0=false∧q0=false∧q0=false∧True∧(0≤ofNat k∧ofNat k<↑n)∧True∧Con PG 65 [.sv 1 (ll k) fun k_1 x=>CV.i .u8 (ofNat (bb k k_1))] [] (.sv 1 (ll k) fun k_1 x=>CV.i .u8 (ofNat (bb k k_1))) []∧(0+k≤k∧True∧k+1≤140737488355328∧(3*(k+1)+1536)*24≤562949953421312)∧True∧rg (ofNat k+1)∧K (.st .nrm (t1 q1 (t0 (t0 (t0 (t0 tu (tl q6)) (t1 (inv k) (tl (.p 0 0)) .e)) (t0 (t1 q3 (tl (.b false)) .e) (t1 q2 (tl q4) .e))) (t1 q7 (t0 (t1 q1 tu (tl (.p 0 0))) (t1 (.sv 1 (ll k) fun k_1 x=>CV.i .u8 (ofNat (bb k k_1))) (tl q1) .e)) (t0 (t1 q7 (tl (.p 0 0)) .e) (t1 (.tup []) (tl (.sv 1 (ll k) fun k_1 x=>CV.i .u8 (ofNat (bb k k_1)))) .e)))) (t0 (t1 (.p 0 0) (t0 (t1 (inv k) tu (tl (.p 0 0))) (t1 q4 (tl (.lr 1 1 0 k false)) .e)) (t0 (t1 (inv k) (tl (.p 0 0)) .e) (t1 q2 (tl (.sv 1 (ll k) fun k_1 x=>CV.i .u8 (ofNat (bb k k_1)))) .e))) (t0 (t0 (t1 (inv n) tu .e) (t1 (inv (ll k)) (tn k) .e)) (t0 (t1 q1 (tl (.p 0 0)) .e) (t1 (.tup []) (tl (.l 2 0 1 1 1 true)) .e))))) ⟨t1 (AObj.cells 56 5 [] (t1 q6 (t1 .l0 (tl (.i .i64 (-1))) .e) (t1 (.i .i64 0) (tl (.b false)) .e))) (t0 (tl (.rows 38 1 (addN k 1) (appZ k ff fun x j=>List.getD [CV.sv 1 (ll k) fun k_1 x=>CV.i .u8 (ofNat (bb k k_1))] j CV.p0))) .e) (tl (.cells 38 1 [] (tl (.sv 1 (ll k) fun k_1 x=>CV.i .u8 (ofNat (bb k k_1)))))),4,[0,3,1,2]⟩) .z))∧(decide
 (ofNat k<ofNat n)=false→K (.st (.exit 0) (t1 q1 (t0 (t0 .e (t0 (tl q3) .e)) (t1 (inv k) (t0 (tl q1) .e) .e)) (t0 (t1 (.p 0 0) (t0 (tn k) .e) .e) (t0 (t0 (tn n) .e) .e))) ⟨t1 (AObj.cells 56 5 [] (t1 (.lr 1 1 0 k false) (t1 .l0 (tl (.i .i64 (-1))) .e) (t1 (.i .i64 0) (tl (.b false)) .e))) (tl (.rows 38 1 k ff)) .e,2,[]⟩) .z))) (!decide (ofNat (ll k)=64)))) (.sv 1 n (imF ll bb)))) (.b !decide (ofNat (ll k)=64)))) (.b (decide (ofNat k<ofNat n))))) (.pv 1 (imF ll bb k)))) (.b !decide (ofNat (ll k)=0)))) (.lr 3 1 0 (addN k 1) false))) (.i .i64 (ofNat k+1))):=by kernel_rfl
theorem rfromG_vc (n:Nat) (ll:Nat→Nat) (bb:Nat→Nat→Nat) (K:Res→Orc→Prop):runK PG 1000000 (.call 36 [.sv 1 n (imF ll bb)] (mkH [])) (.s (.t (.t (.f (.s .z (.lop [0] [0,4,5] 0 (.exit 0) [(4,.p 0 0)] [some (.cells 56 5 [] (setAll .e 0 [.lr 1 1 0 n false,.l0,.i .i64 0,.i .i64 (-1),.b false])),some (.rows 38 1 n (imF ll bb))] .z))))) (.f (.f (.t (.c .z))))) K=((fun (q0:Bool)=>((q0=true→q0=true∧q0=true∧decide (ofNat n<1)=false∧(decide (512<ofNat n)=true→K (.rv (.tup [.p0,.i .i64 2]) ⟨.e,0,[]⟩) .z)∧(decide (512<ofNat n)=false→LDoes PG (loopAt PG 36 0) 51 0 (mkT [(0,.sv 1 n (imF ll bb)),(4,.p 0 0),(5,.i .i64 0)]) [some (.cells 56 5 [] (setAll .e 0 [.l0,.l0,.i .i64 0,.i .i64 (-1),.b false]))] (.exit 0) (mkT [(4,.p 0 0)]) [some (.cells 56 5 [] (setAll .e 0 [.lr 1 1 0 n false,.l0,.i .i64 0,.i .i64 (-1),.b false])),some (.rows 38 1 n (imF ll bb))]∧K (.rv (.tup [.p 1 0,.i .i64 0]) ⟨t0 (tl (.cells 56 5 [] (t1 (.lr 2 1 0 n false) (t1 .l0 (tl (.i .i64 (-1))) .e) (t1 (.i .i64 0) (tl (.b false)) .e)))) (tl (.rows 38 1 n (imF ll bb))),3,[2,1,0,0]⟩) .z))∧(q0=false→q0=false∧q0=false∧decide (ofNat n<1)=true∧K (.rv (.tup [.p0,.i .i64 2]) ⟨.e,0,[]⟩) .z))) (!decide (ofNat n<1))):=by kernel_rfl
theorem rfromB_vc (n:Nat) (ll:Nat→Nat) (bb:Nat→Nat→Nat) (K:Res→Orc→Prop):runK PG 1000000 (.call 36 [.sv 1 n (imF ll bb)] (mkH [])) (.s (.t (.t (.f (.s .z (.lop [0] [0,4,5] 0 .ret [(2,.p0),(3,.i .i64 2)] [] .z))))) (.f (.f (.t (.c .z))))) K=((fun (q1:AV)=>((fun (q0:Bool)=>((q0=true→q0=true∧q0=true∧decide (ofNat n<1)=false∧(decide (512<ofNat n)=true→K (.rv q1 ⟨.e,0,[]⟩) .z)∧(decide (512<ofNat n)=false→LDoes PG (loopAt PG 36 0) 51 0 (mkT [(0,.sv 1 n (imF ll bb)),(4,.p 0 0),(5,.i .i64 0)]) [some (.cells 56 5 [] (setAll .e 0 [.l0,.l0,.i .i64 0,.i .i64 (-1),.b false]))] .ret (mkT [(2,.p0),(3,.i .i64 2)]) []∧K (.rv q1 ⟨t0 .e .e,1,[0,0]⟩) .z))∧(q0=false→q0=false∧q0=false∧decide (ofNat n<1)=true∧K (.rv q1 ⟨.e,0,[]⟩) .z))) (!decide (ofNat n<1)))) (.tup [.p0,.i .i64 2])):=by kernel_rfl
theorem app_im (ll:Nat→Nat) (bb:Nat→Nat→Nat) (k:Nat) {i j:Nat} (hi:i<k+1) (hj:j<1) :
 CW (appZ k (imF ll bb) (fun _ j=>List.getD [CV.sv 1 (ll k) fun k_1 _=>CV.i .u8 (ofNat (bb k k_1))] j .p0) i j) (imF ll bb i j):=by
 have:j=0:=by omega
 subst this
 cases k with
 | zero=>
   have:i=0:=by omega
   subst this
   exact .of (Eq.refl _)
 | succ k=>
   show CW (zipCV (Nat.blt i (k+1)) (imF ll bb i 0) (CV.sv 1 (ll (k+1)) fun k_1 _=>CV.i .u8 (ofNat (bb (k+1) k_1)))) (imF ll bb i 0)
   by_cases h:i<k+1
   · rw [show Nat.blt i (k+1)=true by rw [Nat.blt_eq];exact h]
     exact .of (Eq.refl _)
   · have:i=k+1:=by omega
     subst this
     rw [show Nat.blt (k+1) (k+1)=false by rw [Bool.eq_false_iff,ne_eq,Nat.blt_eq];omega]
     exact .of (Eq.refl _)
def rsO (v:AV):AObj:=.cells 56 5 [] (setAll .e 0 [v,.l0,.i .i64 0,.i .i64 (-1),.b false])
def rfI (n:Nat) (ll:Nat→Nat) (bb:Nat→Nat→Nat):Nat→List (Nat×AV)×List (Option AObj)
 | 0=>([(0,.sv 1 n (imF ll bb)),(4,.p 0 0),(5,.i .i64 0)],[some (rsO .l0)])
 | k+1=>([(0,.sv 1 n (imF ll bb)),(4,.p 0 0),(5,.i .i64 (ofNat (k+1)))],[some (rsO (.lr 1 1 0 (k+1) false)),some (.rows 38 1 (k+1) (imF ll bb))])
theorem rs_ov (ll:Nat→Nat) (bb:Nat→Nat→Nat):OVL [some (rsO (.l 1 0 1 1 1 false)),some (cellsO 38 [.sv 1 (ll 0) fun k _=>.i .u8 (ofNat (bb 0 k))])] [some (rsO (.lr 1 1 0 1 false)),some (.rows 38 1 1 (imF ll bb))]:=by
 refine ⟨.cellsD (dflt:=[]) (l:=[.l 1 0 1 1 1 false,.l0,.i .i64 0,.i .i64 (-1),.b false]) (l':=[.lr 1 1 0 1 false,.l0,.i .i64 0,.i .i64 (-1),.b false]) ⟨⟨fun _=>rfl,fun ρ x h=>h.l_lr⟩,.refl _,.refl _,.refl _,.refl _,trivial⟩,.x (OX.cellsRows (f:=fun i=>imF ll bb i 0) rfl fun i hi=>?_),trivial⟩
 have:i=0:=by omega
 subst this
 refine ⟨_,rfl,fun ρ x h=>?_⟩
 cases h with | sv _ _ _ _ hc=>exact hc
theorem rf_round (n:Nat) (ll:Nat→Nat) (bb:Nat→Nat→Nat) (hn:n≤512) (k:Nat) (hk:k<n) (ok:ll k=64∨ll k=0) (K:Res→Orc→Prop)
 (hK:∀σ tm1 H1 l1 objs1,StIs 0 σ [] tm1 H1 l1 objs1→TVL l1 (rfI n ll bb (k+1)).1→OVL objs1 (rfI n ll bb (k+1)).2→∀o,K (.st .nrm tm1 H1) o) :
 ∃o,runK PG 1000000 (.code (loopAt PG 36 0) 51 (mkT (rfI n ll bb k).1) (mkH (rfI n ll bb k).2)) o K:=by
 have con:=ncopied_con (ll k) (bb k) (by omega)
 have no:∀h:(!decide (ofNat (ll k)=(64:Int)))=true,(!decide (ofNat (ll k)=(0:Int)))=true→False:=fun h h0=>by
  rcases ok with e | e<;>rw [e] at h h0
  · cases h
  · cases h0
 cases k with
 | zero=>
   have fin:=fun tm1 H1 (st:StIs 0 [0,2] [] tm1 H1 [(0,.sv 1 n (imF ll bb)),(4,.p 0 0),(5,.i .i64 1)] [some (rsO (.l 1 0 1 1 1 false)),some (cellsO 38 [.sv 1 (ll 0) fun k _=>.i .u8 (ofNat (bb 0 k))])])=>
    hK [0,2] tm1 H1 _ _ st (.refl _) (rs_ov ll bb)
   refine ⟨_,(rfrom0_vc n ll bb K).mpr ⟨fun _=>⟨⟨by decide,by simp;omega⟩,trivial,fun h=>⟨h,h,⟨by decide,by simp;omega⟩,h,trivial,h,h,h,fun h0=>(no h h0).elim,fun h0=>⟨trivial,⟨by decide,by simp;omega⟩,trivial,con,trivial,by decide,?_⟩⟩,fun h=>⟨h,h,h,h,h,h,trivial,⟨by decide,by simp;omega⟩,trivial,con,trivial,by decide,?_⟩⟩,fun h=>absurd (of_decide_eq_false h) (by simp;omega)⟩⟩
   · exact fin _ _ (st_is [0,2] (by kernel_rfl) rfl rfl rfl ⟨by kernel_rfl,by kernel_rfl,by kernel_rfl,by kernel_rfl,trivial⟩ rfl) _
   · exact fin _ _ (st_is [0,2] (by kernel_rfl) rfl rfl rfl ⟨by kernel_rfl,by kernel_rfl,by kernel_rfl,by kernel_rfl,trivial⟩ rfl) _
 | succ k=>
   have fin:=fun tm1 H1 (st:StIs 0 [0,3] [] tm1 H1 [(0,.sv 1 n (imF ll bb)),(4,.p 0 0),(5,.i .i64 (ofNat (k+1+1)))] [some (rsO (.lr 1 1 0 (k+1+1) false)),some (.rows 38 1 (k+1+1) (appZ (k+1) (imF ll bb) (fun _ j=>List.getD [CV.sv 1 (ll (k+1)) fun k_1 _=>CV.i .u8 (ofNat (bb (k+1) k_1))] j .p0)))])=>
    hK [0,3] tm1 H1 _ _ st (.refl _) ⟨.refl _,.rowsW fun i j hi hj=>app_im ll bb (k+1) hi hj,trivial⟩
   have sz:0+(k+1)≤k+1∧True∧k+1+1≤140737488355328∧(3*(k+1+1)+1536)*24≤562949953421312:=⟨by omega,trivial,by omega,by omega⟩
   have r1:(0:Int)≤ofNat (k+1)∧ofNat (k+1)<(n:Int):=⟨by simp<;>omega,by simp<;>omega⟩
   have r2:(-9223372036854775808:Int)≤ofNat (k+1)+(1:Int)∧ofNat (k+1)+(1:Int)≤(9223372036854775807:Int):=⟨by simp<;>omega,by simp<;>omega⟩
   refine ⟨_,(rfromR_vc n (k+1) ll bb (imF ll bb) K).mpr ⟨fun _=>⟨r1,trivial,fun h=>⟨h,h,r1,h,trivial,h,h,h,fun h0=>(no h h0).elim,fun h0=>⟨trivial,r1,trivial,con,sz,trivial,r2,?_⟩⟩,fun h=>⟨h,h,h,h,h,h,trivial,r1,trivial,con,sz,trivial,r2,?_⟩⟩,fun h=>absurd (of_decide_eq_false h) (by simp;omega)⟩⟩
   · exact fin _ _ (st_is [0,3] (by kernel_rfl) rfl rfl rfl ⟨by kernel_rfl,by kernel_rfl,by kernel_rfl,by kernel_rfl,trivial⟩ rfl) _
   · exact fin _ _ (st_is [0,3] (by kernel_rfl) rfl rfl rfl ⟨by kernel_rfl,by kernel_rfl,by kernel_rfl,by kernel_rfl,trivial⟩ rfl) _
theorem rfromG_lp (n:Nat) (ll:Nat→Nat) (bb:Nat→Nat→Nat) (h1:1≤n) (hn:n≤512) (ok:∀i,i<n→ll i=64∨ll i=0) :
 LDoes PG (loopAt PG 36 0) 51 0 (mkT (rfI n ll bb 0).1) (rfI n ll bb 0).2 (.exit 0) (mkT [(4,.p 0 0)]) [some (rsO (.lr 1 1 0 n false)),some (.rows 38 1 n (imF ll bb))]:=by
 refine loop_indV (D:=Nat) (l':=[(4,.p 0 0)]) (rfI n ll bb) (fun k=>n-k) (fun k=>k≤n) ?_ 0 (Nat.zero_le n)
 intro k hk
 refine ⟨Nat.zero_le _,1000000,?_⟩
 by_cases hlt:k<n
 · exact rf_round n ll bb hn k hlt (ok k hlt) _ fun σ tm1 H1 l1 objs1 st tv ov o=>.inl ⟨k+1,σ,[],_,_,l1,objs1,hlt,by show n-(k+1)<n-k;omega,rfl,st,tv,ov⟩
 · have:k=n:=by omega
   subst this
   cases k with
   | zero=>omega
   | succ k=>
     exact ⟨_,(rfromR_vc (k+1) (k+1) ll bb (imF ll bb) _).mpr ⟨fun h=>absurd (of_decide_eq_true h) (by simp),fun _=>.inr ⟨[0,1],[],_,_,[(4,.p 0 0)],[some (rsO (.lr 1 1 0 (k+1) false)),some (.rows 38 1 (k+1) (imF ll bb))],rfl,by simp,st_is [0,1] (by kernel_rfl) rfl rfl rfl ⟨by kernel_rfl,by kernel_rfl,by kernel_rfl,by kernel_rfl,trivial⟩ rfl,.refl _,.refl _⟩⟩⟩
theorem rfromB_lp (n:Nat) (ll:Nat→Nat) (bb:Nat→Nat→Nat) (hn:n≤512) (q:Nat) (hq:q<n) (ok:∀i,i<q→ll i=64∨ll i=0) (bad:ll q≠64∧ll q≠0) :
 LDoes PG (loopAt PG 36 0) 51 0 (mkT (rfI n ll bb 0).1) (rfI n ll bb 0).2 .ret (mkT [(2,.p0),(3,.i .i64 2)]) []:=by
 refine loop_indV (D:=Nat) (l':=[(2,.p0),(3,.i .i64 2)]) (rfI n ll bb) (fun k=>n-k) (fun k=>k≤q) ?_ 0 (Nat.zero_le q)
 intro k hk
 refine ⟨Nat.zero_le _,1000000,?_⟩
 by_cases hlt:k<q
 · exact rf_round n ll bb hn k (by omega) (ok k hlt) _ fun σ tm1 H1 l1 objs1 st tv ov o=>.inl ⟨k+1,σ,[],_,_,l1,objs1,hlt,by show n-(k+1)<n-k;omega,rfl,st,tv,ov⟩
 · have:k=q:=by omega
   subst this
   have d64:decide (ofNat (ll k)=(64:Int))=false:=by simp;omega
   have d0:decide (ofNat (ll k)=(0:Int))=false:=by simp;omega
   have n64:(!decide (ofNat (ll k)=(64:Int)))=false→False:=fun h=>by rw [d64] at h;cases h
   have n0:(!decide (ofNat (ll k)=(0:Int)))=false→False:=fun h=>by rw [d0] at h;cases h
   cases k with
   | zero=>
     exact ⟨_,(rfrom0_vc n ll bb _).mpr ⟨fun _=>⟨⟨by decide,by simp;omega⟩,trivial,fun h=>⟨h,h,⟨by decide,by simp;omega⟩,h,trivial,h,h,h,fun h0=>.inr ⟨[],[],_,_,[(2,.p0),(3,.i .i64 2)],[],rfl,by simp,st_is [] (by kernel_rfl) rfl rfl rfl trivial rfl,.refl _,.refl _⟩,fun h0=>(n0 h0).elim⟩,fun h=>(n64 h).elim⟩,fun h=>absurd (of_decide_eq_false h) (by simp;omega)⟩⟩
   | succ k=>
     have r1:(0:Int)≤ofNat (k+1)∧ofNat (k+1)<(n:Int):=⟨by simp<;>omega,by simp<;>omega⟩
     exact ⟨_,(rfromR_vc n (k+1) ll bb (imF ll bb) _).mpr ⟨fun _=>⟨r1,trivial,fun h=>⟨h,h,r1,h,trivial,h,h,h,fun h0=>.inr ⟨[],[],_,_,[(2,.p0),(3,.i .i64 2)],[],rfl,by simp,st_is [] (by kernel_rfl) rfl rfl rfl trivial rfl,.refl _,.refl _⟩,fun h0=>(n0 h0).elim⟩,fun h=>(n64 h).elim⟩,fun h=>absurd (of_decide_eq_false h) (by simp;omega)⟩⟩
theorem rfrom_con (n:Nat) (ll:Nat→Nat) (bb:Nat→Nat→Nat) (h1:1≤n) (hn:n≤512) (ok:∀i,i<n→ll i=64∨ll i=0) :
 Con PG 36 [.sv 1 n (imF ll bb)] [] (.tup [.p 0 0,.i .i64 0]) [.set (rsO (.lr 1 1 0 n false)),.set (.rows 38 1 n (imF ll bb))]:=
 con_of_run [] [1,2] ((rfromG_vc n ll bb _).mpr ⟨fun h=>⟨h,h,by simp;omega,fun h2=>absurd (of_decide_eq_true h2) (by simp;omega),fun _=>⟨rfromG_lp n ll bb h1 hn ok,_,_,rfl,ret_is (by kernel_rfl) rfl (by kernel_rfl) (by kernel_rfl) rfl ⟨by kernel_rfl,by kernel_rfl,by kernel_rfl,by kernel_rfl,trivial⟩⟩⟩,fun h=>absurd h (by simp;omega)⟩)
theorem rfromBad_con (n:Nat) (ll:Nat→Nat) (bb:Nat→Nat→Nat) (bad:n<1∨512<n∨∃q,q<n∧(∀i,i<q→ll i=64∨ll i=0)∧ll q≠64∧ll q≠0):Con PG 36 [.sv 1 n (imF ll bb)] [] (.tup [.p0,.i .i64 2]) []:=
 con_plain rfl ((rfromB_vc n ll bb _).mpr ⟨fun h=>⟨h,h,by simpa using h,fun _=>⟨_,_,rfl,rfl⟩,fun h2=>⟨by
  have h0:¬n<1:=by have:=h;simp at this;omega
  have h2:¬512<n:=by have:=of_decide_eq_false h2;simp at this;omega
  rcases bad with b | b | ⟨q,q1,q2,q3⟩
  · exact absurd b h0
  · exact absurd b h2
  · exact rfromB_lp n ll bb (by omega) q q1 q2 q3,_,_,rfl,rfl⟩⟩,fun h=>⟨h,h,by simpa using h,_,_,rfl,rfl⟩⟩)
theorem sfromR_vc (n k:Nat) (ll:Nat→Nat) (bb:Nat→Nat→Nat) (s:SS) (K:Res→Orc→Prop):runK PG 1000000 (.code (loopAt PG 35 0) 47 (mkT [(4,.p 0 0),(17,.sv 1 n (imF ll bb)),(18,.i .i64 (ofNat n)),(19,.i .i64 (ofNat k))]) (mkH [some s.o])) (.s (.s (.s .z .z) (.s .z (.s .z .z))) .z) K=((fun (q4:AV)=>((fun (q3:AV)=>((fun (q2:Int)=>((fun (q1:AV)=>((fun (q0:AV)=>((decide (ofNat k<ofNat n)=true→((0:Int)≤ofNat k∧ofNat k<↑n)∧True∧(decide (ofNat (ll k)=(0:Int))=true→True∧((0:Int)≤ofNat k∧ofNat k<(512:Int))∧True∧k<512∧rg (ofNat k+1)∧K (.st .nrm (t0 (t0 (t0 (t1 (.sv 1 (ll k) fun k_1 x=>CV.i .u8 (ofNat (bb k k_1))) (t0 (tl (.ps 0 1 65 512 k)) .e) (tl (.sv 1 (ll k) fun k_1 x=>CV.i .u8 (ofNat (bb k k_1))))) (t0 (tl (.i .i64 q2)) (tl (.p 0 0)))) (t0 (t0 (tl q3) (tn (ll k))) (t0 (tn k) (t1 (.p 0 0) (tl (.i .i64 q2)) .e)))) (t0 (t1 (.p 0 0) (t0 (t0 (tl (.ps 0 65 65 512 k)) .e) (tl (.sv 1 (ll k) fun k_1 x=>CV.i .u8 (ofNat (bb k k_1))))) (t0 (tl q0) (tn k))) (t1 (inv k) (t0 (tn n) (tl q1)) (t0 (tl q4) (tl (.p 0 1)))))) ⟨tl (AObj.segs 77 33799 [⟨0,1,1,oneF (CV.i .i64 (ofNat (SS.n s)))⟩,⟨1,65,512,setRow (fun i j=>match Nat.blt j 64 with | true=>CV.i .u8 (SS.dur s i j) | false=>CV.b (SS.torn s i)) k 64 [CV.b true]⟩,⟨33281,1,1,oneF (CV.opv (pB (SS.P s)) 66 (pW (SS.P s)))⟩,⟨33282,1,512,latF (lB (SS.P s)) (lW (SS.P s))⟩,⟨33794,5,1,tailF (ofNat (List.length (SS.P s))) (ofNat (SS.wr s)) (SS.off s) (SS.armed s) (ofNat (SS.left s))⟩]),1,[0]⟩) .z)∧(decide (ofNat (ll k)=(0:Int))=false→((!decide (ofNat (ll k)=(64:Int)))=true→K (.st .ret (t0 (t0 (t1 (.i .i64 (2:Int)) (t1 (.sv 1 (ll k) fun k_1 x=>CV.i .u8 (ofNat (bb k k_1))) .e (tl (.sv 1 (ll k) fun k_1 x=>CV.i .u8 (ofNat (bb k k_1))))) (t0 (t1 (inv k) (tl (.b !decide (ofNat (ll k)=(64:Int)))) .e) .e)) (t0 (t0 (t1 q3 (tl (.sv 1 (ll k) fun k_1 x=>CV.i .u8 (ofNat (bb k k_1)))) .e) (tn (ll k))) (t0 (tn k) .e))) (t1 .p0 (t1 (.p 0 0) (t0 .e (tl (.sv 1 (ll k) fun k_1 x=>CV.i .u8 (ofNat (bb k k_1))))) (t0 (tl q0) .e)) (t1 (inv k) (t0 (t1 (inv n) (tn (ll k)) .e) (tl q1)) (t0 (tl q4) .e)))) ⟨tl (SS.o s),1,[]⟩) .z)∧((!decide (ofNat (ll k)=(64:Int)))=false→(64≤ll k∧0<ll k)∧True∧True∧((0:Int)≤ofNat k∧ofNat k<(512:Int))∧True∧k<512∧rg (ofNat k+1)∧K (.st .nrm (t0 (t0 (t0 (t1 (.sv 1 (ll k) fun k_1 x=>CV.i .u8 (ofNat (bb k k_1))) .e (t1 (.sv 1 (ll k) fun k_1 x=>CV.i .u8 (ofNat (bb k k_1))) (tl (.pv 64 fun j=>CV.i .u8 (ofNat (bb k j)))) .e)) (t0 (t1 (.i .i64 q2) (tl (.b !decide (ofNat (ll k)=(64:Int)))) .e) (t0 (tl (.ps 0 1 65 512 k)) .e))) (t0 (t0 (t1 q3 (tl (.sv 1 (ll k) fun k_1 x=>CV.i .u8 (ofNat (bb k k_1)))) .e) (t1 (inv (ll k)) (tl (.p 0 0)) .e)) (t0 (t1 (inv k) (tn k) .e) (t0 (tl (.i .i64 q2)) .e)))) (t0 (t1 (.p 0 0) (t0 .e (t1 (.sv 1 (ll k) fun k_1 x=>CV.i .u8 (ofNat (bb k k_1))) (tl (.agg [.i .u8 (ofNat (bb k 0)),.i .u8 (ofNat (bb k 1)),.i .u8 (ofNat (bb k 2)),.i .u8 (ofNat (bb k 3)),.i .u8 (ofNat (bb k 4)),.i .u8 (ofNat (bb k 5)),.i .u8 (ofNat (bb k 6)),.i .u8 (ofNat (bb k 7)),.i .u8 (ofNat (bb k 8)),.i .u8 (ofNat (bb k 9)),.i .u8 (ofNat (bb k 10)),.i .u8 (ofNat (bb k 11)),.i .u8 (ofNat (bb k 12)),.i .u8 (ofNat (bb k 13)),.i .u8 (ofNat (bb k 14)),.i .u8 (ofNat (bb k 15)),.i .u8 (ofNat (bb k 16)),.i .u8 (ofNat (bb k 17)),.i .u8 (ofNat (bb k 18)),.i .u8 (ofNat (bb k 19)),.i .u8 (ofNat (bb k 20)),.i .u8 (ofNat (bb k 21)),.i .u8 (ofNat (bb k 22)),.i .u8 (ofNat (bb k 23)),.i .u8 (ofNat (bb k 24)),.i .u8 (ofNat (bb k 25)),.i .u8 (ofNat (bb k 26)),.i .u8 (ofNat (bb k 27)),.i .u8 (ofNat (bb k 28)),.i .u8 (ofNat (bb k 29)),.i .u8 (ofNat (bb k 30)),.i .u8 (ofNat (bb k 31)),.i .u8 (ofNat (bb k 32)),.i .u8 (ofNat (bb k 33)),.i .u8 (ofNat (bb k 34)),.i .u8 (ofNat (bb k 35)),.i .u8 (ofNat (bb k 36)),.i .u8 (ofNat (bb k 37)),.i .u8 (ofNat (bb k 38)),.i .u8 (ofNat (bb k 39)),.i .u8 (ofNat (bb k 40)),.i .u8 (ofNat (bb k 41)),.i .u8 (ofNat (bb k 42)),.i .u8 (ofNat (bb k 43)),.i .u8 (ofNat (bb k 44)),.i .u8 (ofNat (bb k 45)),.i .u8 (ofNat (bb k 46)),.i .u8 (ofNat (bb k 47)),.i .u8 (ofNat (bb k 48)),.i .u8 (ofNat (bb k 49)),.i .u8 (ofNat (bb k 50)),.i .u8 (ofNat (bb k 51)),.i .u8 (ofNat (bb k 52)),.i .u8 (ofNat (bb k 53)),.i .u8 (ofNat (bb k 54)),.i .u8 (ofNat (bb k 55)),.i .u8 (ofNat (bb k 56)),.i .u8 (ofNat (bb k 57)),.i .u8 (ofNat (bb k 58)),.i .u8 (ofNat (bb k 59)),.i .u8 (ofNat (bb k 60)),.i .u8 (ofNat (bb k 61)),.i .u8 (ofNat (bb k 62)),.i .u8 (ofNat (bb k 63))])) .e)) (t0 (t1 q0 (tl (.p 0 0)) .e) (t0 (tl (.ps 0 1 65 512 k)) .e))) (t1 (inv k) (t0 (t1 (inv n) (tn (ll k)) .e) (t1 q1 (tl (.p 0 1)) .e)) (t0 (t1 q4 (tl (.sv 1 (ll k) fun k_1 x=>CV.i .u8 (ofNat (bb k k_1)))) .e) .e)))) ⟨tl (AObj.segs 77 33799 [⟨0,1,1,oneF (CV.i .i64 (ofNat (SS.n s)))⟩,⟨1,65,512,setRow (fun i j=>match Nat.blt j 64 with | true=>CV.i .u8 (SS.dur s i j) | false=>CV.b (SS.torn s i)) k 0 [CV.i .u8 (ofNat (bb k 0)),CV.i .u8 (ofNat (bb k 1)),CV.i .u8 (ofNat (bb k 2)),CV.i .u8 (ofNat (bb k 3)),CV.i .u8 (ofNat (bb k 4)),CV.i .u8 (ofNat (bb k 5)),CV.i .u8 (ofNat (bb k 6)),CV.i .u8 (ofNat (bb k 7)),CV.i .u8 (ofNat (bb k 8)),CV.i .u8 (ofNat (bb k 9)),CV.i .u8 (ofNat (bb k 10)),CV.i .u8 (ofNat (bb k 11)),CV.i .u8 (ofNat (bb k 12)),CV.i .u8 (ofNat (bb k 13)),CV.i .u8 (ofNat (bb k 14)),CV.i .u8 (ofNat (bb k 15)),CV.i .u8 (ofNat (bb k 16)),CV.i .u8 (ofNat (bb k 17)),CV.i .u8 (ofNat (bb k 18)),CV.i .u8 (ofNat (bb k 19)),CV.i .u8 (ofNat (bb k 20)),CV.i .u8 (ofNat (bb k 21)),CV.i .u8 (ofNat (bb k 22)),CV.i .u8 (ofNat (bb k 23)),CV.i .u8 (ofNat (bb k 24)),CV.i .u8 (ofNat (bb k 25)),CV.i .u8 (ofNat (bb k 26)),CV.i .u8 (ofNat (bb k 27)),CV.i .u8 (ofNat (bb k 28)),CV.i .u8 (ofNat (bb k 29)),CV.i .u8 (ofNat (bb k 30)),CV.i .u8 (ofNat (bb k 31)),CV.i .u8 (ofNat (bb k 32)),CV.i .u8 (ofNat (bb k 33)),CV.i .u8 (ofNat (bb k 34)),CV.i .u8 (ofNat (bb k 35)),CV.i .u8 (ofNat (bb k 36)),CV.i .u8 (ofNat (bb k 37)),CV.i .u8 (ofNat (bb k 38)),CV.i .u8 (ofNat (bb k 39)),CV.i .u8 (ofNat (bb k 40)),CV.i .u8 (ofNat (bb k 41)),CV.i .u8 (ofNat (bb k 42)),CV.i .u8 (ofNat (bb k 43)),CV.i .u8 (ofNat (bb k 44)),CV.i .u8 (ofNat (bb k 45)),CV.i .u8 (ofNat (bb k 46)),CV.i .u8 (ofNat (bb k 47)),CV.i .u8 (ofNat (bb k 48)),CV.i .u8 (ofNat (bb k 49)),CV.i .u8 (ofNat (bb k 50)),CV.i .u8 (ofNat (bb k 51)),CV.i .u8 (ofNat (bb k 52)),CV.i .u8 (ofNat (bb k 53)),CV.i .u8 (ofNat (bb k 54)),CV.i .u8 (ofNat (bb k 55)),CV.i .u8 (ofNat (bb k 56)),CV.i .u8 (ofNat (bb k 57)),CV.i .u8 (ofNat (bb k 58)),CV.i .u8 (ofNat (bb k 59)),CV.i .u8 (ofNat (bb k 60)),CV.i .u8 (ofNat (bb k 61)),CV.i .u8 (ofNat (bb k 62)),CV.i .u8 (ofNat (bb k 63))]⟩,⟨33281,1,1,oneF (CV.opv (pB (SS.P s)) 66 (pW (SS.P s)))⟩,⟨33282,1,512,latF (lB (SS.P s)) (lW (SS.P s))⟩,⟨33794,5,1,tailF (ofNat (List.length (SS.P s))) (ofNat (SS.wr s)) (SS.off s) (SS.armed s) (ofNat (SS.left s))⟩]),1,[0]⟩) .z)))∧(decide (ofNat k<ofNat n)=false→K (.st (.exit 0) (t0 (t0 (t0 .e (t0 (tn k) .e)) (t0 (t0 (tl q3) .e) .e)) (t0 (t1 (.p 0 0) .e (t0 (tl q0) .e)) (t0 (t0 (tn n) .e) .e))) ⟨tl (SS.o s),1,[]⟩) .z))) (.b (decide (ofNat k<ofNat n))))) (.b (decide (ofNat (ll k)=(0:Int)))))) (ofNat k+(1:Int)))) (.sv 1 n (imF ll bb)))) (.pv 1 (imF ll bb k))):=by kernel_rfl
theorem durF_lo (dur:Nat→Nat→Int) (torn:Nat→Bool) (i:Nat) {j:Nat} (h:j<64):durF dur torn i j=.i .u8 (dur i j):=by
 unfold durF
 rw [show Nat.blt j 64=true by rw [Nat.blt_eq];exact h]
theorem torn_cw (dur:Nat→Nat→Int) (torn:Nat→Bool) (k i j:Nat) (hj:j<65):CW (setRow (durF dur torn) k 64 [.b true] i j) (durF dur (fun q=>bif Nat.beq q k then true else torn q) i j):=by
 by_cases h:j<64
 · have e:setRow (durF dur torn) k 64 [.b true] i j=durF dur torn i j:=by
    unfold setRow
    rw [show Nat.ble 64 j=false by rw [Bool.eq_false_iff,ne_eq,Nat.ble_eq];omega]
   rw [e,durF_lo _ _ _ h,durF_lo _ _ _ h]
   exact .of rfl
 · have:j=64:=by omega
   subst this
   exact .of (Eq.refl _)
def b64 (b:Nat→Int):List CV:=(List.range 64).map fun q=>.i .u8 (b q)
theorem byt_cw (dur:Nat→Nat→Int) (torn:Nat→Bool) (b:Nat→Int) (k i j:Nat) (hj:j<65):CW (setRow (durF dur torn) k 0 (b64 b) i j) (durF (fun q=>bif Nat.beq q k then b else dur q) torn i j):=by
 by_cases h:j<64
 · have e:setRow (durF dur torn) k 0 (b64 b) i j=zipCV (Nat.beq i k) (.i .u8 (b j)) (.i .u8 (dur i j)):=by
    unfold setRow
    rw [show Nat.ble 0 j=true from Nat.ble_eq_true_of_le (Nat.zero_le j),Nat.sub_zero,show (b64 b)[j]? =some (.i .u8 (b j)) by unfold b64;rw [List.getElem?_map,List.getElem?_range h];rfl,durF_lo _ _ _ h]
   rw [e,durF_lo _ _ _ h]
   cases Nat.beq i k<;>exact .of (Eq.refl _)
 · have:j=64:=by omega
   subst this
   exact .of (Eq.refl _)
def fromS (n:Nat) (ll:Nat→Nat) (bb:Nat→Nat→Nat) (k:Nat):SS:=
 { n:=n,dur:=fun i=>bif Nat.blt i k && Nat.beq (ll i) 64 then (fun j=>ofNat (bb i j)) else fun _=>0,torn:=fun i=>Nat.blt i k && Nat.beq (ll i) 0,P:=[],wr:=0,off:=false,armed:=false,left:=0}
theorem from_ov {s s':SS} {f:Nat→Nat→CV} (hf:∀i j,i<512→j<65→CW (f i j) (durF s'.dur s'.torn i j)) (hn:s'.n=s.n) (hP:s'.P=s.P) (hw:s'.wr=s.wr) (ho:s'.off=s.off) (ha:s'.armed=s.armed) (hl:s'.left=s.left) :
 OV (some (.segs 77 33799 [⟨0,1,1,oneF (.i .i64 (ofNat s.n))⟩,⟨1,65,512,f⟩,⟨33281,1,1,oneF (.opv (pB s.P) 66 (pW s.P))⟩,⟨33282,1,512,latF (lB s.P) (lW s.P)⟩,⟨33794,5,1,tailF (ofNat s.P.length) (ofNat s.wr) s.off s.armed (ofNat s.left)⟩])) (some s'.o):=by
 unfold SS.o
 rw [hn,hP,hw,ho,ha,hl]
 exact .segsW ⟨.refl _,⟨rfl,rfl,rfl,fun i j hi hj=>hf i j hi hj⟩,.refl _,.refl _,.refl _,trivial⟩
theorem from_s (n:Nat) (ll:Nat→Nat) (bb:Nat→Nat→Nat) (k:Nat) (h0:ll k=0):(fun q=>bif Nat.beq q k then true else (fromS n ll bb k).torn q)=(fromS n ll bb (k+1)).torn∧(fromS n ll bb k).dur=(fromS n ll bb (k+1)).dur:=by
 constructor<;>funext q
 · show (bif Nat.beq q k then true else (Nat.blt q k && Nat.beq (ll q) 0))=(Nat.blt q (k+1) && Nat.beq (ll q) 0)
   by_cases e:q=k
   · subst e
     rw [Nat.beq_refl,cond_true,show Nat.blt q (q+1)=true by rw [Nat.blt_eq];omega,h0];rfl
   · rw [show Nat.beq q k=false by rw [Bool.eq_false_iff,ne_eq,Nat.beq_eq];exact e,cond_false,show Nat.blt q (k+1)=Nat.blt q k by rw [Bool.eq_iff_iff,Nat.blt_eq,Nat.blt_eq];omega]
 · show (bif Nat.blt q k && Nat.beq (ll q) 64 then (fun j=>ofNat (bb q j)) else fun _=>0)=(bif Nat.blt q (k+1) && Nat.beq (ll q) 64 then (fun j=>ofNat (bb q j)) else fun _=>0)
   by_cases e:q=k
   · subst e
     rw [h0,show Nat.beq 0 64=false from rfl,Bool.and_false,Bool.and_false]
   · rw [show Nat.blt q (k+1)=Nat.blt q k by rw [Bool.eq_iff_iff,Nat.blt_eq,Nat.blt_eq];omega]
theorem from_b (n:Nat) (ll:Nat→Nat) (bb:Nat→Nat→Nat) (k:Nat) (h0:ll k=64):(fun q=>bif Nat.beq q k then (fun j=>ofNat (bb k j)) else (fromS n ll bb k).dur q)=(fromS n ll bb (k+1)).dur∧(fromS n ll bb k).torn=(fromS n ll bb (k+1)).torn:=by
 constructor<;>funext q
 · show (bif Nat.beq q k then (fun j=>ofNat (bb k j)) else (bif Nat.blt q k && Nat.beq (ll q) 64 then (fun j=>ofNat (bb q j)) else fun _=>0))=(bif Nat.blt q (k+1) && Nat.beq (ll q) 64 then (fun j=>ofNat (bb q j)) else fun _=>0)
   by_cases e:q=k
   · subst e
     rw [Nat.beq_refl,cond_true,show Nat.blt q (q+1)=true by rw [Nat.blt_eq];omega,h0];rfl
   · rw [show Nat.beq q k=false by rw [Bool.eq_false_iff,ne_eq,Nat.beq_eq];exact e,cond_false,show Nat.blt q (k+1)=Nat.blt q k by rw [Bool.eq_iff_iff,Nat.blt_eq,Nat.blt_eq];omega]
 · show (Nat.blt q k && Nat.beq (ll q) 0)=(Nat.blt q (k+1) && Nat.beq (ll q) 0)
   by_cases e:q=k
   · subst e
     rw [h0,show Nat.beq 64 0=false from rfl,Bool.and_false,Bool.and_false]
   · rw [show Nat.blt q (k+1)=Nat.blt q k by rw [Bool.eq_iff_iff,Nat.blt_eq,Nat.blt_eq];omega]
def sfI (n:Nat) (ll:Nat→Nat) (bb:Nat→Nat→Nat) (k:Nat):List (Nat×AV)×List (Option AObj):=
 ([(4,.p 0 0),(17,.sv 1 n (imF ll bb)),(18,.i .i64 (ofNat n)),(19,.i .i64 (ofNat k))],[some (fromS n ll bb k).o])
theorem sf_round (n:Nat) (ll:Nat→Nat) (bb:Nat→Nat→Nat) (hn:n≤512) (k:Nat) (hk:k<n) (ok:ll k=64∨ll k=0) (K:Res→Orc→Prop)
 (hK:∀tm1 H1 objs1,StIs 0 [0] [] tm1 H1 (sfI n ll bb (k+1)).1 objs1→OVL objs1 (sfI n ll bb (k+1)).2→∀o,K (.st .nrm tm1 H1) o) :
 ∃o,runK PG 1000000 (.code (loopAt PG 35 0) 47 (mkT (sfI n ll bb k).1) (mkH (sfI n ll bb k).2)) o K:=by
 have r1:(0:Int)≤ofNat k∧ofNat k<(n:Int):=⟨by simp,by simp;omega⟩
 have r3:(0:Int)≤ofNat k∧ofNat k<512:=⟨by simp,by simp;omega⟩
 have r2:(-9223372036854775808:Int)≤ofNat k+(1:Int)∧ofNat k+(1:Int)≤(9223372036854775807:Int):=⟨by simp<;>omega,by simp<;>omega⟩
 refine ⟨_,(sfromR_vc n k ll bb (fromS n ll bb k) K).mpr ⟨fun _=>⟨r1,trivial,fun h0=>⟨trivial,r3,trivial,by omega,r2,?_⟩,fun h0=>⟨fun h64=>?_,fun h64=>⟨⟨?_,?_⟩,trivial,trivial,r3,trivial,by omega,r2,?_⟩⟩⟩,fun h=>absurd (of_decide_eq_false h) (by simp;omega)⟩⟩
 · have e:ll k=0:=by have:=of_decide_eq_true h0;simp at this;omega
   obtain ⟨e1,e2⟩:=from_s n ll bb k e
   refine hK _ _ [some (.segs 77 33799 [⟨0,1,1,oneF (.i .i64 (ofNat n))⟩,⟨1,65,512,setRow (durF (fromS n ll bb k).dur (fromS n ll bb k).torn) k 64 [.b true]⟩,⟨33281,1,1,oneF (.opv (pB []) 66 (pW []))⟩,⟨33282,1,512,latF (lB []) (lW [])⟩,⟨33794,5,1,tailF 0 0 false false 0⟩])] (st_is [0] (by kernel_rfl) rfl rfl rfl ⟨by kernel_rfl,by kernel_rfl,trivial⟩ rfl) ⟨from_ov (s:=fromS n ll bb k) (fun i j hi hj=>?_) rfl rfl rfl rfl rfl rfl,trivial⟩ _
   rw [←e1,←e2]
   exact torn_cw _ _ k i j hj
 · rcases ok with e | e
   · rw [e] at h64;cases h64
   · rw [e] at h0;cases h0
 · simp at h64;omega
 · simp at h64;omega
 · have e:ll k=64:=by simp at h64;omega
   obtain ⟨e1,e2⟩:=from_b n ll bb k e
   refine hK _ _ [some (.segs 77 33799 [⟨0,1,1,oneF (.i .i64 (ofNat n))⟩,⟨1,65,512,setRow (durF (fromS n ll bb k).dur (fromS n ll bb k).torn) k 0 (b64 fun q=>ofNat (bb k q))⟩,⟨33281,1,1,oneF (.opv (pB []) 66 (pW []))⟩,⟨33282,1,512,latF (lB []) (lW [])⟩,⟨33794,5,1,tailF 0 0 false false 0⟩])] (st_is [0] (by kernel_rfl) rfl rfl rfl ⟨by kernel_rfl,by kernel_rfl,trivial⟩ rfl) ⟨from_ov (s:=fromS n ll bb k) (fun i j hi hj=>?_) rfl rfl rfl rfl rfl rfl,trivial⟩ _
   rw [←e1,←e2]
   exact byt_cw _ _ _ k i j hj
def sn (n:Nat):SS:=SS.new n
def fr (n:Nat) (ll:Nat→Nat) (bb:Nat→Nat→Nat):SS:=fromS n ll bb n
theorem sfromG_vc (n:Nat) (ll:Nat→Nat) (bb:Nat→Nat→Nat) (K:Res→Orc→Prop):runK PG 1000000 (.call 35 [.sv 1 n (imF ll bb)] (mkH [])) (.cal [] (.tup [.p 0 0,.i .i64 0]) [.set (SS.o (sn n))] (.c (.lop [0] [4,17,18,19] 0 (.exit 0) [(4,.p 0 0)] [some (SS.o (fr n ll bb))] .z))) K=(Con PG 9 [inv n] [] (.tup [.p 0 0,.i .i64 0]) [.set (SS.o (sn n))]∧LDoes PG (loopAt PG 35 0) 47 0 (mkT [(4,.p 0 0),(17,.sv 1 n (imF ll bb)),(18,.i .i64 (ofNat n)),(19,.i .i64 0)]) [some (SS.o (sn n))] (.exit 0) (mkT [(4,.p 0 0)]) [some (SS.o (fr n ll bb))]∧K (.rv (.tup [.p 1 0,.i .i64 0]) ⟨t0 (tl (SS.o (fr n ll bb))) .e,2,[1,0,0]⟩) .z):=by kernel_rfl
theorem sfromB_vc (n:Nat) (ll:Nat→Nat) (bb:Nat→Nat→Nat) (K:Res→Orc→Prop):runK PG 1000000 (.call 35 [.sv 1 n (imF ll bb)] (mkH [])) (.cal [] (.tup [.p 0 0,.i .i64 0]) [.set (SS.o (sn n))] (.c (.lop [0] [4,17,18,19] 0 .ret [(2,.p0),(3,.i .i64 2)] [] .z))) K=(Con PG 9 [inv n] [] (.tup [.p 0 0,.i .i64 0]) [.set (SS.o (sn n))]∧LDoes PG (loopAt PG 35 0) 47 0 (mkT [(4,.p 0 0),(17,.sv 1 n (imF ll bb)),(18,.i .i64 (ofNat n)),(19,.i .i64 0)]) [some (SS.o (sn n))] .ret (mkT [(2,.p0),(3,.i .i64 2)]) []∧K (.rv (.tup [.p0,.i .i64 2]) ⟨t0 .e .e,1,[0,0]⟩) .z):=by kernel_rfl
theorem sfromX_vc (n:Nat) (ll:Nat→Nat) (bb:Nat→Nat→Nat) (K:Res→Orc→Prop):runK PG 1000000 (.call 35 [.sv 1 n (imF ll bb)] (mkH [])) (.cal [] (.tup [.p0,.i .i64 2]) [] (.c .z)) K=(Con PG 9 [inv n] [] (.tup [.p0,.i .i64 2]) []∧K (.rv (.tup [.p0,.i .i64 2]) ⟨.e,0,[]⟩) .z):=by kernel_rfl
theorem from_new (n:Nat) (ll:Nat→Nat) (bb:Nat→Nat→Nat):fromS n ll bb 0=SS.new n:=by
 have e1:(fun i=>bif Nat.blt i 0 && Nat.beq (ll i) 64 then (fun j=>ofNat (bb i j)) else fun _=>(0:Int))=fun _ _=>0:=by
  funext i
  rw [show Nat.blt i 0=false by rw [Bool.eq_false_iff,ne_eq,Nat.blt_eq];omega,Bool.false_and,cond_false]
 have e2:(fun i=>Nat.blt i 0 && Nat.beq (ll i) 0)=fun _=>false:=by
  funext i
  rw [show Nat.blt i 0=false by rw [Bool.eq_false_iff,ne_eq,Nat.blt_eq];omega,Bool.false_and]
 unfold fromS SS.new
 rw [e1,e2]
theorem sfromG_lp (n:Nat) (ll:Nat→Nat) (bb:Nat→Nat→Nat) (hn:n≤512) (ok:∀i,i<n→ll i=64∨ll i=0) :
 LDoes PG (loopAt PG 35 0) 47 0 (mkT (sfI n ll bb 0).1) (sfI n ll bb 0).2 (.exit 0) (mkT [(4,.p 0 0)]) [some (fromS n ll bb n).o]:=by
 refine loop_indV (D:=Nat) (l':=[(4,.p 0 0)]) (sfI n ll bb) (fun k=>n-k) (fun k=>k≤n) ?_ 0 (Nat.zero_le n)
 intro k hk
 refine ⟨Nat.zero_le _,1000000,?_⟩
 by_cases hlt:k<n
 · exact sf_round n ll bb hn k hlt (ok k hlt) _ fun tm1 H1 objs1 st ov o=>.inl ⟨k+1,[0],[],_,_,_,objs1,hlt,by show n-(k+1)<n-k;omega,rfl,st,.refl _,ov⟩
 · have:k=n:=by omega
   subst this
   exact ⟨_,(sfromR_vc k k ll bb (fromS k ll bb k) _).mpr ⟨fun h=>absurd (of_decide_eq_true h) (by simp),fun _=>.inr ⟨[0],[],_,_,[(4,.p 0 0)],[some (fromS k ll bb k).o],rfl,by simp,st_is [0] (by kernel_rfl) rfl rfl rfl ⟨by kernel_rfl,by kernel_rfl,trivial⟩ rfl,.refl _,.refl _⟩⟩⟩
theorem sfromB_lp (n:Nat) (ll:Nat→Nat) (bb:Nat→Nat→Nat) (hn:n≤512) (q:Nat) (hq:q<n) (ok:∀i,i<q→ll i=64∨ll i=0) (bad:ll q≠64∧ll q≠0) :
 LDoes PG (loopAt PG 35 0) 47 0 (mkT (sfI n ll bb 0).1) (sfI n ll bb 0).2 .ret (mkT [(2,.p0),(3,.i .i64 2)]) []:=by
 refine loop_indV (D:=Nat) (l':=[(2,.p0),(3,.i .i64 2)]) (sfI n ll bb) (fun k=>n-k) (fun k=>k≤q) ?_ 0 (Nat.zero_le q)
 intro k hk
 refine ⟨Nat.zero_le _,1000000,?_⟩
 by_cases hlt:k<q
 · exact sf_round n ll bb hn k (by omega) (ok k hlt) _ fun tm1 H1 objs1 st ov o=>.inl ⟨k+1,[0],[],_,_,_,objs1,hlt,by show n-(k+1)<n-k;omega,rfl,st,.refl _,ov⟩
 · have:k=q:=by omega
   subst this
   have r1:(0:Int)≤ofNat k∧ofNat k<(n:Int):=⟨by simp,by simp;omega⟩
   exact ⟨_,(sfromR_vc n k ll bb (fromS n ll bb k) _).mpr ⟨fun _=>⟨r1,trivial,fun h0=>absurd (of_decide_eq_true h0) (by simp;omega),fun h0=>⟨fun h64=>.inr ⟨[],[],_,_,[(2,.p0),(3,.i .i64 2)],[],rfl,by simp,st_is [] (by kernel_rfl) rfl rfl rfl trivial rfl,.refl _,.refl _⟩,fun h64=>absurd h64 (by simp;omega)⟩⟩,fun h=>absurd (of_decide_eq_false h) (by simp;omega)⟩⟩
theorem from_con (n:Nat) (ll:Nat→Nat) (bb:Nat→Nat→Nat) (h1:1≤n) (hn:n≤512) (ok:∀i,i<n→ll i=64∨ll i=0) :
 Con PG 35 [.sv 1 n (imF ll bb)] [] (.tup [.p 0 0,.i .i64 0]) [.set (fromS n ll bb n).o]:=
 con_of_run [] [1] ((sfromG_vc n ll bb _).mpr ⟨new_con n h1 hn,by
  have h:=sfromG_lp n ll bb hn ok
  unfold sfI at h
  simp only at h
  rw [from_new] at h
  exact h,_,_,rfl,ret_is (by kernel_rfl) rfl (by kernel_rfl) (by kernel_rfl) rfl ⟨by kernel_rfl,by kernel_rfl,trivial⟩⟩)
theorem fromBad_con (n:Nat) (ll:Nat→Nat) (bb:Nat→Nat→Nat) (bad:n<1∨512<n∨∃q,q<n∧(∀i,i<q→ll i=64∨ll i=0)∧ll q≠64∧ll q≠0):Con PG 35 [.sv 1 n (imF ll bb)] [] (.tup [.p0,.i .i64 2]) []:=by
 by_cases h:1≤n∧n≤512
 · obtain ⟨q,q1,q2,q3⟩:∃q,q<n∧(∀i,i<q→ll i=64∨ll i=0)∧ll q≠64∧ll q≠0:=by
    rcases bad with b | b | b
    · omega
    · omega
    · exact b
   refine con_plain rfl ((sfromB_vc n ll bb _).mpr ⟨new_con n h.1 h.2,?_,_,_,rfl,rfl⟩)
   have h2:=sfromB_lp n ll bb h.2 q q1 q2 q3
   unfold sfI at h2
   simp only at h2
   rw [from_new] at h2
   exact h2
 · exact con_plain rfl ((sfromX_vc n ll bb _).mpr (by
    have hx:=newBad_con (ofNat n) (by simp;omega)
    repeat' first | exact hx | exact trivial | exact ⟨_,_,rfl,rfl⟩ | apply And.intro))
end Go.Proofs.St
namespace Go.Proofs.Jn
open Go Go.Sim Go.Proofs Go.Proofs.Cd Go.Proofs.St Go.Proofs.Cl Go.Proofs.YtbilafnamckglaaDoor
theorem good_or (ll:Nat→Nat):∀n,(∀i,i<n→ll i=64∨ll i=0)∨∃q,q<n∧(∀i,i<q→ll i=64∨ll i=0)∧ll q≠64∧ll q≠0
 | 0=>.inl fun i h=>absurd h (Nat.not_lt_zero i)
 | n+1=>by
   rcases good_or ll n with h | ⟨q,h1,h2⟩
   · by_cases g:ll n=64∨ll n=0
     · exact .inl fun i hi=>by
        by_cases e:i=n
        · rw [e];exact g
        · exact h i (by omega)
     · exact .inr ⟨n,by omega,h,fun e=>g (.inl e),fun e=>g (.inr e)⟩
   · exact .inr ⟨q,by omega,h2⟩
theorem fr_byt (n:Nat) (ll:Nat→Nat) (bb:Nat→Nat→Nat) (hb:∀i k,bb i k<256):Byt (fr n ll bb):=
 ⟨fun i j=>by
   show ∃q:Nat,q<256∧(bif Nat.blt i n && Nat.beq (ll i) 64 then (fun j=>ofNat (bb i j)) else fun _=>0) j=ofNat q
   cases Nat.blt i n && Nat.beq (ll i) 64 with
   | true=>exact ⟨bb i j,hb i j,rfl⟩
   | false=>exact ⟨0,by decide,rfl⟩,fun w hw=>by cases hw⟩
theorem fr_ok (n:Nat) (ll:Nat→Nat) (bb:Nat→Nat→Nat) (hn:n≤512):OkM (fr n ll bb) 0:=⟨hn,Nat.le_refl 0,Nat.le_refl 0,(by decide:(0:Nat)<9223372036854775808),fun w hw=>by cases hw⟩
theorem rfrom2_con (n:Nat) (ll:Nat→Nat) (bb:Nat→Nat→Nat) (h1:1≤n) (hn:n≤512) (ok:∀i,i<n→ll i=64∨ll i=0) :
 Con PG 36 [.sv 1 n (imF ll bb)] [] (.tup [.p 0 0,.i .i64 0]) [.set (rsA 2 (fr n ll bb)),.set (rsR (fr n ll bb)),.set (rsP (fr n ll bb))]:=by
 have k:=rfrom_con n ll bb h1 hn ok
 refine (k.padV (Nat.zero_le _) (.rows 115 2 0 (penF (oA []) (oB []))) rfl).post (.refl _) ⟨rsZ_ov n 0 (-1) false,.rowsW fun i j hi hj=>?_,.refl _,trivial⟩
 have e:Nat.blt i n=true:=by rw [Nat.blt_eq];exact hi
 show CW (CV.sv 1 (ll i) fun k _=>.i .u8 (ofNat (bb i k))) (CV.sv 1 (bif (Nat.blt i n && Nat.beq (ll i) 0) then 0 else 64) fun k _=>.i .u8 ((bif Nat.blt i n && Nat.beq (ll i) 64 then (fun j=>ofNat (bb i j)) else fun _=>0) k))
 rw [e,Bool.true_and,Bool.true_and]
 rcases ok i hi with o | o<;>rw [o]
 · exact .of rfl
 · exact sv0_cw 1 _ _
theorem gn_le (d:Nat→Int):gn d≤1073741824:=by
 unfold gn
 by_cases ok:PtOk fun t=>(d t).toNat
 · rw [stG_t ok];exact ok.gen1
 · unfold stG;rw [ptB_f ok,cond_false];exact Nat.zero_le _
theorem gb_all (s:SS):GB s 1073741824:=⟨fun q=>gn_le _,fun w _=>gn_le _⟩
theorem pjc_open {M:Nat} {T:SS} (hn:122≤T.n) (ok:OkM T M) (hM:M+1<1073741823) (byt:Byt T) (hc:Calm T):∃V J,PJ 1073741824 (M+1) V J∧Calm V∧J.dead=false∧Opn T V J:=by
 have hn5:=ok.n
 by_cases hg:0<bgG T
 · obtain ⟨c,rc⟩:=recs_ex T (bgA T) (bgG T)
   obtain ⟨eu,er⟩:=opJ_u rc
   have w:=(begin_con T hn5 byt hg).post (us':=[.set T.o]) (.refl _) (OVL.refl _)
   have k1:=openX_con T T (bgG T) (bgA T) c hn hc.on w hn hn5 hc.on byt (bgA_le T) rc
   have k2:=ropen_con ok (by omega) byt hn hc.on hg rc
   refine ⟨T,opJ T (bgA T) (bgG T) c,⟨hn,ok.mono (by omega),byt,bgA_le T,bgG_le (gb_all T),gb_all T,er⟩,hc,rfl,c,_,k1,.inl ⟨hg,rfl,?_⟩,sm5_con c _ _ (by have:=jU_le c rc.st;omega)⟩
   rw [eu]
   exact k2.post (.refl _) (OVL.refl _)
 · have hg:bgG T=0:=by omega
   have hin:1 % 2+sumP (fun _=>1) 1 0≤T.n:=by rw [sumP1,one_parts 0];omega
   obtain ⟨d1,d2⟩:=cmtS_ok 1 0 1 M (fun _=>1) (fun _ _=>0 % 256) T (1 % 2) ok hin
   have d3:=cmtS_byt 1 0 1 M (fun _=>1) (fun _ _=>0 % 256) (fun _ _=>by decide) T (1 % 2) ok byt hin
   obtain ⟨_,e0,cS⟩:=nmS_calm hc (by omega)
   have d1:OkM (nmS T 1 0) (M+sumP (fun _=>1) 1 0):=d1
   rw [sumP1,one_parts 0] at d1
   have d2:(nmS T 1 0).n=T.n:=d2
   have d3:Byt (nmS T 1 0):=d3
   obtain ⟨c,rc⟩:=recs_ex (nmS T 1 0) 0 1
   obtain ⟨eu,er⟩:=opJ_u rc
   have w:=begin0_con T M ok hM (by omega) byt hg
   rw [e0] at w
   have k1:=openX_con T (nmS T 1 0) 1 0 c hn hc.on w (by omega) d1.n cS.on d3 (by decide) rc
   have k2:=ropen0_con ok hM byt hn hc hg d3 rc
   refine ⟨nmS T 1 0,opJ (nmS T 1 0) 0 1 c,⟨by omega,d1,d3,by show 0≤1;decide,by show 1≤1073741824;decide,gb_all _,er⟩,cS,rfl,c,_,k1,.inr ⟨hg,?_⟩,sm5_con c _ _ (by have:=jU_le c rc.st;omega)⟩
   rw [eu]
   exact k2
theorem pjc_append {M L:Nat} {s:SS} {j:JS} {bs:Nat→Nat} (h:PJ 1073741824 M s j) (c:Calm s) (hd:j.dead=false) (hM:M+24<1073741823) (hb:∀t,bs t<256):∃s2 j2,PJ 1073741824 (M+24) s2 j2∧Calm s2∧j2.dead=false∧Bth 24 26 [.sv 1 L (byF bs)] [.sv 1 L (byF bs)] s j s2 j2:=by
 obtain ⟨rm,h60,er,hrec⟩:=h.r
 have hk:PJ 1073741824 (M+24) s j:=⟨h.n,h.ok.mono (by omega),h.byt,h.area,h.g,h.gb,h.r⟩
 by_cases hL:1128<L
 · exact ⟨s,j,hk,c,hd,bth_keep (appendRange_con j s L bs hd hL) (by rw [wJ_wL er hd];exact rappendRange_con s _ _ _ _ L bs hL)⟩
 have hL:L≤1128:=by omega
 have n24:=np_le hL
 by_cases hf:rm<npF L
 · exact ⟨s,j,hk,c,hd,bth_keep (appendSpace_con j s L bs hd hL (by rw [er];simp;omega)) (by rw [wJ_wL er hd];exact rappendSpace_con s _ _ _ _ L bs hL (by omega) (by omega))⟩
 have hf:npF L≤rm:=by omega
 have k1:=append_con j rm s L M bs hd er h60 h.area (by omega) h.ok (by omega) h.n hb hL hf
 have k2:=rappend_con j rm M L s bs h60 h.area (by omega) h.ok (by omega) h.n hb hL hf
 rw [←wJ_wL er hd] at k2
 have har:=h.area
 have hn:=h.n
 have hin:apQ j rm+sumP (fun _=>L) 1 0≤s.n:=by rw [sumP1];unfold apQ;omega
 obtain ⟨c1,c2⟩:=cmtS_ok j.gen j.recs 1 M (fun _=>L) (fun _=>bs) s (apQ j rm) h.ok hin
 have c3:=cmtS_byt j.gen j.recs 1 M (fun _=>L) (fun _=>bs) (fun _=>hb) s (apQ j rm) h.ok h.byt hin
 obtain ⟨e0,cS⟩:=c.cmt j.gen j.recs 1 (fun _=>L) (fun _=>bs) (apQ j rm) hin
 have e0:apE j rm s L bs=0:=e0
 have cS:Calm (apS j rm s L bs):=cS
 have c1:OkM (apS j rm s L bs) (M+sumP (fun _=>L) 1 0):=c1
 rw [sumP1] at c1
 have c2:(apS j rm s L bs).n=s.n:=c2
 have c3:Byt (apS j rm s L bs):=c3
 have hE:decide (apE j rm s L bs=0)=true:=decide_eq_true e0
 generalize apE j rm s L bs=E at k1 k2 hE
 generalize apS j rm s L bs=S at k1 k2 c1 c2 c3 cS
 unfold apL at k2
 rw [hE] at k1 k2
 refine ⟨S,{ j with recs:=j.recs+1,room:=j.room-ofNat (npF L)},⟨by omega,c1.mono (by omega),c3,h.area,h.g,gb_all S,rm-npF L,by omega,by show j.room-ofNat (npF L)= _;rw [er];simp;omega,by show j.recs+1≤_;have:=npF_pos L;omega⟩,cS,hd,.inl ⟨0,k1,?_⟩⟩
 have e:JS.u { j with recs:=j.recs+1,room:=j.room-ofNat (npF L)}=60-rm+npF L:=by
  rw [u_of (rm:=rm-npF L) (by show j.room-ofNat (npF L)= _;rw [er];simp;omega)];omega
 rw [e]
 show Con PG 26 _ _ _ [.set (rsA 4 S),.set (rsR S),.set (rjO j.gen j.area (j.recs+1) (60-rm+npF L) j.dead),.gone,.set (rsP S)]
 rw [hd]
 exact k2
theorem pjc_rewrite {M n:Nat} {s:SS} {j:JS} {m:Nat→Nat} {b:Nat→Nat→Nat} (h:PJ 1073741824 M s j) (c:Calm s) (hd:j.dead=false) (hM:M+62<1073741823) (hn:n≤17592186044416) (hb:∀i t,b i t<256):∃s2 j2,PJ 1073741824 (M+62) s2 j2∧Bth 14 16 [.sv 1 n (recF m b)] [.sv 1 n (recF m b)] s j s2 j2:=by
 obtain ⟨rm,h60,er,hrec⟩:=h.r
 have hk:PJ 1073741824 (M+62) s j:=⟨h.n,h.ok.mono (by omega),h.byt,h.area,h.g,h.gb,h.r⟩
 rcases first_long n m with hl | ⟨k,hk1,bad,good⟩
 rotate_left
 · exact ⟨s,j,hk,bth_keep (rewriteRange_con s j n k m b hd hn hk1 bad good) (by rw [wJ_wL er hd];exact rrewriteRange_con s _ _ _ _ n k m b hn hk1 bad good)⟩
 by_cases hs:60<sumP m n 0
 · exact ⟨s,j,hk,bth_keep (rewriteSpace_con s j n m b hd hn hl hs) (by rw [wJ_wL er hd];exact rrewriteSpace_con s _ _ _ _ n m b hn hl hs)⟩
 have hs:sumP m n 0≤60:=by omega
 have hg:=h.g
 have hn5:=h.ok.n
 have ho:=c.on
 by_cases hv:1073741824<nxV s j
 · exact ⟨s,j,hk,bth_keep (rewriteWorn_con s j n m b hd hl hs h.area ho h.n hn5 h.byt (.inr hv)) (by rw [wJ_wL er hd];exact rrewriteWorn_con s j M _ _ n m b hn hl hs h.ok (by omega) h.byt h.area (by omega) ho hv)⟩
 have hv:nxV s j≤1073741824:=by omega
 have hgt:=(nxV_gt s j).1
 have k1:=rewrite_con s j n M m b hd hl hs (by omega) (by omega) h.area ho h.n h.byt h.ok (by omega) hb
 have k2:=rrewrite_con s j M j.recs (60-rm) n m b hl hs h.ok (by omega) h.byt hb h.area (by omega) ho h.n (by omega)
 rw [←wJ_wL er hd] at k2
 have har:=h.area
 have hsn:=h.n
 have hin:2+(1-j.area)*60+sumP m n 0≤s.n:=by omega
 obtain ⟨c1,c2⟩:=cmtS_ok (nxV s j) 0 n M m b s (2+(1-j.area)*60) h.ok hin
 have c3:=cmtS_byt (nxV s j) 0 n M m b hb s (2+(1-j.area)*60) h.ok h.byt hin
 obtain ⟨e2,cS⟩:=c.cmt (nxV s j) 0 n m b (2+(1-j.area)*60) hin
 have e2:rwE s j n m b=0:=e2
 have cS:Calm (rwS s j n m b):=cS
 have c1:OkM (rwS s j n m b) (M+sumP m n 0):=c1
 have c2:(rwS s j n m b).n=s.n:=c2
 have c3:Byt (rwS s j n m b):=c3
 have n1:=one_parts 0
 have hin2:nxV s j % 2+sumP (fun _=>1) 1 0≤(rwS s j n m b).n:=by rw [sumP1,n1,c2];omega
 obtain ⟨d1,d2⟩:=cmtS_ok (nxV s j) 0 1 (M+sumP m n 0) (fun _=>1) (fun _ _=>(1-j.area) % 256) (rwS s j n m b) (nxV s j % 2) c1 hin2
 have d3:=cmtS_byt (nxV s j) 0 1 (M+sumP m n 0) (fun _=>1) (fun _ _=>(1-j.area) % 256) (fun _ _=>Nat.mod_lt _ (by decide)) (rwS s j n m b) (nxV s j % 2) c1 c3 hin2
 have e4:nmE (rwS s j n m b) (nxV s j) (1-j.area)=0:=(cS.cmt (nxV s j) 0 1 (fun _=>1) (fun _ _=>(1-j.area) % 256) (nxV s j % 2) hin2).1
 have d1:OkM (nmS (rwS s j n m b) (nxV s j) (1-j.area)) (M+sumP m n 0+sumP (fun _=>1) 1 0):=d1
 rw [sumP1,n1] at d1
 have d2:(nmS (rwS s j n m b) (nxV s j) (1-j.area)).n=(rwS s j n m b).n:=d2
 have d3:Byt (nmS (rwS s j n m b) (nxV s j) (1-j.area)):=d3
 unfold rwV rwT2 rwR at k2
 have eJ:rwJ s j n m=⟨nxV s j,1-j.area,n,60-ofNat (sumP m n 0),j.dead⟩:=rfl
 rw [eJ,hd] at k1
 have hnn:=sumP_ge m n 0
 have uN:JS.u ⟨nxV s j,1-j.area,n,60-ofNat (sumP m n 0),false⟩=sumP m n 0:=by
  rw [u_of (rm:=60-sumP m n 0) (by show (60:Int)-ofNat (sumP m n 0)= _;simp;omega)];omega
 have hE4:decide (nmE (rwS s j n m b) (nxV s j) (1-j.area)=0)=true:=decide_eq_true e4
 have hE2:decide (rwE s j n m b=0)=true:=decide_eq_true e2
 generalize nmE (rwS s j n m b) (nxV s j) (1-j.area)=E4 at k1 k2 hE4
 generalize nmS (rwS s j n m b) (nxV s j) (1-j.area)=S4 at k1 k2 d1 d2 d3
 generalize rwE s j n m b=E2 at k1 k2 hE2
 generalize rwS s j n m b=S2 at k1 k2 c1 c2 c3 d2
 rw [hE2] at k1 k2
 rw [hE4] at k1 k2
 refine ⟨S4,⟨nxV s j,1-j.area,n,60-ofNat (sumP m n 0),false⟩,⟨by omega,d1.mono (by omega),d3,by show 1-j.area≤1;omega,hv,gb_all S4,60-sumP m n 0,by omega,by show (60:Int)-ofNat (sumP m n 0)= _;simp;omega,by show n≤_;omega⟩,.inl ⟨0,k1,?_⟩⟩
 rw [uN];exact k2
theorem rwLitS {S0 S:SS} {J0 J:JS} {L:Nat} {bs:Nat→Nat} {E:Int} (k0:Con PG 14 [.p 1 0,.sv 1 1 (recF (fun _=>L) fun _=>bs)] [some S0.o,some J0.o] (.i .i64 E) [.set S.o,.set J.o]) :
 Con PG 14 [.p 1 0,.l 2 0 1 1 1 true] [some S0.o,some J0.o,some (cellsO 38 [.sv 1 L (byF bs)])] (.i .i64 E) [.set S.o,.set J.o,.gone]:=by
 have k1:Con PG 14 [.p 1 0,.sv 1 1 (recF (fun _=>L) fun _=>bs)] [some S0.o,some J0.o,none] (.i .i64 E) [.set S.o,.set J.o,.gone]:=
  k0.more [0,1] (by kernel_rfl) (hasAll_of (by kernel_rfl) (by kernel_rfl)) (by kernel_rfl) (by kernel_rfl) (by kernel_rfl) (by kernel_rfl)
 have k2:Con PG 14 [.p 1 0,.sv 1 1 (litL L bs)] [some S0.o,some J0.o,none] (.i .i64 E) [.set S.o,.set J.o,.gone]:=k1.pre ⟨.refl _,.sv fun i j hi hj=>by
  obtain rfl:j=0:=by omega
  exact Eq.refl _,trivial⟩
 exact k2.thawZ 2 (z:=.cells 1 [.sv 1 L (byF bs)]) (by kernel_rfl) ⟨.inl rfl,.inl rfl,rfl,trivial⟩ ⟨.inl rfl,.inr ⟨by kernel_rfl,by show 0+1*1≤1;decide,rfl⟩,trivial⟩ rfl
theorem rrLitS {S0 S:SS} {J0 J:JS} {u v L:Nat} {bs:Nat→Nat} {E:Int} (k0:Con PG 16 [.p 2 0,.sv 1 1 (recF (fun _=>L) fun _=>bs)] (wJu S0 J0 u) (.i .i64 E) [.set (rsA 4 S),.set (rsR S),.set (rjJ J v),.gone,.set (rsP S)]) :
 Con PG 16 [.p 2 0,.l 4 0 1 1 1 true] [some (rsA 3 S0),some (rsR S0),some (rjJ J0 u),some (rsP S0),some (cellsO 38 [.sv 1 L (byF bs)])] (.i .i64 E) [.set (rsA 5 S),.set (rsR S),.set (rjJ J v),.gone,.gone,.set (rsP S)]:=by
 have k1:Con PG 16 [.p 2 0,.sv 1 1 (recF (fun _=>L) fun _=>bs)] [some (rsA 3 S0),some (rsR S0),some (rjJ J0 u),some (rsP S0),none] (.i .i64 E) [.set (rsA 5 S),.set (rsR S),.set (rjJ J v),.gone,.gone,.set (rsP S)]:=
  k0.moreG [0,1,2,3] (by kernel_rfl) (hasAll_of (by kernel_rfl) (by kernel_rfl)) (by kernel_rfl) (by kernel_rfl) (by kernel_rfl) (by kernel_rfl)
 have k2:Con PG 16 [.p 2 0,.sv 1 1 (litL L bs)] [some (rsA 3 S0),some (rsR S0),some (rjJ J0 u),some (rsP S0),none] (.i .i64 E) [.set (rsA 5 S),.set (rsR S),.set (rjJ J v),.gone,.gone,.set (rsP S)]:=k1.pre ⟨.refl _,.sv fun i j hi hj=>by
  obtain rfl:j=0:=by omega
  exact Eq.refl _,trivial⟩
 exact k2.thawZ 4 (z:=.cells 1 [.sv 1 L (byF bs)]) (by kernel_rfl) ⟨.inl rfl,.inl rfl,.inl rfl,.inl rfl,rfl,trivial⟩ ⟨.inl rfl,.inr ⟨by kernel_rfl,by show 0+1*1≤1;decide,rfl⟩,trivial⟩ rfl
theorem rwLitK {S0:SS} {J0 J:JS} {L:Nat} {bs:Nat→Nat} {E:Int} (k0:Con PG 14 [.p 1 0,.sv 1 1 (recF (fun _=>L) fun _=>bs)] [some S0.o,some J0.o] (.i .i64 E) [.keep,.set J.o]) :
 Con PG 14 [.p 1 0,.l 2 0 1 1 1 true] [some S0.o,some J0.o,some (cellsO 38 [.sv 1 L (byF bs)])] (.i .i64 E) [.keep,.set J.o,.gone]:=by
 have k1:Con PG 14 [.p 1 0,.sv 1 1 (recF (fun _=>L) fun _=>bs)] [some S0.o,some J0.o,none] (.i .i64 E) [.keep,.set J.o,.gone]:=
  k0.more [0,1] (by kernel_rfl) (hasAll_of (by kernel_rfl) (by kernel_rfl)) (by kernel_rfl) (by kernel_rfl) (by kernel_rfl) (by kernel_rfl)
 have k2:Con PG 14 [.p 1 0,.sv 1 1 (litL L bs)] [some S0.o,some J0.o,none] (.i .i64 E) [.keep,.set J.o,.gone]:=k1.pre ⟨.refl _,.sv fun i j hi hj=>by
  obtain rfl:j=0:=by omega
  exact Eq.refl _,trivial⟩
 exact k2.thawZ 2 (z:=.cells 1 [.sv 1 L (byF bs)]) (by kernel_rfl) ⟨.inl rfl,.inl rfl,rfl,trivial⟩ ⟨.inl rfl,.inr ⟨by kernel_rfl,by show 0+1*1≤1;decide,rfl⟩,trivial⟩ rfl
theorem rrLitK {S0:SS} {J0 J:JS} {u v L:Nat} {bs:Nat→Nat} {E:Int} (k0:Con PG 16 [.p 2 0,.sv 1 1 (recF (fun _=>L) fun _=>bs)] (wJu S0 J0 u) (.i .i64 E) [.keep,.keep,.set (rjJ J v),.keep]) :
 Con PG 16 [.p 2 0,.l 4 0 1 1 1 true] [some (rsA 3 S0),some (rsR S0),some (rjJ J0 u),some (rsP S0),some (cellsO 38 [.sv 1 L (byF bs)])] (.i .i64 E) [.keep,.keep,.set (rjJ J v),.keep,.gone]:=by
 have k1:Con PG 16 [.p 2 0,.sv 1 1 (recF (fun _=>L) fun _=>bs)] [some (rsA 3 S0),some (rsR S0),some (rjJ J0 u),some (rsP S0),none] (.i .i64 E) [.keep,.keep,.set (rjJ J v),.keep,.gone]:=
  k0.moreG [0,1,2,3] (by kernel_rfl) (hasAll_of (by kernel_rfl) (by kernel_rfl)) (by kernel_rfl) (by kernel_rfl) (by kernel_rfl) (by kernel_rfl)
 have k2:Con PG 16 [.p 2 0,.sv 1 1 (litL L bs)] [some (rsA 3 S0),some (rsR S0),some (rjJ J0 u),some (rsP S0),none] (.i .i64 E) [.keep,.keep,.set (rjJ J v),.keep,.gone]:=k1.pre ⟨.refl _,.sv fun i j hi hj=>by
  obtain rfl:j=0:=by omega
  exact Eq.refl _,trivial⟩
 exact k2.thawZ 4 (z:=.cells 1 [.sv 1 L (byF bs)]) (by kernel_rfl) ⟨.inl rfl,.inl rfl,.inl rfl,.inl rfl,rfl,trivial⟩ ⟨.inl rfl,.inr ⟨by kernel_rfl,by show 0+1*1≤1;decide,rfl⟩,trivial⟩ rfl
theorem oaF_con (n:Nat) (m:Nat→Nat) (b:Nat→Nat→Nat) (hn:n≤5864062014634) (hm:∀i,i<n→m i≤140737488351232):Con PG 15 [.sv 1 n (recF m b)] [] (.sv 1 n (recF m b)) [.gone]:=
 ((jownA_con n m b hn hm).freeze (us':=[.gone]) (v':=.sv 1 n (shiftF 0 (recF m b))) 0 rfl ⟨rfl,trivial⟩ (.inr ⟨by kernel_rfl,rfl,by omega⟩)).post (.svW fun i j _ _=>.of (by rw [shiftF_eq,Nat.zero_add])) (OVL.refl _)
theorem rroomJ_con {B M:Nat} {s:SS} {j:JS} (h:PJ B M s j):Con PG 29 [.p 2 0] [some (rsA 3 s),some (rsR s),some (rjJ j j.u),some (rsP s)] (.i .i64 j.room) kp4:=by
 obtain ⟨rm,h60,er,_⟩:=h.r
 have k:=rroom_con s j.gen j.area j.recs (60-rm) j.dead (by omega)
 rw [show (60:Int)-ofNat (60-rm)=j.room by rw [er];simp;omega] at k
 rw [u_of er]
 exact k
section
variable (N:Nat) (KK KZ:Nat→Int) (TT:Nat→Bool) (BL:Nat→Nat) (BB:Nat→Nat→Nat) (LN:Nat→Nat) (LM:Nat→Nat→Nat) (LB:Nat→Nat→Nat→Nat) (R:Nat→SS×JS)
end
theorem img_im {s:SS} (h:Byt s):imgF s=imF (fun i=>bif s.torn i then 0 else 64) fun i k=>(s.dur i k).toNat:=by
 funext i j
 unfold imgF imF
 congr 1
 funext k _
 obtain ⟨m,_,e⟩:=h.dur i k
 show CV.i .u8 (s.dur i k)=CV.i .u8 (ofNat (s.dur i k).toNat)
 rw [e];rfl
theorem same2_con (s:SS) (hn:s.n≤512) (hb:Byt s):Con PG 33 [.sv 1 s.n (imgF s),.lr 0 1 0 s.n false] [some (rsR s)] (.b true) [.gone]:=by
 have k:=same_con s.n _ _ _ _ hn fun i (_:i<s.n)=>⟨Eq.refl ((fun i=>bif s.torn i then 0 else 64) i),fun k _=>Eq.refl ((fun i k=>(s.dur i k).toNat) i k)⟩
 rw [←img_im hb] at k
 exact (k.slot rfl (by kernel_rfl) (by kernel_rfl)).thaw (us0:=[.gone]) 0 (e:=38) (sz:=1) (n:=s.n) (f:=imgF s) rfl ⟨rfl,trivial⟩ ⟨.inl rfl,.inr ⟨by kernel_rfl,⟨rfl,by omega⟩,rfl⟩,trivial⟩ rfl
end Go.Proofs.Jn
