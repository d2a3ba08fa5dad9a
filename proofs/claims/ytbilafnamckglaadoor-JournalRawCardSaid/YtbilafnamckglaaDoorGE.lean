/- Runs over unknown values, told by the kernel: part GE. -/
import Derived.Test.YtbilafnamckglaaDoorGD
noncomputable section
open Int (ofNat)
set_option linter.unusedSimpArgs false
set_option linter.unusedVariables false
set_option maxRecDepth 20000
namespace Go.Proofs.Jn
open Go Go.Sim Go.Proofs Go.Proofs.Cd Go.Proofs.St Go.Proofs.Cl Go.Proofs.YtbilafnamckglaaDoor
theorem rwA_vc (s:SS) (j:JS) (S2 S3:SS) (E1 E2 E3 E4 N1:Int) (V n:Nat) (m:Nat→Nat) (b:Nat→Nat→Nat) (h0:j.dead=false) (h1:decide (E1=0)=true) (h3:decide (E3=0)=true) (h2:decide (E2=0)=true) (h4:decide (E4=0)=true) (K:Res→Orc→Prop):runK PG 1000000 (.call 14 [.p 1 0,.sv 1 n (recF m b)] (mkH [some s.o,some j.o])) (.inl (.c (.f (.c (.cal [] (.tup [.i .i64 N1,.i .i64 E1]) [] (.f (.cal [0,1] (.tup [inv V,.i .i64 E3]) [.keep,.keep] (.f (.inl (.inl (.inl (.cal [0,4,2,3] (.i .i64 E2) [.set (SS.o S2),.keep,.keep,.keep] (ot 7 (.cal [0] (.i .i64 E4) [.set (SS.o S3)] (.t (.f (.f .z))))))))))))))))) K=(True∧True∧JS.dead j=false∧Con PG 50 [.i .i64 60,.sv 1 n (recF m b)] [] (.tup [.i .i64 N1,.i .i64 E1]) []∧(!decide (E1=0))=false∧Con PG 51 [.p 1 0] [some (SS.o s),some (JS.o j)] (.tup [inv V,.i .i64 E3]) [.keep,.keep]∧(!decide (E3=0))=false∧True∧rg (1-ofNat (JS.area j))∧True∧rg ((1-ofNat (JS.area j))*60)∧rg (2+(1-ofNat (JS.area j))*60)∧Con PG 53 [.p 0 0,.i .i64 (2+(1-ofNat (JS.area j))*60),cutV] [some (SS.o s),some (cellsO 27 [.sv 1 n (recF m b)]),some (cellsO 3 [inv V]),some (cellsO 3 [inv 0])] (.i .i64 E2) [.set (SS.o S2),.keep,.keep,.keep]∧r3 ((!!decide (E2=0))=true) (True∧r4 ((!!decide (E2=0))=true) (Con PG 56 [.p 0 0,inv V,.i .i64 (1-ofNat (JS.area j))] [some (SS.o S2)] (.i .i64 E4) [.set (SS.o S3)]∧(!!decide (E2=0))
 =true∧(!decide (E2=0))=false∧(!decide (E4=0))=false∧True∧True∧rg (60-N1)∧True∧True∧K (.rv (.i .i64 0) ⟨t1 (SS.o S3) (t1 (.cells 86 6 [] (t1 (.p 0 0) (t1 (inv V) (tn n) (tl (.b (JS.dead j)))) (t1 (.i .i64 (1-ofNat (JS.area j))) (tl (.i .i64 (60-N1))) .e))) (tl (.cells 3 1 [] (tl (.i .i64 0)))) .e) (t1 (.cells 3 1 [] (tn V)) (tl (.cells 27 1 [] (tl (.sv 1 n (recF m b))))) .e),5,[1,1,1,1,0,0,4,3,2]⟩) .z))):=by kernel_rfl
theorem rwB_vc (s:SS) (j:JS) (S2 S3:SS) (E1 E2 E3 E4 N1:Int) (V n:Nat) (m:Nat→Nat) (b:Nat→Nat→Nat) (h0:j.dead=false) (h1:decide (E1=0)=true) (h3:decide (E3=0)=true) (h2:decide (E2=0)=true) (h4:decide (E4=0)=false) (K:Res→Orc→Prop):runK PG 1000000 (.call 14 [.p 1 0,.sv 1 n (recF m b)] (mkH [some s.o,some j.o])) (.inl (.c (.f (.c (.cal [] (.tup [.i .i64 N1,.i .i64 E1]) [] (.f (.cal [0,1] (.tup [inv V,.i .i64 E3]) [.keep,.keep] (.f (.inl (.inl (.inl (.cal [0,4,2,3] (.i .i64 E2) [.set (SS.o S2),.keep,.keep,.keep] (ot 7 (.cal [0] (.i .i64 E4) [.set (SS.o S3)] (.t (.f (.t (.inl .z)))))))))))))))))) K=(True∧True∧JS.dead j=false∧Con PG 50 [.i .i64 60,.sv 1 n (recF m b)] [] (.tup [.i .i64 N1,.i .i64 E1]) []∧(!decide (E1=0))=false∧Con PG 51 [.p 1 0] [some (SS.o s),some (JS.o j)] (.tup [inv V,.i .i64 E3]) [.keep,.keep]∧(!decide (E3=0))=false∧True∧rg (1-ofNat (JS.area j))∧True∧rg ((1-ofNat (JS.area j))*60)∧rg (2+(1-ofNat (JS.area j))*60)∧Con PG 53 [.p 0 0,.i .i64 (2+(1-ofNat (JS.area j))*60),cutV] [some (SS.o s),some (cellsO 27 [.sv 1 n (recF m b)]),some (cellsO 3 [inv V]),some (cellsO 3 [inv 0])] (.i .i64 E2) [.set (SS.o S2),.keep,.keep,.keep]∧r3 ((!!decide (E2=0))=true) (True∧r4 ((!!decide (E2=0))=true) (Con PG 56 [.p 0 0,inv V,.i .i64 (1-ofNat (JS.area j))] [some (SS.o S2)] (.i .i64 E4) [.set (SS.o S3)]∧(!!decide
 (E2=0))=true∧(!decide (E2=0))=false∧(!decide (E4=0))=true∧True∧K (.rv (.i .i64 13) ⟨t1 (SS.o S3) (t1 (.cells 86 6 [] (t1 (.p 0 0) (t1 (inv (JS.gen j)) (tn (JS.recs j)) tb) (t1 (inv (JS.area j)) (tl (.i .i64 (JS.room j))) .e))) (tl (.cells 3 1 [] (tl (.i .i64 0)))) .e) (t1 (.cells 3 1 [] (tn V)) (tl (.cells 27 1 [] (tl (.sv 1 n (recF m b))))) .e),5,[1,0,0,4,3,2]⟩) .z))):=by kernel_rfl
theorem rwC_vc (s:SS) (j:JS) (S2:SS) (E1 E2 E3 N1:Int) (V n:Nat) (m:Nat→Nat) (b:Nat→Nat→Nat) (h0:j.dead=false) (h1:decide (E1=0)=true) (h3:decide (E3=0)=true) (h2:decide (E2=0)=false) (K:Res→Orc→Prop):runK PG 1000000 (.call 14 [.p 1 0,.sv 1 n (recF m b)] (mkH [some s.o,some j.o])) (.inl (.c (.f (.c (.cal [] (.tup [.i .i64 N1,.i .i64 E1]) [] (.f (.cal [0,1] (.tup [inv V,.i .i64 E3]) [.keep,.keep] (.f (.inl (.inl (.inl (.cal [0,4,2,3] (.i .i64 E2) [.set (SS.o S2),.keep,.keep,.keep] (of_ 8 (.t (.c (.inl .z)))))))))))))))) K=(True∧True∧JS.dead j=false∧Con PG 50 [.i .i64 60,.sv 1 n (recF m b)] [] (.tup [.i .i64 N1,.i .i64 E1]) []∧(!decide (E1=0))=false∧Con PG 51 [.p 1 0] [some (SS.o s),some (JS.o j)] (.tup [inv V,.i .i64 E3]) [.keep,.keep]∧(!decide (E3=0))=false∧True∧rg (1-ofNat (JS.area j))∧True∧rg ((1-ofNat (JS.area j))*60)∧rg (2+(1-ofNat (JS.area j))*60)∧Con PG 53 [.p 0 0,.i .i64 (2+(1-ofNat (JS.area j))*60),cutV] [some (SS.o s),some (cellsO 27 [.sv 1 n (recF m b)]),some (cellsO 3 [inv V]),some (cellsO 3 [inv 0])] (.i .i64 E2) [.set (SS.o S2),.keep,.keep,.keep]∧r2 ((!!decide (E2=0))=false) (r6 ((!!decide (E2=0))=false) ((!decide (E2=0))=true∧True∧K (.rv (.i .i64 13) ⟨t1 (SS.o S2) (t1 (.cells 86 6 [] (t1 (.p 0 0) (t1 (inv (JS.gen j)) (tn (JS.recs j)) tb) (t1 (inv (JS.area j)) (tl (.i .i64 (JS.room j))) .e))) (tl (.cells
 3 1 [] (tl (.i .i64 0)))) .e) (t1 (.cells 3 1 [] (tn V)) (tl (.cells 27 1 [] (tl (.sv 1 n (recF m b))))) .e),5,[1,0,4,3,2]⟩) .z))):=by kernel_rfl
theorem rwD_vc (s:SS) (j:JS) (E1 E3 N1:Int) (V n:Nat) (m:Nat→Nat) (b:Nat→Nat→Nat) (h0:j.dead=false) (h1:decide (E1=0)=true) (h3:decide (E3=0)=false) (K:Res→Orc→Prop):runK PG 1000000 (.call 14 [.p 1 0,.sv 1 n (recF m b)] (mkH [some s.o,some j.o])) (.inl (.c (.f (.c (.cal [] (.tup [.i .i64 N1,.i .i64 E1]) [] (.f (.cal [0,1] (.tup [inv V,.i .i64 E3]) [.keep,.keep] (.t .z)))))))) K=(True∧True∧JS.dead j=false∧Con PG 50 [.i .i64 60,.sv 1 n (recF m b)] [] (.tup [.i .i64 N1,.i .i64 E1]) []∧(!decide (E1=0))=false∧Con PG 51 [.p 1 0] [some (SS.o s),some (JS.o j)] (.tup [inv V,.i .i64 E3]) [.keep,.keep]∧(!decide (E3=0))=true∧K (.rv (.i .i64 E3) ⟨t1 (SS.o s) (tl (JS.o j)) .e,2,[]⟩) .z):=by kernel_rfl
theorem rwE_vc (s:SS) (j:JS) (E1 N1:Int) (n:Nat) (m:Nat→Nat) (b:Nat→Nat→Nat) (h0:j.dead=false) (h1:decide (E1=0)=false) (K:Res→Orc→Prop):runK PG 1000000 (.call 14 [.p 1 0,.sv 1 n (recF m b)] (mkH [some s.o,some j.o])) (.inl (.c (.f (.c (.cal [] (.tup [.i .i64 N1,.i .i64 E1]) [] (.t .z)))))) K=(True∧True∧JS.dead j=false∧Con PG 50 [.i .i64 60,.sv 1 n (recF m b)] [] (.tup [.i .i64 N1,.i .i64 E1]) []∧(!decide (E1=0))=true∧K (.rv (.i .i64 E1) ⟨t1 (SS.o s) (tl (JS.o j)) .e,2,[]⟩) .z):=by kernel_rfl
theorem bar_n (s:SS):s.bar.n=s.n:=by
 unfold SS.bar
 split<;>rfl
theorem cmtS_ok (gen first n mm:Nat) (m:Nat→Nat) (b:Nat→Nat→Nat) (s:SS) (a:Nat) (ok:OkM s mm) (ha:a+sumP m n 0≤s.n):OkM (cmtS gen first n m b s a) (mm+sumP m n 0)∧(cmtS gen first n m b s a).n=s.n:=by
 have h:=runR_ok gen first m b n s a 0 mm ok ha
 unfold cmtS
 cases decide ((runR gen first m b n s a 0).1=0) with
 | true=>exact ⟨h.1.bar,(bar_n _).trans h.2⟩
 | false=>exact h
def rwS (s:SS) (j:JS) (n:Nat) (m:Nat→Nat) (b:Nat→Nat→Nat):SS:=cmtS (nxV s j) 0 n m b s (2+(1-j.area)*60)
def rwE (s:SS) (j:JS) (n:Nat) (m:Nat→Nat) (b:Nat→Nat→Nat):Int:=cmtE (nxV s j) 0 n m b s (2+(1-j.area)*60)
def rwJ (s:SS) (j:JS) (n:Nat) (m:Nat→Nat):JS:={ gen:=nxV s j,area:=1-j.area,recs:=n,room:=60-ofNat (sumP m n 0),dead:=j.dead}
theorem rewrite_con (s:SS) (j:JS) (n mm:Nat) (m:Nat→Nat) (b:Nat→Nat→Nat) (hd:j.dead=false) (hl:∀i,i<n→m i≤1128) (hs:sumP m n 0≤60) (hg:j.gen<1073741824) (hv:nxV s j≤1073741824) (ha:j.area≤1) (on:s.off=false) (hn:122≤s.n) (hB:Byt s) (ok:OkM s mm) (hm:mm+61<1073741823) (hb:∀i t,b i t<256) :
 Con PG 14 [.p 1 0,.sv 1 n (recF m b)] [some s.o,some j.o]
  (.i .i64 (bif decide (rwE s j n m b=0) then (bif decide (nmE (rwS s j n m b) (nxV s j) (1-j.area)=0) then 0 else 13) else 13))
  [.set (bif decide (rwE s j n m b=0) then nmS (rwS s j n m b) (nxV s j) (1-j.area) else rwS s j n m b).o,
   .set (bif decide (rwE s j n m b=0) then (bif decide (nmE (rwS s j n m b) (nxV s j) (1-j.area)=0) then rwJ s j n m else { j with dead:=true}) else { j with dead:=true}).o]:=by
 have hnn:=sumP_ge m n 0
 have w1:=fitOk_con 60 n m b (by omega) hl (by simp;omega)
 have w2:=next_con s j hg ha on hn ok.n hB
 rw [show Nat.ble (nxV s j) 1073741824=true from Nat.ble_eq_true_of_le hv,cond_true] at w2
 have w3:=commit_con (nxV s j) 0 n mm m b s (2+(1-j.area)*60) ok hb (by omega) (by omega) (by omega)
 have h2:=cmtS_ok (nxV s j) 0 n mm m b s (2+(1-j.area)*60) ok (by omega)
 have w4:=name_con (rwS s j n m b) (nxV s j) (1-j.area) (mm+sumP m n 0) h2.1 (by omega) (by have:=h2.2;show 2≤(cmtS _ _ _ _ _ _ _).n;omega)
 have eA:(1:Int)-ofNat j.area=ofNat (1-j.area):=by simp;omega
 have eJ:(rwJ s j n m).o=cellsO 86 [.p 0 0,.i .i64 (ofNat (nxV s j)),.i .i64 (ofNat (1-j.area)),.i .i64 (ofNat n),.i .i64 (60-ofNat (sumP m n 0)),.b j.dead]:=rfl
 generalize rwJ s j n m=J at eJ⊢
 have w3':Con PG 53 [.p 0 0,.i .i64 (2+ofNat (1-j.area)*60),cutV] [some s.o,some (cellsO 27 [.sv 1 n (recF m b)]),some (cellsO 3 [.i .i64 (ofNat (nxV s j))]),some (cellsO 3 [.i .i64 (ofNat 0)])] (.i .i64 (rwE s j n m b)) [.set (rwS s j n m b).o,.keep,.keep,.keep]:=w3
 generalize nmE (rwS s j n m b) (nxV s j) (1-j.area)=E4 at w4⊢
 generalize nmS (rwS s j n m b) (nxV s j) (1-j.area)=S3 at w4⊢
 generalize rwE s j n m b=E2 at w3'⊢
 generalize rwS s j n m b=S2 at w3' w4⊢
 clear w3 h2
 generalize nxV s j=V at *
 generalize sumP m n 0=N1 at *
 have hA:1-j.area≤1:=by omega
 generalize 1-j.area=A at *
 have r1:(-9223372036854775808:Int)≤ofNat A∧ofNat A≤9223372036854775807:=rng _ (by omega)
 have r2:(-9223372036854775808:Int)≤ofNat A*60∧ofNat A*(60:Int)≤(9223372036854775807:Int):=⟨by simp<;>omega,by simp<;>omega⟩
 have r3:(-9223372036854775808:Int)≤(2:Int)+ofNat A*60∧2+ofNat A*(60:Int)≤(9223372036854775807:Int):=⟨by simp<;>omega,by simp<;>omega⟩
 have r4:(-9223372036854775808:Int)≤(60:Int)-ofNat N1∧60-ofNat N1≤9223372036854775807:=⟨by simp<;>omega,by simp<;>omega⟩
 have t0:(!decide ((0:Int)=0))=false:=by decide
 cases d2:decide (E2=0) with
 | false=>
   rw [cond_false,cond_false,cond_false]
   refine con_of_run [] [] ((rwC_vc s j S2 0 E2 0 (ofNat N1) V n m b hd (by decide) (by decide) d2 _).mpr ?_)
   rw [eA]
   exact ⟨trivial,trivial,hd,w1,t0,w2,t0,trivial,r1,trivial,r2,r3,w3',nnf d2,nnf d2,nnf d2,nnf d2,nnf d2,nnf d2,nnf d2,nnf d2,nt d2,trivial,_,_,rfl,ret_k (by kernel_rfl)⟩
 | true=>
   rw [cond_true,cond_true,cond_true]
   cases d4:decide (E4=0) with
   | false=>
     rw [cond_false,cond_false]
     refine con_of_run [] [] ((rwB_vc s j S2 S3 0 E2 0 E4 (ofNat N1) V n m b hd (by decide) (by decide) d2 d4 _).mpr ?_)
     rw [eA]
     clear eJ
     repeat' first | exact trivial | assumption | exact t0 | exact nt (by assumption) | exact nf (by assumption) | exact nnt (by assumption) | exact nnf (by assumption) | refine And.intro ?_ ?_ | exact ⟨_,_,rfl,ret_k (by kernel_rfl)⟩
   | true=>
     rw [cond_true,cond_true,eJ]
     refine con_of_run [] [] ((rwA_vc s j S2 S3 0 E2 0 E4 (ofNat N1) V n m b hd (by decide) (by decide) d2 d4 _).mpr ?_)
     rw [eA]
     clear eJ
     repeat' first | exact trivial | assumption | exact t0 | exact nt (by assumption) | exact nf (by assumption) | exact nnt (by assumption) | exact nnf (by assumption) | refine And.intro ?_ ?_ | exact ⟨_,_,rfl,ret_k (by kernel_rfl)⟩
theorem rewriteX_con (s:SS) (j:JS) (n:Nat) (m:Nat→Nat) (b:Nat→Nat→Nat) (e:Int) (he:e≠0) (hd:j.dead=false) (h:Con PG 50 [.i .i64 60,.sv 1 n (recF m b)] [] (.tup [.i .i64 0,.i .i64 e]) []) :
 Con PG 14 [.p 1 0,.sv 1 n (recF m b)] [some s.o,some j.o] (.i .i64 e) [.keep,.keep]:=by
 have d:decide (e=0)=false:=decide_eq_false he
 exact con_of_run [] [] ((rwE_vc s j e 0 n m b hd d _).mpr (by repeat' first | exact trivial | refine And.intro ?_ ?_ | assumption | exact nt (by assumption) | exact nf (by assumption) | exact nnt (by assumption) | exact nnf (by assumption) | (decide;done) | exact ⟨_,_,rfl,ret_k (by kernel_rfl)⟩))
theorem rewriteRange_con (s:SS) (j:JS) (n k:Nat) (m:Nat→Nat) (b:Nat→Nat→Nat) (hd:j.dead=false) (hn:n≤17592186044416) (hk:k<n) (bad:1128<m k) (ok:∀i,i<k→m i≤1128):Con PG 14 [.p 1 0,.sv 1 n (recF m b)] [some s.o,some j.o] (.i .i64 2) [.keep,.keep]:=
 rewriteX_con s j n m b 2 (by decide) hd (fitRange_con 60 n k m b hn hk bad ok)
theorem rewriteSpace_con (s:SS) (j:JS) (n:Nat) (m:Nat→Nat) (b:Nat→Nat→Nat) (hd:j.dead=false) (hn:n≤17592186044416) (ok:∀i,i<n→m i≤1128) (hs:60<sumP m n 0):Con PG 14 [.p 1 0,.sv 1 n (recF m b)] [some s.o,some j.o] (.i .i64 12) [.keep,.keep]:=
 rewriteX_con s j n m b 12 (by decide) hd (fitSpace_con 60 n m b hn ok (by simp;omega))
theorem bf {n m:Nat} (h:¬n≤m):Nat.ble n m=false:=by rw [Bool.eq_false_iff,ne_eq,Nat.ble_eq];exact h
theorem bt {n m:Nat} (h:n≤m):Nat.ble n m=true:=Nat.ble_eq_true_of_le h
theorem lf {n m:Nat} (h:¬n<m):Nat.blt n m=false:=by rw [Bool.eq_false_iff,ne_eq,Nat.blt_eq];exact h
theorem lt_ {n m:Nat} (h:n<m):Nat.blt n m=true:=by rw [Nat.blt_eq];exact h
theorem ef {n m:Nat} (h:n≠m):Nat.beq n m=false:=by rw [Bool.eq_false_iff,ne_eq,Nat.beq_eq];exact h
section
variable (gen num idx np m:Nat) (b:Nat→Nat)
theorem pb_gen {k:Nat} (h:k<4):pbodyB gen num idx np m b k=fourB (gen % 4294967296) k:=by
 unfold pbodyB
 rw [bf (by omega:¬11≤k),ef (by omega:k≠10),ef (by omega:k≠9),ef (by omega:k≠8),bf (by omega:¬4≤k),bt (Nat.zero_le k),lt_ h]
 simp only [Bool.false_and,Bool.and_self,cond_false,cond_true]
theorem pb_num {k:Nat} (h1:4≤k) (h:k<8):pbodyB gen num idx np m b k=fourB (num % 4294967296) (k-4):=by
 unfold pbodyB
 rw [bf (by omega:¬11≤k),ef (by omega:k≠10),ef (by omega:k≠9),ef (by omega:k≠8),bt h1,lt_ h]
 simp only [Bool.false_and,Bool.and_self,cond_false,cond_true]
theorem pb_8:pbodyB gen num idx np m b 8=idx % 256:=by
 unfold pbodyB
 rw [bf (by omega:¬11≤8),ef (by omega:8≠10),ef (by omega:8≠9),Nat.beq_refl]
 simp only [Bool.false_and,cond_false,cond_true]
theorem pb_9:pbodyB gen num idx np m b 9=np % 256:=by
 unfold pbodyB
 rw [bf (by omega:¬11≤9),ef (by omega:9≠10),Nat.beq_refl]
 simp only [Bool.false_and,cond_false,cond_true]
theorem pb_10:pbodyB gen num idx np m b 10=m % 256:=by
 unfold pbodyB
 rw [bf (by omega:¬11≤10),Nat.beq_refl]
 simp only [Bool.false_and,cond_false,cond_true]
theorem pb_txt {i:Nat} (h:i<m):pbodyB gen num idx np m b (11+i)=b i:=by
 unfold pbodyB
 rw [bt (by omega:11≤11+i),lt_ (by omega:11+i<11+m)]
 simp only [Bool.and_self,cond_true]
 rw [Nat.add_sub_cancel_left]
theorem pb_rest {k:Nat} (h:11+m≤k):pbodyB gen num idx np m b k=0:=by
 unfold pbodyB
 rw [bt (by omega:11≤k),lf (by omega:¬k<11+m),ef (by omega:k≠10),ef (by omega:k≠9),ef (by omega:k≠8),lf (by omega:¬k<8),lf (by omega:¬k<4)]
 simp only [Bool.and_false,cond_false]
theorem ps_body {k:Nat} (h:k<60):psecB gen num idx np m b k=pbodyB gen num idx np m b k:=by
 unfold psecB;rw [lt_ h,cond_true]
theorem ps_sum (k:Nat):psecB gen num idx np m b (60+k)=fourB (sumN (pbodyB gen num idx np m b) 60) k:=by
 unfold psecB;rw [lf (by omega:¬60+k<60),cond_false,Nat.add_sub_cancel_left]
theorem bOf_by (b:Nat→Nat) (k:Nat):bOf (byF b) k=b k:=Eq.refl _
theorem bOf_sh (b:Nat→Nat) (l k:Nat):bOf (shiftF l (byF b)) k=b (l+k):=by
 show cvN (shiftF l (byF b) k 0)= _
 rw [shiftF_eq];exact Eq.refl _
theorem ps_open:openB (byF (psecB gen num idx np m b))=true:=by
 unfold openB
 refine decide_eq_true ?_
 have e1:sumN (bOf (byF (psecB gen num idx np m b))) 60=sumN (pbodyB gen num idx np m b) 60:=sumN_congr fun k hk=>by rw [bOf_by,ps_body _ _ _ _ _ _ hk]
 have e2:four1 (bOf (shiftF 60 (byF (psecB gen num idx np m b))))=four1 (fourB (sumN (pbodyB gen num idx np m b) 60)):=four1_congr fun k hk=>by rw [bOf_sh,ps_sum]
 rw [e1,e2,four1_four (sumN_lt _ _)]
theorem ps_g1 (h:gen≤1073741824):g1 (psecB gen num idx np m b)=gen:=by
 unfold g1
 rw [four1_congr (b':=fourB (gen % 4294967296)) fun k hk=>by rw [bOf_by,ps_body _ _ _ _ _ _ (by omega),pb_gen _ _ _ _ _ _ hk]]
 rw [four1_four (Nat.mod_lt _ (by decide)),Nat.mod_eq_of_lt (by omega)]
theorem ps_g2 (h:num≤1073741824):g2 (psecB gen num idx np m b)=num:=by
 unfold g2
 rw [four1_congr (b':=fourB (num % 4294967296)) fun k hk=>by rw [bOf_sh,ps_body _ _ _ _ _ _ (by omega),pb_num _ _ _ _ _ _ (by omega) (by omega),Nat.add_sub_cancel_left]]
 rw [four1_four (Nat.mod_lt _ (by decide)),Nat.mod_eq_of_lt (by omega)]
theorem ps_8 (h:idx<256):psecB gen num idx np m b 8=idx:=by rw [ps_body _ _ _ _ _ _ (by omega),pb_8,Nat.mod_eq_of_lt h]
theorem ps_9 (h:np<256):psecB gen num idx np m b 9=np:=by rw [ps_body _ _ _ _ _ _ (by omega),pb_9,Nat.mod_eq_of_lt h]
theorem ps_10 (h:m<256):psecB gen num idx np m b 10=m:=by rw [ps_body _ _ _ _ _ _ (by omega),pb_10,Nat.mod_eq_of_lt h]
theorem ps_rest (h:m≤47):restP (psecB gen num idx np m b)=0:=by
 unfold restP
 rw [ps_10 _ _ _ _ _ _ (by omega),trN_zero]
 intro k hk
 rw [bOf_sh,ps_body _ _ _ _ _ _ (by omega),pb_rest _ _ _ _ _ _ (by omega)]
theorem ps_ok (h1:1≤gen) (h2:gen≤1073741824) (h3:num≤1073741824) (h4:np≤24) (h5:idx<np) (h6:m≤47) (h7:idx+1<np→m=47) (h8:np≤idx+1→0<m∨np=1):PtOk (psecB gen num idx np m b):=by
 have e8:=ps_8 gen num idx np m b (by omega)
 have e9:=ps_9 gen num idx np m b (by omega)
 have e10:=ps_10 gen num idx np m b (by omega)
 refine ⟨ps_open _ _ _ _ _ _,by rw [e10];exact h6,by rw [ps_g1 _ _ _ _ _ _ h2];exact h1,by rw [ps_g1 _ _ _ _ _ _ h2];exact h2,by rw [ps_g2 _ _ _ _ _ _ h3];exact h3,by rw [e9];exact h4,by rw [e8,e9];exact h5,?_,?_,ps_rest _ _ _ _ _ _ h6⟩
 · rw [e8,e9,e10];exact h7
 · rw [e8,e9,e10];exact h8
theorem ps_txt {i:Nat} (hm:m≤47) (h:i<m):psecB gen num idx np m b (11+i)=b i:=by
 rw [ps_body _ _ _ _ _ _ (by omega),pb_txt _ _ _ _ _ _ h]
end
theorem runW_byt (c:Nat→Nat→Nat) (hc:∀k t,c k t<256):∀(j:Nat) (s:SS) (a k:Nat),Byt s→a+j≤s.n→Byt (runW c j s a k).2.1
 | 0,s,a,k,hb,ha=>hb
 | j+1,s,a,k,hb,ha=>by
   have h1:=hb.wrS (q:=a) (bs:=fun t=>ofNat (c k t)) (by omega) fun t=>⟨c k t,hc k t,rfl⟩
   show Byt (match decide (s.wrE (ofNat a) 64=0) with | true=>_ | false=>_:Int×SS×Nat).2.1
   cases decide (s.wrE (ofNat a) 64=0) with
   | true=>exact runW_byt c hc j _ (a+1) (k+1) h1 (by rw [wrS_n];omega)
   | false=>exact h1
theorem pcB_lt (gen num np mi:Nat) (bi:Nat→Nat) (hb:∀t,bi t<256) (k t:Nat):pcB gen num np mi bi k t<256:=psecB_lt (fun _ _=>hb _) t
theorem recW_at (gen first:Nat) (m:Nat→Nat) (b:Nat→Nat→Nat) (s:SS) (a i mm:Nat) (ok:OkM s mm) (ha:a+npF (m i)≤s.n):(recW gen first m b s a i).2.1.n=s.n∧(recW gen first m b s a i).2.2≤a+npF (m i)∧OkM (recW gen first m b s a i).2.1 (mm+npF (m i)):=
 have h:=runW_ok (pcB gen (first+i) (npF (m i)) (m i) (b i)) (npF (m i)) s a 0 mm ok ha
 ⟨h.2.1,h.2.2,h.1⟩
theorem runR_byt (gen first:Nat) (m:Nat→Nat) (b:Nat→Nat→Nat) (hb:∀i t,b i t<256):∀(j:Nat) (s:SS) (a i mm:Nat),OkM s mm→Byt s→a+sumP m j i≤s.n→Byt (runR gen first m b j s a i).2.1
 | 0,s,a,i,mm,ok,h,ha=>h
 | j+1,s,a,i,mm,ok,h,ha=>by
   have ha':a+(npF (m i)+sumP m j (i+1))≤s.n:=ha
   have h1:Byt (recW gen first m b s a i).2.1:=runW_byt _ (pcB_lt _ _ _ _ _ (hb i)) _ s a 0 h (by omega)
   have h2:=recW_at gen first m b s a i mm ok (by omega)
   show Byt (match decide ((recW gen first m b s a i).1=0) with | true=>_ | false=>_:Int×SS×Nat).2.1
   cases decide ((recW gen first m b s a i).1=0) with
   | true=>exact runR_byt gen first m b hb j _ _ (i+1) _ h2.2.2 h1 (by rw [h2.1];have:=h2.2.1;omega)
   | false=>exact h1
theorem cmtS_byt (gen first n mm:Nat) (m:Nat→Nat) (b:Nat→Nat→Nat) (hb:∀i t,b i t<256) (s:SS) (a:Nat) (ok:OkM s mm) (h:Byt s) (ha:a+sumP m n 0≤s.n):Byt (cmtS gen first n m b s a):=by
 have h1:=runR_byt gen first m b hb n s a 0 mm ok h ha
 unfold cmtS
 cases decide ((runR gen first m b n s a 0).1=0) with
 | true=>exact h1.bar
 | false=>exact h1
theorem cmt_on (gen first n:Nat) (m:Nat→Nat) (b:Nat→Nat→Nat) (s:SS) (a:Nat) (h:cmtE gen first n m b s a=0):(cmtS gen first n m b s a).off=false∧(cmtS gen first n m b s a).P=[]∧(runR gen first m b n s a 0).1=0:=by
 unfold cmtE at h
 unfold cmtS
 cases d:decide ((runR gen first m b n s a 0).1=0) with
 | false=>rw [d] at h;exact absurd h (of_decide_eq_false d)
 | true=>
   rw [d] at h
   have h0:(runR gen first m b n s a 0).1=0:=of_decide_eq_true d
   simp only
   generalize (runR gen first m b n s a 0).2.1=S at h
   have ho:S.off=false:=by
    cases e:S.off with
    | false=>rfl
    | true=>
      have hf:S.faultE=13:=by unfold SS.faultE;rw [e,cond_true]
      have h':S.faultE=0:=h
      rw [hf] at h'
      exact absurd h' (by decide)
   refine ⟨?_,?_,h0⟩
   · unfold SS.bar;rw [ho];exact ho
   · unfold SS.bar;rw [ho];rfl
def vwB (s:SS) (q:Nat):Nat→Int:=bif lB s.P q then lbs s.P q else s.dur q
def vwT (s:SS) (q:Nat):Bool:=bif lB s.P q then false else s.torn q
theorem durL_v (dur:Nat→Nat→Int):∀(P:PW) (q:Nat),durL dur P q=bif lB P q then lbs P q else dur q
 | [],q=>by show dur q=bif false then _ else dur q;rw [cond_false]
 | w :: P,q=>by
   have ih:=durL_v dur P q
   show setD (durL dur P) w.1 w.2 q=bif (bif Nat.beq q w.1 then true else lB P q) then (bif Nat.beq q w.1 then w.2 else lbs P q) else dur q
   have e:setD (durL dur P) w.1 w.2 q=bif Nat.beq q w.1 then w.2 else durL dur P q:=by
    first
    | rfl
    | (funext j;unfold setD;cases Nat.beq q w.1<;>rfl)
   rw [e]
   cases Nat.beq q w.1 with
   | true=>rw [cond_true,cond_true,cond_true,cond_true]
   | false=>rw [cond_false,cond_false,cond_false];exact ih
theorem tornL_v (torn:Nat→Bool):∀(P:PW) (q:Nat),tornL torn P q=bif lB P q then false else torn q
 | [],q=>by show torn q=bif false then _ else torn q;rw [cond_false]
 | w :: P,q=>by
   have ih:=tornL_v torn P q
   show setT (tornL torn P) w.1 false q=bif (bif Nat.beq q w.1 then true else lB P q) then false else torn q
   have e:setT (tornL torn P) w.1 false q=bif Nat.beq q w.1 then false else tornL torn P q:=by
    first
    | rfl
    | (unfold setT;cases Nat.beq q w.1<;>rfl)
   rw [e]
   cases Nat.beq q w.1 with
   | true=>rw [cond_true,cond_true,cond_true]
   | false=>rw [cond_false,cond_false];exact ih
theorem vw_bar (s:SS) (q:Nat):vwB s.bar q=vwB s q∧vwT s.bar q=vwT s q:=by
 unfold SS.bar
 cases s.off with
 | true=>exact ⟨rfl,rfl⟩
 | false=>
   have eP:s.P.drop (s.P.length-s.P.length)=s.P:=by rw [Nat.sub_self];rfl
   refine ⟨?_,?_⟩
   · show (bif false then _ else durL s.dur (s.P.drop (s.P.length-s.P.length)) q)=vwB s q
     rw [cond_false,eP,durL_v];rfl
   · show (bif false then _ else tornL s.torn (s.P.drop (s.P.length-s.P.length)) q)=vwT s q
     rw [cond_false,eP,tornL_v];rfl
theorem vw_wrS {s:SS} {q0:Nat} {bs:Nat→Int} (ho:s.off=false) (h0:q0<s.n) (q:Nat):vwB (s.wrS (ofNat q0) 64 bs) q=(bif Nat.beq q q0 then bs else vwB s q)∧vwT (s.wrS (ofNat q0) 64 bs) q=(bif Nat.beq q q0 then false else vwT s q):=by
 rw [wrS_on ho h0]
 have key:∀t:SS,t.P=(q0,bs) :: s.P→t.dur=s.dur→t.torn=s.torn→vwB t q=(bif Nat.beq q q0 then bs else vwB s q)∧vwT t q=(bif Nat.beq q q0 then false else vwT s q):=by
  intro t e1 e2 e3
  unfold vwB vwT
  rw [e1,e2,e3]
  show (bif (bif Nat.beq q q0 then true else lB s.P q) then (bif Nat.beq q q0 then bs else lbs s.P q) else s.dur q)= _∧(bif (bif Nat.beq q q0 then true else lB s.P q) then false else s.torn q)= _
  cases Nat.beq q q0 with
  | true=>simp only [cond_true];exact ⟨trivial,trivial⟩
  | false=>simp only [cond_false];exact ⟨trivial,trivial⟩
 rcases pay_or (s.wrote q0 bs) with e | e | e<;>rw [e]<;>exact key _ rfl rfl rfl
theorem wrE_on {s:SS} {i:Int} (h:s.wrE i 64=0):s.off=false:=by
 cases e:s.off with
 | false=>rfl
 | true=>
   have h13:s.wrE i 64=13:=by unfold SS.wrE;rw [e]
   rw [h13] at h
   exact absurd h (by decide)
theorem runW_vw (c:Nat→Nat→Nat):∀(j:Nat) (s:SS) (a k mm:Nat),OkM s mm→a+j≤s.n→(runW c j s a k).1=0→(runW c j s a k).2.2=a+j∧
 ∀q,(∀i,i<j→q=a+i→vwB (runW c j s a k).2.1 q=(fun t=>ofNat (c (k+i) t))∧vwT (runW c j s a k).2.1 q=false)∧((q<a∨a+j≤q)→vwB (runW c j s a k).2.1 q=vwB s q∧vwT (runW c j s a k).2.1 q=vwT s q)
 | 0,s,a,k,mm,ok,ha,h=>⟨rfl,fun q=>⟨fun i hi=>absurd hi (Nat.not_lt_zero _),fun _=>⟨rfl,rfl⟩⟩⟩
 | j+1,s,a,k,mm,ok,ha,h=>by
   have e:runW c (j+1) s a k=(match decide (s.wrE (ofNat a) 64=0) with
    | true=>runW c j (s.wrS (ofNat a) 64 fun t=>ofNat (c k t)) (a+1) (k+1)
    | false=>(s.wrE (ofNat a) 64,s.wrS (ofNat a) 64 (fun t=>ofNat (c k t)),a)):=rfl
   cases d:decide (s.wrE (ofNat a) 64=0) with
   | false=>
     rw [d] at e
     rw [e] at h
     exact absurd h (of_decide_eq_false d)
   | true=>
     rw [d] at e
     simp only at e
     have on:=wrE_on (of_decide_eq_true d)
     have ok1:=ok.wrS (q:=a) (by omega) fun t=>ofNat (c k t)
     have v1:=fun q=>vw_wrS (bs:=fun t=>ofNat (c k t)) on (by omega:a<s.n) q
     rw [e] at h⊢
     have ih:=runW_vw c j _ (a+1) (k+1) (mm+1) ok1 (by rw [wrS_n];omega) h
     refine ⟨by rw [ih.1];omega,fun q=>⟨fun i hi hq=>?_,fun hq=>?_⟩⟩
     · cases i with
       | zero=>
         have hq':q=a:=hq
         subst hq'
         have h2:=(ih.2 q).2 (.inl (by omega))
         rw [h2.1,h2.2,(v1 q).1,(v1 q).2,Nat.beq_refl,cond_true,cond_true]
         exact ⟨rfl,rfl⟩
       | succ i=>
         have h2:=(ih.2 q).1 i (by omega) (by omega)
         rw [h2.1,h2.2,show k+1+i=k+(i+1) by omega]
         exact ⟨rfl,rfl⟩
     · have h2:=(ih.2 q).2 (by omega)
       have hb:Nat.beq q a=false:=by rw [Bool.eq_false_iff,ne_eq,Nat.beq_eq];omega
       rw [h2.1,h2.2,(v1 q).1,(v1 q).2,hb,cond_false,cond_false]
       exact ⟨rfl,rfl⟩
theorem runR_vw (gen first:Nat) (m:Nat→Nat) (b:Nat→Nat→Nat):∀(j:Nat) (s:SS) (a i mm:Nat),OkM s mm→a+sumP m j i≤s.n→(runR gen first m b j s a i).1=0→
 ∀q,(∀r k,r<j→k<npF (m (i+r))→q=a+sumP m r i+k→vwB (runR gen first m b j s a i).2.1 q=(fun t=>ofNat (pcB gen (first+(i+r)) (npF (m (i+r))) (m (i+r)) (b (i+r)) k t))∧vwT (runR gen first m b j s a i).2.1 q=false)∧
  ((q<a∨a+sumP m j i≤q)→vwB (runR gen first m b j s a i).2.1 q=vwB s q∧vwT (runR gen first m b j s a i).2.1 q=vwT s q)
 | 0,s,a,i,mm,ok,ha,h,q=>⟨fun r k hr=>absurd hr (Nat.not_lt_zero _),fun _=>⟨rfl,rfl⟩⟩
 | j+1,s,a,i,mm,ok,ha,h,q=>by
   have e:runR gen first m b (j+1) s a i=(match decide ((recW gen first m b s a i).1=0) with
    | true=>runR gen first m b j (recW gen first m b s a i).2.1 (recW gen first m b s a i).2.2 (i+1)
    | false=>recW gen first m b s a i):=rfl
   have ha':a+(npF (m i)+sumP m j (i+1))≤s.n:=ha
   have h2:=recW_at gen first m b s a i mm ok (by omega)
   cases d:decide ((recW gen first m b s a i).1=0) with
   | false=>
     rw [d] at e
     rw [e] at h
     exact absurd h (of_decide_eq_false d)
   | true=>
     rw [d] at e
     simp only at e
     have w:=runW_vw (pcB gen (first+i) (npF (m i)) (m i) (b i)) (npF (m i)) s a 0 mm ok (by omega) (of_decide_eq_true d)
     have wa:(recW gen first m b s a i).2.2=a+npF (m i):=w.1
     rw [e] at h⊢
     rw [wa] at h⊢
     have ih:=runR_vw gen first m b j (recW gen first m b s a i).2.1 (a+npF (m i)) (i+1) (mm+npF (m i)) h2.2.2 (by rw [h2.1];omega) h q
     refine ⟨fun r k hr hk hq=>?_,fun hq=>?_⟩
     · cases r with
       | zero=>
         have hk':k<npF (m i):=hk
         have hq':q=a+k:=by rw [hq];show a+0+k=a+k;omega
         have h3:=ih.2 (.inl (by omega))
         have h4:=(w.2 q).1 k hk' hq'
         refine ⟨h3.1.trans (h4.1.trans ?_),h3.2.trans h4.2⟩
         rw [Nat.zero_add];rfl
       | succ r=>
         have es:sumP m (r+1) i=npF (m i)+sumP m r (i+1):=rfl
         have h3:=ih.1 r k (by omega) (by rw [show i+1+r=i+(r+1) by omega];exact hk) (by rw [hq,es];omega)
         rw [show i+1+r=i+(r+1) by omega] at h3
         exact h3
     · have es:sumP m (j+1) i=npF (m i)+sumP m j (i+1):=rfl
       rw [es] at hq
       have h3:=ih.2 (by omega)
       have h4:=(w.2 q).2 (by omega)
       exact ⟨h3.1.trans h4.1,h3.2.trans h4.2⟩
theorem rdB_v (s:SS) (q:Nat):s.rdB (ofNat q)=vwB s q:=by
 have et:(ofNat q).toNat=q:=rfl
 unfold SS.rdB vwB
 rw [et]
 cases lB s.P q with
 | true=>rw [cond_true]
 | false=>rw [cond_false]
theorem bB_v {s:SS} {q:Nat} (on:s.off=false) (hq:q<s.n):bB s q=bif vwT s q then (fun _=>0) else fun t=>(vwB s q t).toNat:=by
 have et:(ofNat q).toNat=q:=rfl
 have e:s.rdE (ofNat q)=bif vwT s q then 14 else 0:=by
  unfold SS.rdE vwT
  rw [on,decide_eq_true (show (0:Int)≤ofNat q∧ofNat q<ofNat s.n from ⟨by simp,by simp;omega⟩)]
  simp only [et]
  cases lB s.P q with
  | true=>rw [cond_true,cond_false]
  | false=>
    rw [cond_false]
    cases s.torn q with
    | true=>rw [cond_true]
    | false=>rw [cond_false]
 unfold bB
 rw [e]
 cases vwT s q with
 | true=>
   rw [cond_true,cond_true]
   rfl
 | false=>
   rw [cond_false,cond_false]
   show rdC s (ofNat q)= _
   unfold rdC
   rw [rdB_v]
theorem bB_same {s s':SS} {q:Nat} (on:s.off=false) (on':s'.off=false) (hq:q<s.n) (hq':q<s'.n) (h1:vwB s' q=vwB s q) (h2:vwT s' q=vwT s q):bB s' q=bB s q:=by
 rw [bB_v on hq,bB_v on' hq',h1,h2]
theorem bB_laid {s:SS} {q:Nat} {c:Nat→Nat} (on:s.off=false) (hq:q<s.n) (h1:vwB s q=fun t=>ofNat (c t)) (h2:vwT s q=false):bB s q=c:=by
 rw [bB_v on hq,h2,cond_false,h1]
 rfl
theorem cmt_bB (gen first n mm:Nat) (m:Nat→Nat) (b:Nat→Nat→Nat) (s:SS) (a:Nat) (ok:OkM s mm) (ha:a+sumP m n 0≤s.n) (on:s.off=false) (h:cmtE gen first n m b s a=0) (q:Nat) (hq:q<s.n) :
 (∀r k,r<n→k<npF (m r)→q=a+sumP m r 0+k→bB (cmtS gen first n m b s a) q=pcB gen (first+r) (npF (m r)) (m r) (b r) k)∧((q<a∨a+sumP m n 0≤q)→bB (cmtS gen first n m b s a) q=bB s q):=by
 obtain ⟨o1,_,o3⟩:=cmt_on gen first n m b s a h
 have hn:=(cmtS_ok gen first n mm m b s a ok ha).2
 have e:cmtS gen first n m b s a=(runR gen first m b n s a 0).2.1.bar:=by
  unfold cmtS;rw [decide_eq_true o3]
 have w:=runR_vw gen first m b n s a 0 mm ok ha o3 q
 have v:=vw_bar (runR gen first m b n s a 0).2.1 q
 rw [←e] at v
 refine ⟨fun r k hr hk hp=>?_,fun hp=>?_⟩
 · have h1:=w.1 r k hr (by rw [Nat.zero_add];exact hk) hp
   rw [Nat.zero_add] at h1
   exact bB_laid o1 (by rw [hn];exact hq) (v.1.trans h1.1) (v.2.trans h1.2)
 · have h1:=w.2 hp
   exact bB_same on o1 hq (by rw [hn];exact hq) (v.1.trans h1.1) (v.2.trans h1.2)
theorem pl_le (M k:Nat):pl M k≤47:=by unfold pl;omega
theorem npF_hi (M:Nat):M≤npF M*47:=by unfold npF;split<;>omega
theorem npF_lo (M:Nat):npF M=1∨(npF M-1)*47<M:=by unfold npF;split<;>omega
theorem cl_pl (M:Nat):∀k,cl (pl M) k=min (k*47) M
 | 0=>by show 0= _;omega
 | k+1=>by
   show cl (pl M) k+pl M k= _
   rw [cl_pl M k];unfold pl;omega
theorem cl_congr {L L':Nat→Nat}:∀{k:Nat},(∀i,i<k→L i=L' i)→cl L k=cl L' k
 | 0,_=>rfl
 | k+1,h=>by
   show cl L k+L k=cl L' k+L' k
   rw [cl_congr fun i hi=>h i (by omega),h k (by omega)]
theorem cb_pl {M:Nat} {bi:Nat→Nat} {L:Nat→Nat} {D:Nat→Nat→Nat}:∀{k:Nat},(∀i,i<k→L i=pl M i)→(∀i,i<k→∀t,t<pl M i→D i t=bi (i*47+t))→∀t,t<min (k*47) M→cb L D k t=bi t
 | 0,_,_,t,ht=>by omega
 | k+1,hL,hD,t,ht=>by
   have e:cl L k=min (k*47) M:=by rw [cl_congr (L':=pl M) fun i hi=>hL i (by omega),cl_pl]
   show (bif Nat.blt t (cl L k) then cb L D k t else D k (t-cl L k))=bi t
   rw [e]
   by_cases c:t<min (k*47) M
   · rw [lt_ c,cond_true]
     exact cb_pl (fun i hi=>hL i (by omega)) (fun i hi=>hD i (by omega)) t c
   · rw [lf c,cond_false,hD k (by omega) _ (by unfold pl;omega)]
     congr 1
     omega
structure Laid (c:Nat→Nat) (gen num np k M:Nat) (bi:Nat→Nat):Prop where
 g:stG c=gen
 n:stN c=num
 i:stI c=k
 p:stP c=np
 l:stL c=pl M k
 t:∀t,t<pl M k→c (11+t)=bi (k*47+t)
theorem laid {gen num M k:Nat} (bi:Nat→Nat) (hg:1≤gen) (hg2:gen≤1073741824) (hn:num≤1073741824) (hM:M≤1128) (hk:k<npF M):Laid (pcB gen num (npF M) M bi k) gen num (npF M) k M bi:=by
 have h24:=npF_24 hM
 have hlo:=npF_lo M
 have ok:PtOk (pcB gen num (npF M) M bi k):=ps_ok gen num k (npF M) (pl M k) _ hg hg2 hn h24 hk (pl_le M k) (fun h=>by unfold pl;rcases hlo with e | e<;>omega) (fun h=>by
  rcases hlo with e | e
  · exact .inr e
  · exact .inl (by unfold pl;omega))
 refine ⟨?_,?_,?_,?_,?_,?_⟩
 · rw [stG_t ok];exact ps_g1 _ _ _ _ _ _ hg2
 · rw [stN_t ok];exact ps_g2 _ _ _ _ _ _ hn
 · rw [stI_t ok];exact ps_8 _ _ _ _ _ _ (by omega)
 · rw [stP_t ok];exact ps_9 _ _ _ _ _ _ (by omega)
 · rw [stL_t ok];exact ps_10 _ _ _ _ _ _ (by have:=pl_le M k;omega)
 · intro t ht
   exact ps_txt _ _ _ _ _ _ (pl_le M k) ht
theorem sumP_congr {m m':Nat→Nat}:∀(j i:Nat),(∀r,i≤r→r<i+j→m r=m' r)→sumP m j i=sumP m' j i
 | 0,_,_=>rfl
 | j+1,i,h=>by
   show npF (m i)+sumP m j (i+1)=npF (m' i)+sumP m' j (i+1)
   rw [h i (Nat.le_refl _) (by omega),sumP_congr j (i+1) fun r a b=>h r (by omega) (by omega)]
theorem sumP_mono (m:Nat→Nat) {j k:Nat} (h:j≤k):sumP m j 0≤sumP m k 0:=by
 induction k with
 | zero=>obtain rfl:j=0:=by omega
         exact Nat.le_refl _
 | succ k ih=>
   by_cases c:j=k+1
   · subst c;exact Nat.le_refl _
   · have:=ih (by omega)
     rw [sumP_snoc];omega
theorem sumP_at (m:Nat→Nat) (r:Nat):sumP m (r+1) 0=sumP m r 0+npF (m r):=by rw [sumP_snoc,Nat.zero_add]
structure JI (s:SS) (j:JS) (mm n:Nat) (m:Nat→Nat) (b:Nat→Nat→Nat):Prop where
 on:s.off=false
 P:s.P=[]
 hn:122≤s.n
 byt:Byt s
 okm:OkM s mm
 dead:j.dead=false
 area:j.area≤1
 g1:1≤j.gen
 g2:j.gen≤1073741824
 hd:hdG s (j.gen % 2)=j.gen
 ha:hdA s (j.gen % 2)=j.area
 ho:hdG s (1-j.gen % 2)<j.gen
 recs:j.recs=n
 room:j.room=60-ofNat (sumP m n 0)
 fit:sumP m n 0≤60
 len:∀r,r<n→m r≤1128
 parts:∀r,r<n→∀k,k<npF (m r)→bB s (2+j.area*60+(sumP m r 0+k))=pcB j.gen r (npF (m r)) (m r) (b r) k
 last:∀i,sumP m n 0≤i→i<60→aG s j.area i=j.gen→aN s j.area i≤n∧(aN s j.area i=n→aI s j.area i+1<aP s j.area i)
section
variable {s:SS} {j:JS} {mm n:Nat} {m:Nat→Nat} {b:Nat→Nat→Nat}
theorem JI.few (h:JI s j mm n m b):n≤60:=by have:=sumP_ge m n 0;have:=h.fit;omega
theorem JI.lay (h:JI s j mm n m b) {r k:Nat} (hr:r<n) (hk:k<npF (m r)):Laid (bB s (2+j.area*60+(sumP m r 0+k))) j.gen r (npF (m r)) k (m r) (b r):=by
 rw [h.parts r hr k hk]
 exact laid _ h.g1 h.g2 (by have:=h.few;omega) (h.len r hr) hk
theorem JI.jU (h:JI s j mm n m b):∀r,r≤n→jU (aP s j.area) r=sumP m r 0
 | 0,_=>rfl
 | r+1,hr=>by
   have ih:=h.jU r (by omega)
   show Jn.jU (aP s j.area) r+aP s j.area (Jn.jU (aP s j.area) r)= _
   rw [ih,sumP_at]
   have:=(h.lay (r:=r) (k:=0) (by omega) (npF_pos _)).p
   rw [Nat.add_zero] at this
   have e:aP s j.area (sumP m r 0)=npF (m r):=this
   rw [e]
theorem JI.rc (h:JI s j mm n m b):Recs s j.area j.gen n:=by
 refine ⟨fun r hr=>?_,fun hst=>?_⟩
 · rw [h.jU r (by omega)]
   have e:aP s j.area (sumP m r 0)=npF (m r):=by
    have:=(h.lay (r:=r) (k:=0) hr (npF_pos _)).p
    rw [Nat.add_zero] at this
    exact this
   refine ⟨?_,?_,?_⟩
   · rw [e]
     have h1:=sumP_mono m (show r+1≤n by omega)
     have h2:=h.fit
     rw [sumP_at] at h1
     omega
   · rw [e];exact npF_pos _
   · rw [e]
     intro i hi
     have q:=h.lay hr hi
     exact ⟨q.g,q.n,q.i,q.p⟩
 · rw [h.jU n (Nat.le_refl _)] at hst
   obtain ⟨q1,q2,q3⟩:=hst
   have q:=q3 (aP s j.area (sumP m n 0)-1) (by omega)
   have hl:=h.last (sumP m n 0+(aP s j.area (sumP m n 0)-1)) (by omega) (by omega) q.eg
   have e1:aN s j.area (sumP m n 0+(aP s j.area (sumP m n 0)-1))=n:=q.en
   have e2:aI s j.area (sumP m n 0+(aP s j.area (sumP m n 0)-1))=aP s j.area (sumP m n 0)-1:=q.ei
   have e3:aP s j.area (sumP m n 0+(aP s j.area (sumP m n 0)-1))=aP s j.area (sumP m n 0):=q.ep
   have:=hl.2 e1
   omega
theorem JI.opM (h:JI s j mm n m b) {r:Nat} (hr:r<n):opM s j.area r=m r:=by
 unfold Jn.opM jm
 rw [h.jU r (by omega)]
 have e:aP s j.area (sumP m r 0)=npF (m r):=by
  have:=(h.lay (r:=r) (k:=0) hr (npF_pos _)).p
  rw [Nat.add_zero] at this
  exact this
 have q:cl (fun i=>aL s j.area (sumP m r 0+i)) (npF (m r))=min (npF (m r)*47) (m r):=(cl_congr (L':=pl (m r)) fun i hi=>(h.lay hr hi).l).trans (cl_pl _ _)
 rw [e,q]
 have:=npF_hi (m r);omega
theorem JI.opB (h:JI s j mm n m b) {r:Nat} (hr:r<n) {t:Nat} (ht:t<m r):opB s j.area r t=b r t:=by
 unfold Jn.opB jb
 rw [h.jU r (by omega)]
 have e:aP s j.area (sumP m r 0)=npF (m r):=by
  have:=(h.lay (r:=r) (k:=0) hr (npF_pos _)).p
  rw [Nat.add_zero] at this
  exact this
 rw [e]
 exact cb_pl (M:=m r) (fun i hi=>(h.lay hr hi).l) (fun i hi t ht=>(h.lay hr hi).t t ht) t (by have:=npF_hi (m r);omega)
theorem JI.opJ (h:JI s j mm n m b):opJ s j.area j.gen n=j:=by
 unfold Jn.opJ
 rw [h.jU n (Nat.le_refl _),←h.room,←h.dead,←h.recs]
theorem JI.bg (h:JI s j mm n m b):bgG s=j.gen∧bgA s=j.area:=by
 have h1:=h.hd
 have h2:=h.ha
 have h3:=h.ho
 unfold bgG bgA
 rcases (show j.gen % 2=0∨j.gen % 2=1 by omega) with e | e
 · rw [e] at h1 h2 h3
   have h3:hdG s 1<j.gen:=h3
   rw [lf (by omega:¬hdG s 0<hdG s 1),cond_false,cond_false];exact ⟨h1,h2⟩
 · rw [e] at h1 h2 h3
   have h3:hdG s 0<j.gen:=h3
   rw [lt_ (by omega:hdG s 0<hdG s 1),cond_true,cond_true];exact ⟨h1,h2⟩
theorem JI.open_con (h:JI s j mm n m b):Con PG 10 [.p 0 0] [some s.o] (.tup [.p 1 0,.sv 1 n (recF (Jn.opM s j.area) (Jn.opB s j.area)),.i .i64 0]) [.keep,.set j.o]:=by
 have hb:=h.bg
 have w:=begin_con s h.okm.n h.byt (by rw [hb.1];have:=h.g1;omega)
 rw [hb.1,hb.2] at w
 have k:=openX_con s s j.gen j.area n h.hn h.on (w.post (us':=[.set s.o]) (.refl _) (OVL.refl _)) h.hn h.okm.n h.on h.byt h.area h.rc
 rw [h.opJ] at k
 exact k
end
theorem hd_same {s S:SS} {h:Nat} (e:bB S h=bB s h):hdG S h=hdG s h∧hdA S h=hdA s h:=by
 unfold hdG hdA
 rw [e];exact ⟨rfl,rfl⟩
theorem a_same {s S:SS} {a i:Nat} (e:bB S (2+a*60+i)=bB s (2+a*60+i)):aG S a i=aG s a i∧aN S a i=aN s a i∧aI S a i=aI s a i∧aP S a i=aP s a i:=by
 unfold aG aN aI aP
 rw [e];exact ⟨rfl,rfl,rfl,rfl⟩
def mS (n:Nat) (m:Nat→Nat) (L:Nat) (r:Nat):Nat:=if r=n then L else m r
def bS (n:Nat) (b:Nat→Nat→Nat) (bs:Nat→Nat) (r:Nat):Nat→Nat:=if r=n then bs else b r
theorem mS_lt {n r:Nat} {m:Nat→Nat} {L:Nat} (h:r<n):mS n m L r=m r:=if_neg (by omega)
theorem mS_eq (n:Nat) (m:Nat→Nat) (L:Nat):mS n m L n=L:=if_pos rfl
theorem bS_lt {n r:Nat} {b:Nat→Nat→Nat} {bs:Nat→Nat} (h:r<n):bS n b bs r=b r:=if_neg (by omega)
theorem bS_eq (n:Nat) (b:Nat→Nat→Nat) (bs:Nat→Nat):bS n b bs n=bs:=if_pos rfl
theorem sumP_mS (n:Nat) (m:Nat→Nat) (L:Nat) {r:Nat} (h:r≤n):sumP (mS n m L) r 0=sumP m r 0:=sumP_congr r 0 fun q _ hq=>mS_lt (by omega)
section
variable {s:SS} {j:JS} {mm n:Nat} {m:Nat→Nat} {b:Nat→Nat→Nat}
def JS.more (j:JS) (L:Nat):JS:={ j with recs:=j.recs+1,room:=j.room-ofNat (npF L)}
theorem JI.rm (h:JI s j mm n m b):j.room=ofNat (60-sumP m n 0):=by
 have:=h.room;have:=h.fit
 rw [h.room];simp;omega
theorem JI.apQ (h:JI s j mm n m b):Jn.apQ j (60-sumP m n 0)=2+j.area*60+sumP m n 0:=by
 have:=h.fit
 unfold Jn.apQ;omega
theorem JI.append (h:JI s j mm n m b) {L:Nat} {bs:Nat→Nat} (hL:L≤1128) (hb:∀t,bs t<256) (hf:npF L≤60-sumP m n 0) (e0:apE j (60-sumP m n 0) s L bs=0):JI (apS j (60-sumP m n 0) s L bs) (j.more L) (mm+npF L) (n+1) (mS n m L) (bS n b bs):=by
 have hq:=h.apQ
 have hfit:=h.fit
 have har:=h.area
 have hn:=h.hn
 have s1:sumP (fun _=>L) 1 0=npF L:=sumP1 L
 unfold apE at e0
 unfold apS
 rw [hq,h.recs] at e0⊢
 have hin:2+j.area*60+sumP m n 0+sumP (fun _=>L) 1 0≤s.n:=by rw [s1];omega
 obtain ⟨o1,o2,_⟩:=cmt_on _ _ _ _ _ _ _ e0
 obtain ⟨k1,k2⟩:=cmtS_ok j.gen n 1 mm (fun _=>L) (fun _=>bs) s (2+j.area*60+sumP m n 0) h.okm hin
 have k3:=cmtS_byt j.gen n 1 mm (fun _=>L) (fun _=>bs) (fun _=>hb) s (2+j.area*60+sumP m n 0) h.okm h.byt hin
 have rd:=fun q hq=>cmt_bB j.gen n 1 mm (fun _=>L) (fun _=>bs) s (2+j.area*60+sumP m n 0) h.okm hin h.on e0 q hq
 generalize cmtS j.gen n 1 (fun _=>L) (fun _=>bs) s (2+j.area*60+sumP m n 0)=S at o1 o2 k1 k2 k3 rd
 rw [s1] at k1 rd
 have lo:∀q,q<2+j.area*60+sumP m n 0→bB S q=bB s q:=fun q hq=>(rd q (by omega)).2 (.inl hq)
 have hi:∀q,2+j.area*60+sumP m n 0+npF L≤q→q<s.n→bB S q=bB s q:=fun q hq hq2=>(rd q hq2).2 (.inr hq)
 have hd0:=hd_same (lo (j.gen % 2) (by omega))
 have hd1:=hd_same (lo (1-j.gen % 2) (by omega))
 have hs:sumP (mS n m L) (n+1) 0=sumP m n 0+npF L:=by rw [sumP_at,mS_eq,sumP_mS n m L (Nat.le_refl _)]
 refine { on:=o1,P:=o2,hn:=by rw [k2];exact hn,byt:=k3,okm:=k1,dead:=h.dead,area:=har,g1:=h.g1,g2:=h.g2,hd:=hd0.1.trans h.hd,ha:=hd0.2.trans h.ha,ho:=by rw [show (j.more L).gen=j.gen from rfl,hd1.1];exact h.ho,recs:=by show j.recs+1= _;rw [h.recs],room:=?_,fit:=by rw [hs];omega,len:=?_,parts:=?_,last:=?_}
 · show j.room-ofNat (npF L)=60-ofNat (sumP (mS n m L) (n+1) 0)
   rw [hs,h.room];simp;omega
 · intro r hr
   by_cases c:r=n
   · subst c;rw [mS_eq];exact hL
   · rw [mS_lt (by omega)];exact h.len r (by omega)
 · intro r hr k hk
   show bB S (2+j.area*60+(sumP (mS n m L) r 0+k))=pcB j.gen r _ _ _ k
   rw [sumP_mS n m L (by omega)]
   by_cases c:r=n
   · subst c
     rw [mS_eq] at hk⊢
     rw [bS_eq]
     have:=(rd (2+j.area*60+(sumP m r 0+k)) (by omega)).1 0 k (by decide) hk (by show _=2+j.area*60+sumP m r 0+0+k;omega)
     rw [Nat.add_zero] at this
     exact this
   · have hr':r<n:=by omega
     rw [mS_lt hr'] at hk⊢
     rw [bS_lt hr']
     have h1:=sumP_mono m (show r+1≤n by omega)
     rw [sumP_at] at h1
     rw [lo _ (by omega)]
     exact h.parts r hr' k hk
 · intro i hi1 hi2 hg
   rw [hs] at hi1
   have e:=a_same (s:=s) (S:=S) (a:=j.area) (i:=i) (hi _ (by omega) (by omega))
   have hg':aG S j.area i=j.gen:=hg
   rw [e.1] at hg'
   have hl:=h.last i (by omega) hi2 hg'
   show aN S j.area i≤n+1∧(aN S j.area i=n+1→aI S j.area i+1<aP S j.area i)
   rw [e.2.1]
   exact ⟨by omega,fun h'=>by omega⟩
theorem mxG_ge (G:Nat→Nat) (g:Nat):∀k,g≤mxG G g k∧∀i,i<k→G i≤mxG G g k
 | 0=>⟨Nat.le_refl _,fun i hi=>absurd hi (by omega)⟩
 | k+1=>by
   obtain ⟨h1,h2⟩:=mxG_ge G g k
   show g≤(if G k>mxG G g k then G k else mxG G g k)∧∀i,i<k+1→G i≤(if G k>mxG G g k then G k else mxG G g k)
   refine ⟨by split<;>omega,fun i hi=>?_⟩
   by_cases c:i=k
   · subst c;split<;>omega
   · have:=h2 i (by omega);split<;>omega
theorem nxV_gt (s:SS) (j:JS):j.gen<nxV s j∧nxV s j % 2≠j.gen % 2∧∀i,i<60→aG s (1-j.area) i<nxV s j:=by
 obtain ⟨h1,h2⟩:=mxG_ge (aG s (1-j.area)) j.gen 60
 have e:nxG s j=mxG (aG s (1-j.area)) j.gen 60:=rfl
 unfold nxV
 rw [e]
 generalize mxG (aG s (1-j.area)) j.gen 60=x at h1 h2
 cases c:Nat.beq ((x+1) % 2) (j.gen % 2) with
 | true=>
   rw [cond_true]
   have:=Nat.eq_of_beq_eq_true c
   exact ⟨by omega,by omega,fun i hi=>by have:=h2 i hi;omega⟩
 | false=>
   rw [cond_false]
   have:(x+1) % 2≠j.gen % 2:=fun e=>by rw [e,Nat.beq_refl] at c;exact Bool.noConfusion c
   exact ⟨by omega,this,fun i hi=>by have:=h2 i hi;omega⟩
theorem one_parts (x:Nat):npF 1=1:=by unfold npF;rw [if_neg (by decide)]
theorem head_laid {S:SS} {gen area:Nat} (hg:1≤gen) (hg2:gen≤1073741824) (ha:area≤1) (e:bB S (gen % 2)=pcB gen 0 (npF 1) 1 (fun _=>area % 256) 0):hdG S (gen % 2)=gen∧hdA S (gen % 2)=area:=by
 have l:=laid (gen:=gen) (num:=0) (M:=1) (k:=0) (fun _=>area % 256) hg hg2 (by decide) (by decide) (npF_pos 1)
 have hx:=l.t 0 (by unfold pl;decide)
 have hx':pcB gen 0 (npF 1) 1 (fun _=>area % 256) 0 11=area:=by rw [hx];omega
 have ok:hdOk (bB S (gen % 2)) (gen % 2)=true:=by
  rw [e]
  unfold hdOk hdB
  have e1:pl 1 0=1:=by unfold pl;decide
  rw [l.g,l.n,l.p,l.l,hx',one_parts 0,e1,bt ha,Nat.beq_refl,Nat.beq_refl,Nat.beq_refl]
  rfl
 unfold hdG hdA
 rw [ok,cond_true,cond_true,e,l.g,hx']
 exact ⟨rfl,rfl⟩
theorem JI.rewrite (h:JI s j mm n m b) {n':Nat} {m':Nat→Nat} {b':Nat→Nat→Nat} (hl:∀i,i<n'→m' i≤1128) (hs:sumP m' n' 0≤60) (hb:∀i t,b' i t<256) (hv:nxV s j≤1073741824)
 (e0:rwE s j n' m' b'=0) (e1:nmE (rwS s j n' m' b') (nxV s j) (1-j.area)=0):JI (nmS (rwS s j n' m' b') (nxV s j) (1-j.area)) (rwJ s j n' m') (mm+sumP m' n' 0+1) n' m' b':=by
 obtain ⟨g1,g2,g3⟩:=nxV_gt s j
 have har:=h.area
 have hn:=h.hn
 have hgen:=h.g1
 unfold rwE at e0
 unfold rwS at e1⊢
 unfold nmE at e1
 unfold nmS
 have hin:2+(1-j.area)*60+sumP m' n' 0≤s.n:=by omega
 obtain ⟨o1,o2,_⟩:=cmt_on _ _ _ _ _ _ _ e0
 obtain ⟨k1,k2⟩:=cmtS_ok (nxV s j) 0 n' mm m' b' s (2+(1-j.area)*60) h.okm hin
 have k3:=cmtS_byt (nxV s j) 0 n' mm m' b' hb s (2+(1-j.area)*60) h.okm h.byt hin
 have rd:=fun q hq=>cmt_bB (nxV s j) 0 n' mm m' b' s (2+(1-j.area)*60) h.okm hin h.on e0 q hq
 generalize cmtS (nxV s j) 0 n' m' b' s (2+(1-j.area)*60)=S at o1 o2 k1 k2 k3 rd e1
 have hin2:nxV s j % 2+sumP (fun _=>1) 1 0≤S.n:=by rw [sumP1,one_parts 0,k2];omega
 obtain ⟨p1,p2,_⟩:=cmt_on _ _ _ _ _ _ _ e1
 obtain ⟨q1,q2⟩:=cmtS_ok (nxV s j) 0 1 (mm+sumP m' n' 0) (fun _=>1) (fun _ _=>(1-j.area) % 256) S (nxV s j % 2) k1 hin2
 have q3:=cmtS_byt (nxV s j) 0 1 (mm+sumP m' n' 0) (fun _=>1) (fun _ _=>(1-j.area) % 256) (fun _ _=>by omega) S (nxV s j % 2) k1 k3 hin2
 have rd2:=fun q hq=>cmt_bB (nxV s j) 0 1 (mm+sumP m' n' 0) (fun _=>1) (fun _ _=>(1-j.area) % 256) S (nxV s j % 2) k1 hin2 o1 e1 q hq
 generalize cmtS (nxV s j) 0 1 (fun _=>1) (fun _ _=>(1-j.area) % 256) S (nxV s j % 2)=T at p1 p2 q1 q2 q3 rd2
 rw [sumP1,one_parts 0] at q1 rd2
 have far:∀q,2≤q→q<s.n→bB T q=bB S q:=fun q hq hq2=>(rd2 q (by omega)).2 (.inr (by omega))
 have hh:bB T (nxV s j % 2)=pcB (nxV s j) 0 (npF 1) 1 (fun _=>(1-j.area) % 256) 0:=(rd2 (nxV s j % 2) (by omega)).1 0 0 (by decide) (npF_pos 1) (by show _=nxV s j % 2+0+0;omega)
 have oth:bB T (1-nxV s j % 2)=bB s (1-nxV s j % 2):=by
  have e2:bB T (1-nxV s j % 2)=bB S (1-nxV s j % 2):=by
   refine (rd2 _ (by omega)).2 ?_
   omega
  rw [e2]
  exact (rd _ (by omega)).2 (.inl (by omega))
 have hl1:=head_laid (by omega) hv (show 1-j.area≤1 by omega) hh
 have ho:hdG T (1-nxV s j % 2)=j.gen:=by
  rw [(hd_same oth).1,show 1-nxV s j % 2=j.gen % 2 by omega];exact h.hd
 refine { on:=p1,P:=p2,hn:=by rw [q2,k2];exact hn,byt:=q3,okm:=q1,dead:=h.dead,area:=(by show 1-j.area≤1;omega),g1:=(by show 1≤nxV s j;omega),g2:=hv,hd:=hl1.1,ha:=hl1.2,ho:=(by show hdG T (1-nxV s j % 2)<nxV s j;rw [ho];exact g1),recs:=rfl,room:=rfl,fit:=hs,len:=hl,parts:=?_,last:=?_}
 · intro r hr k hk
   show bB T (2+(1-j.area)*60+(sumP m' r 0+k))=pcB (nxV s j) r _ _ _ k
   have h1:=sumP_mono m' (show r+1≤n' by omega)
   rw [sumP_at] at h1
   rw [far _ (by omega) (by omega)]
   have:=(rd (2+(1-j.area)*60+(sumP m' r 0+k)) (by omega)).1 r k hr hk (by omega)
   rw [Nat.zero_add] at this
   exact this
 · intro i hi1 hi2 hg
   have e:bB T (2+(1-j.area)*60+i)=bB s (2+(1-j.area)*60+i):=by
    rw [far _ (by omega) (by omega)]
    exact (rd _ (by omega)).2 (.inr (by omega))
   have hg':aG T (1-j.area) i=nxV s j:=hg
   rw [(a_same e).1] at hg'
   have:=g3 i hi2
   omega
end
structure Calm (s:SS):Prop where
 on:s.off=false
 un:s.armed=false
theorem Calm.wr {s:SS} (h:Calm s) {q:Nat} (hq:q<s.n) (bs:Nat→Int):s.wrE (ofNat q) 64=0∧Calm (s.wrS (ofNat q) 64 bs):=by
 have hd:decide (0≤ofNat q∧ofNat q<ofNat s.n∧64=64)=true:=by simp;omega
 constructor
 · unfold SS.wrE
   rw [h.on,hd]
   show (s.wrote (ofNat q).toNat fun _=>0).payE=0
   unfold SS.payE
   rw [show (s.wrote (ofNat q).toNat fun _=>0).armed=false from h.un]
 · rw [wrS_on h.on hq]
   unfold SS.pay
   rw [show (s.wrote q bs).armed=false from h.un]
   exact ⟨h.on,h.un⟩
theorem Calm.runW (c:Nat→Nat→Nat):∀(j:Nat) {s:SS} (a k:Nat),Calm s→a+j≤s.n→(Jn.runW c j s a k).1=0∧Calm (Jn.runW c j s a k).2.1∧(Jn.runW c j s a k).2.2=a+j∧(Jn.runW c j s a k).2.1.n=s.n
 | 0,s,a,k,h,_=>⟨rfl,h,rfl,rfl⟩
 | j+1,s,a,k,h,ha=>by
   obtain ⟨w1,w2⟩:=h.wr (q:=a) (by omega) (fun t=>ofNat (c k t))
   have hn:(s.wrS (ofNat a) 64 fun t=>ofNat (c k t)).n=s.n:=wrS_n s _ _
   have ih:=Calm.runW c j (a+1) (k+1) w2 (by rw [hn];omega)
   unfold Jn.runW
   rw [decide_eq_true w1]
   exact ⟨ih.1,ih.2.1,by rw [ih.2.2.1];omega,ih.2.2.2.trans hn⟩
theorem Calm.runR (gen first:Nat) (m:Nat→Nat) (b:Nat→Nat→Nat):∀(j:Nat) {s:SS} (a i:Nat),Calm s→a+sumP m j i≤s.n→(Jn.runR gen first m b j s a i).1=0∧Calm (Jn.runR gen first m b j s a i).2.1
 | 0,s,a,i,h,_=>⟨rfl,h⟩
 | j+1,s,a,i,h,ha=>by
   have ha':a+(npF (m i)+sumP m j (i+1))≤s.n:=ha
   have w:(recW gen first m b s a i).1=0∧Calm (recW gen first m b s a i).2.1∧(recW gen first m b s a i).2.2=a+npF (m i)∧(recW gen first m b s a i).2.1.n=s.n:=Calm.runW _ _ a 0 h (by omega)
   obtain ⟨w1,w2,w3,w4⟩:=w
   have ih:=Calm.runR gen first m b j (recW gen first m b s a i).2.2 (i+1) w2 (by rw [w3,w4];omega)
   unfold Jn.runR
   rw [decide_eq_true w1]
   exact ih
theorem Calm.cmt {s:SS} (h:Calm s) (gen first n:Nat) (m:Nat→Nat) (b:Nat→Nat→Nat) (a:Nat) (ha:a+sumP m n 0≤s.n):cmtE gen first n m b s a=0∧Calm (cmtS gen first n m b s a):=by
 obtain ⟨h1,h2⟩:=Calm.runR gen first m b n a 0 h ha
 unfold cmtE cmtS
 rw [decide_eq_true h1]
 simp only
 generalize (Jn.runR gen first m b n s a 0).2.1=S at h2
 constructor
 · unfold SS.faultE;rw [h2.on];rfl
 · unfold SS.bar;rw [h2.on];exact ⟨h2.on,h2.un⟩
theorem bB_new (n q:Nat) (hq:q<n):bB (SS.new n) q=fun _=>0:=by
 rw [bB_v (s:=SS.new n) rfl hq]
 rfl
theorem hdG_zero {s:SS} {h:Nat} (e:bB s h=fun _=>0):hdG s h=0:=by
 unfold hdG
 rw [e]
 have:hdOk (fun _=>0) h=false:=by
  unfold hdOk hdB
  have:stP (fun _=>0)=0:=by unfold stP;rw [ptB_f zero_bad,cond_false]
  rw [this]
  simp
 rw [this,cond_false]
theorem aG_zero {s:SS} {a i:Nat} (e:bB s (2+a*60+i)=fun _=>0):aG s a i=0:=by
 unfold aG
 rw [e]
 unfold stG
 rw [ptB_f zero_bad,cond_false]
def nS0:SS:=nmS (SS.new 122) 1 0
def nJ0:JS:={ gen:=1,area:=0,recs:=0,room:=60,dead:=false}
theorem new_okm:OkM (SS.new 122) 0:=⟨by decide,Nat.le_refl _,Nat.le_refl _,by decide,fun w hw=>by cases hw⟩
theorem new_byt:Byt (SS.new 122):=⟨fun i j=>⟨0,by decide,rfl⟩,fun w hw=>by cases hw⟩
theorem new_calm:Calm (SS.new 122):=⟨rfl,rfl⟩
theorem new_in:1 % 2+sumP (fun _=>1) 1 0≤(SS.new 122).n:=by rw [sumP1,one_parts 0];decide
theorem new_nmE:nmE (SS.new 122) 1 0=0:=(new_calm.cmt 1 0 1 (fun _=>1) (fun _ _=>0 % 256) (1 % 2) new_in).1
theorem nS0_calm:Calm nS0:=(new_calm.cmt 1 0 1 (fun _=>1) (fun _ _=>0 % 256) (1 % 2) new_in).2
theorem nS0_rd:nS0.n=122∧OkM nS0 1∧Byt nS0∧nS0.P=[]∧bB nS0 1=pcB 1 0 (npF 1) 1 (fun _=>0 % 256) 0∧∀q,q<122→q≠1→bB nS0 q=fun _=>0:=by
 have e0:cmtE 1 0 1 (fun _=>1) (fun _ _=>0 % 256) (SS.new 122) (1 % 2)=0:=new_nmE
 obtain ⟨k1,k2⟩:=cmtS_ok 1 0 1 0 (fun _=>1) (fun _ _=>0 % 256) (SS.new 122) (1 % 2) new_okm new_in
 have k3:=cmtS_byt 1 0 1 0 (fun _=>1) (fun _ _=>0 % 256) (fun _ _=>by decide) (SS.new 122) (1 % 2) new_okm new_byt new_in
 have rd:=fun q hq=>cmt_bB 1 0 1 0 (fun _=>1) (fun _ _=>0 % 256) (SS.new 122) (1 % 2) new_okm new_in rfl e0 q hq
 obtain ⟨o1,o2,_⟩:=cmt_on _ _ _ _ _ _ _ e0
 rw [sumP1,one_parts 0] at k1 rd
 refine ⟨k2,k1,k3,o2,?_,fun q hq h1=>?_⟩
 · exact (rd 1 (by decide)).1 0 0 (by decide) (npF_pos 1) rfl
 · exact ((rd q hq).2 (by omega)).trans (bB_new 122 q hq)
theorem nJI:JI nS0 nJ0 1 0 (fun _=>0) (fun _ _=>0):=by
 obtain ⟨r1,r2,r3,r4,r5,r6⟩:=nS0_rd
 have hl:=head_laid (S:=nS0) (gen:=1) (area:=0) (by decide) (by decide) (by decide) r5
 refine { on:=nS0_calm.on,P:=r4,hn:=by rw [r1];decide,byt:=r3,okm:=r2,dead:=rfl,area:=by decide,g1:=by decide,g2:=by decide,hd:=hl.1,ha:=hl.2,ho:=?_,recs:=rfl,room:=rfl,fit:=by decide,len:=fun r hr=>absurd hr (by omega),parts:=fun r hr=>absurd hr (by omega),last:=?_}
 · show hdG nS0 0<1
   rw [hdG_zero (r6 0 (by decide) (by decide))];decide
 · intro i _ hi hg
   have hg':aG nS0 0 i=1:=hg
   rw [aG_zero (r6 _ (by omega) (by omega))] at hg'
   exact absurd hg' (by decide)
theorem nS0_fr (i:Nat) (hi:i<60):aG nS0 1 i=0:=aG_zero (nS0_rd.2.2.2.2.2 _ (by omega) (by omega))
theorem open0_con:Con PG 10 [.p 0 0] [some (SS.new 122).o] (.tup [.p 1 0,.sv 1 0 (recF (fun _=>0) fun _ _=>0),.i .i64 0]) [.set nS0.o,.set nJ0.o]:=by
 have hg:bgG (SS.new 122)=0:=by
  unfold bgG
  rw [hdG_zero (bB_new 122 0 (by decide)),hdG_zero (bB_new 122 1 (by decide))];rfl
 have w:=begin0_con (SS.new 122) 0 new_okm (by decide) (by decide) new_byt hg
 rw [new_nmE] at w
 have h:=nJI
 have k:=openX_con (SS.new 122) nS0 1 0 0 (by decide) rfl w (by rw [nS0_rd.1];decide) (by rw [nS0_rd.1];decide) nS0_calm.on nS0_rd.2.2.1 (by decide) h.rc
 have ej:opJ nS0 0 1 0=nJ0:=h.opJ
 rw [ej] at k
 exact k.post (.tup ⟨.refl _,.sv fun i j hi _=>absurd hi (by omega),.refl _,trivial⟩) (OVL.refl _)
section
variable {s:SS} {j:JS} {mm n:Nat} {m:Nat→Nat} {b:Nat→Nat→Nat}
theorem JI.appendC (h:JI s j mm n m b) (c:Calm s) {L:Nat} {bs:Nat→Nat} (hL:L≤1128) (hb:∀t,bs t<256) (hf:npF L≤60-sumP m n 0):apE j (60-sumP m n 0) s L bs=0∧Calm (apS j (60-sumP m n 0) s L bs)∧JI (apS j (60-sumP m n 0) s L bs) (j.more L) (mm+npF L) (n+1) (mS n m L) (bS n b bs):=by
 have hq:=h.apQ
 have hfit:=h.fit
 have har:=h.area
 have hn:=h.hn
 have e:=c.cmt j.gen j.recs 1 (fun _=>L) (fun _=>bs) (Jn.apQ j (60-sumP m n 0)) (by rw [hq,sumP1];omega)
 exact ⟨e.1,e.2,h.append hL hb hf e.1⟩
theorem JI.appendC_con (h:JI s j mm n m b) (c:Calm s) {L:Nat} {bs:Nat→Nat} (hL:L≤1128) (hb:∀t,bs t<256) (hf:npF L≤60-sumP m n 0) (hm:mm+npF L<1073741823) :
 Con PG 24 [.p 1 0,.sv 1 L (byF bs)] [some s.o,some j.o] (.i .i64 0) [.set (apS j (60-sumP m n 0) s L bs).o,.set (j.more L).o]:=by
 have e:=(h.appendC c hL hb hf).1
 have k:=append_con j (60-sumP m n 0) s L mm bs h.dead h.rm (by omega) h.area (by rw [h.recs];have:=h.few;omega) h.okm hm h.hn hb hL hf
 rw [decide_eq_true e,cond_true,cond_true] at k
 exact k
theorem JI.append_far (h:JI s j mm n m b) {L:Nat} {bs:Nat→Nat} (hf:npF L≤60-sumP m n 0) (e0:apE j (60-sumP m n 0) s L bs=0) {q:Nat} (hq:q<s.n) (hq2:q<2+j.area*60∨2+j.area*60+60≤q):bB (apS j (60-sumP m n 0) s L bs) q=bB s q:=by
 have hk:=h.apQ
 have hfit:=h.fit
 have har:=h.area
 have hn:=h.hn
 unfold apE at e0
 unfold apS
 rw [hk] at e0⊢
 refine (cmt_bB j.gen j.recs 1 mm (fun _=>L) (fun _=>bs) s (2+j.area*60+sumP m n 0) h.okm (by rw [sumP1];omega) h.on e0 q hq).2 ?_
 rw [sumP1];omega
theorem JI.rewriteC (h:JI s j mm n m b) (c:Calm s) {n':Nat} {m':Nat→Nat} {b':Nat→Nat→Nat} (hl:∀i,i<n'→m' i≤1128) (hs:sumP m' n' 0≤60) (hb:∀i t,b' i t<256) (hv:nxV s j≤1073741824) :
 rwE s j n' m' b'=0∧nmE (rwS s j n' m' b') (nxV s j) (1-j.area)=0∧Calm (nmS (rwS s j n' m' b') (nxV s j) (1-j.area))∧JI (nmS (rwS s j n' m' b') (nxV s j) (1-j.area)) (rwJ s j n' m') (mm+sumP m' n' 0+1) n' m' b':=by
 have har:=h.area
 have hn:=h.hn
 have e:=c.cmt (nxV s j) 0 n' m' b' (2+(1-j.area)*60) (by omega)
 have k2:=(cmtS_ok (nxV s j) 0 n' mm m' b' s (2+(1-j.area)*60) h.okm (by omega)).2
 have e2:=e.2.cmt (nxV s j) 0 1 (fun _=>1) (fun _ _=>(1-j.area) % 256) (nxV s j % 2) (by rw [sumP1,one_parts 0,k2];omega)
 exact ⟨e.1,e2.1,e2.2,h.rewrite hl hs hb hv e.1 e2.1⟩
theorem JI.rewriteC_con (h:JI s j mm n m b) (c:Calm s) {n':Nat} {m':Nat→Nat} {b':Nat→Nat→Nat} (hl:∀i,i<n'→m' i≤1128) (hs:sumP m' n' 0≤60) (hb:∀i t,b' i t<256) (hg:j.gen<1073741824) (hv:nxV s j≤1073741824) (hm:mm+61<1073741823) :
 Con PG 14 [.p 1 0,.sv 1 n' (recF m' b')] [some s.o,some j.o] (.i .i64 0) [.set (nmS (rwS s j n' m' b') (nxV s j) (1-j.area)).o,.set (rwJ s j n' m').o]:=by
 obtain ⟨e1,e2,_,_⟩:=h.rewriteC c hl hs hb hv
 have k:=rewrite_con s j n' mm m' b' h.dead hl hs hg hv h.area h.on h.hn h.byt h.okm hm hb
 rw [decide_eq_true e1,decide_eq_true e2] at k
 simp only [cond_true] at k
 exact k
end
end Go.Proofs.Jn
namespace Go.Proofs.Cl
open Go Go.Sim Go.Proofs Go.Proofs.Cd Go.Proofs.St Go.Proofs.YtbilafnamckglaaDoor
end Go.Proofs.Cl
namespace Go.Proofs.Jn
open Go Go.Sim Go.Proofs Go.Proofs.Cd Go.Proofs.St Go.Proofs.Cl Go.Proofs.YtbilafnamckglaaDoor
def pend (c:Nat→Nat→Nat) (a:Nat):Nat→PW→PW
 | 0,P=>P
 | w+1,P=>(a+w,fun t=>ofNat (c w t)) :: pend c a w P
theorem pend_succ (c:Nat→Nat→Nat) (a:Nat):∀(w:Nat) (P:PW),pend c a (w+1) P=pend (fun i=>c (i+1)) (a+1) w ((a,fun t=>ofNat (c 0 t)) :: P)
 | 0,P=>rfl
 | w+1,P=>by
   show (a+(w+1),_) :: pend c a (w+1) P=(a+1+w,_) :: pend (fun i=>c (i+1)) (a+1) w _
   rw [pend_succ c a w P,show a+(w+1)=a+1+w by omega]
theorem pend_congr {c c':Nat→Nat→Nat} {a:Nat} {P:PW}:∀{w:Nat},(∀i,i<w→c i=c' i)→pend c a w P=pend c' a w P
 | 0,_=>rfl
 | w+1,h=>by
   show (a+w,_) :: pend c a w P=(a+w,_) :: pend c' a w P
   rw [pend_congr fun i hi=>h i (by omega),h w (by omega)]
theorem pend_add (c:Nat→Nat→Nat) (a w1:Nat) (P:PW):∀w2,pend c a (w1+w2) P=pend (fun i=>c (w1+i)) (a+w1) w2 (pend c a w1 P)
 | 0=>rfl
 | w2+1=>by
   show (a+(w1+w2),_) :: pend c a (w1+w2) P=(a+w1+w2,_) :: pend (fun i=>c (w1+i)) (a+w1) w2 _
   rw [pend_add c a w1 P w2,show a+(w1+w2)=a+w1+w2 by omega];rfl
structure Wrt (s S:SS) (c:Nat→Nat→Nat) (a w:Nat):Prop where
 P:S.P=pend c a w s.P
 dur:S.dur=s.dur
 torn:S.torn=s.torn
 n:S.n=s.n
theorem wrS_same (s:SS) {q:Nat} (ho:s.off=false) (hq:q<s.n) (bs:Nat→Int):(s.wrS (ofNat q) 64 bs).P=(q,bs) :: s.P∧(s.wrS (ofNat q) 64 bs).dur=s.dur∧(s.wrS (ofNat q) 64 bs).torn=s.torn∧(s.wrS (ofNat q) 64 bs).n=s.n∧((s.wrS (ofNat q) 64 bs).off=true↔s.wrE (ofNat q) 64≠0):=by
 have hd:decide (0≤ofNat q∧ofNat q<ofNat s.n∧64=64)=true:=by simp;omega
 have eE:s.wrE (ofNat q) 64=(s.wrote q fun _=>0).payE:=by unfold SS.wrE;rw [ho,hd];rfl
 rw [wrS_on ho hq,eE]
 obtain ⟨n,dur,torn,P,wr,off,armed,left⟩:=s
 have ho':off=false:=ho
 subst ho'
 unfold SS.pay SS.payE SS.wrote
 cases armed with
 | false=>exact ⟨rfl,rfl,rfl,rfl,by simp⟩
 | true=>
   simp only
   cases e:Nat.beq left 0 with
   | true=>simp only;exact ⟨trivial,trivial,trivial,trivial,by simp⟩
   | false=>simp only;exact ⟨trivial,trivial,trivial,trivial,by simp⟩
theorem runW_p (c:Nat→Nat→Nat):∀(j:Nat) (s:SS) (a k:Nat),s.off=false→a+j≤s.n→∃w,w≤j∧Wrt s (runW c j s a k).2.1 (fun i=>c (k+i)) a w∧((runW c j s a k).1=0→w=j∧(runW c j s a k).2.1.off=false∧(runW c j s a k).2.2=a+j)∧((runW c j s a k).1≠0→(runW c j s a k).2.1.off=true)
 | 0,s,a,k,ho,ha=>⟨0,Nat.le_refl _,⟨rfl,rfl,rfl,rfl⟩,fun _=>⟨rfl,ho,rfl⟩,fun h=>absurd rfl h⟩
 | j+1,s,a,k,ho,ha=>by
   obtain ⟨p1,p2,p3,p4,p5⟩:=wrS_same s ho (show a<s.n by omega) (fun t=>ofNat (c k t))
   have e:runW c (j+1) s a k=(match decide (s.wrE (ofNat a) 64=0) with
    | true=>runW c j (s.wrS (ofNat a) 64 fun t=>ofNat (c k t)) (a+1) (k+1)
    | false=>(s.wrE (ofNat a) 64,s.wrS (ofNat a) 64 (fun t=>ofNat (c k t)),a)):=rfl
   cases d:decide (s.wrE (ofNat a) 64=0) with
   | false=>
     rw [d] at e
     simp only at e
     rw [e]
     have ne:=of_decide_eq_false d
     exact ⟨1,by omega,⟨p1,p2,p3,p4⟩,fun h=>absurd h ne,fun _=>p5.2 ne⟩
   | true=>
     rw [d] at e
     simp only at e
     rw [e]
     have on:(s.wrS (ofNat a) 64 fun t=>ofNat (c k t)).off=false:=by
      cases h:(s.wrS (ofNat a) 64 fun t=>ofNat (c k t)).off with
      | false=>rfl
      | true=>exact absurd (of_decide_eq_true d) (p5.1 h)
     obtain ⟨w,q1,q2,q3,q4⟩:=runW_p c j _ (a+1) (k+1) on (by rw [p4];omega)
     refine ⟨w+1,by omega,⟨?_,q2.dur.trans p2,q2.torn.trans p3,q2.n.trans p4⟩,fun h=>?_,q4⟩
     · rw [q2.P,p1,pend_succ]
       exact pend_congr fun i _=>by show c (k+1+i)=c (k+(i+1));rw [show k+1+i=k+(i+1) by omega]
     · have:=q3 h
       exact ⟨by omega,this.2.1,by omega⟩
def cAll (gen first:Nat) (m:Nat→Nat) (b:Nat→Nat→Nat):Nat→Nat→Nat→Nat→Nat
 | 0,_,_=>fun _=>0
 | j+1,i,x=>if x<npF (m i) then pcB gen (first+i) (npF (m i)) (m i) (b i) x else cAll gen first m b j (i+1) (x-npF (m i))
theorem runR_p (gen first:Nat) (m:Nat→Nat) (b:Nat→Nat→Nat):∀(j:Nat) (s:SS) (a i:Nat),s.off=false→a+sumP m j i≤s.n→∃w,w≤sumP m j i∧Wrt s (runR gen first m b j s a i).2.1 (cAll gen first m b j i) a w∧((runR gen first m b j s a i).1=0→w=sumP m j i∧(runR gen first m b j s a i).2.1.off=false)∧((runR gen first m b j s a i).1≠0→(runR gen first m b j s a i).2.1.off=true)
 | 0,s,a,i,ho,ha=>⟨0,Nat.le_refl _,⟨rfl,rfl,rfl,rfl⟩,fun _=>⟨rfl,ho⟩,fun h=>absurd rfl h⟩
 | j+1,s,a,i,ho,ha=>by
   have ha':a+(npF (m i)+sumP m j (i+1))≤s.n:=ha
   have es:sumP m (j+1) i=npF (m i)+sumP m j (i+1):=rfl
   have hw:∃w,w≤npF (m i)∧Wrt s (recW gen first m b s a i).2.1 (fun x=>pcB gen (first+i) (npF (m i)) (m i) (b i) (0+x)) a w∧((recW gen first m b s a i).1=0→w=npF (m i)∧(recW gen first m b s a i).2.1.off=false∧(recW gen first m b s a i).2.2=a+npF (m i))∧((recW gen first m b s a i).1≠0→(recW gen first m b s a i).2.1.off=true):=runW_p _ _ s a 0 ho (by omega)
   obtain ⟨w,q1,q2,q3,q4⟩:=hw
   have e:runR gen first m b (j+1) s a i=(match decide ((recW gen first m b s a i).1=0) with
    | true=>runR gen first m b j (recW gen first m b s a i).2.1 (recW gen first m b s a i).2.2 (i+1)
    | false=>recW gen first m b s a i):=rfl
   have cl:∀x,x<npF (m i)→pcB gen (first+i) (npF (m i)) (m i) (b i) (0+x)=cAll gen first m b (j+1) i x:=fun x hx=>by
    show _=(if x<npF (m i) then _ else _)
    rw [if_pos hx,Nat.zero_add]
   cases d:decide ((recW gen first m b s a i).1=0) with
   | false=>
     rw [d] at e
     simp only at e
     rw [e]
     have ne:=of_decide_eq_false d
     exact ⟨w,by omega,⟨q2.P.trans (pend_congr fun x hx=>cl x (by omega)),q2.dur,q2.torn,q2.n⟩,fun h=>absurd h ne,q4⟩
   | true=>
     rw [d] at e
     simp only at e
     rw [e]
     obtain ⟨w1,w2,w3⟩:=q3 (of_decide_eq_true d)
     subst w1
     obtain ⟨w',r1,r2,r3,r4⟩:=runR_p gen first m b j (recW gen first m b s a i).2.1 (recW gen first m b s a i).2.2 (i+1) w2 (by rw [w3,q2.n];omega)
     refine ⟨npF (m i)+w',by omega,⟨?_,r2.dur.trans q2.dur,r2.torn.trans q2.torn,r2.n.trans q2.n⟩,fun h=>?_,r4⟩
     · rw [r2.P,q2.P,w3,pend_add]
       rw [pend_congr (c:=fun x=>pcB gen (first+i) (npF (m i)) (m i) (b i) (0+x)) fun x hx=>cl x hx]
       exact pend_congr fun x _=>by
        show cAll gen first m b j (i+1) x=(if npF (m i)+x<npF (m i) then _ else _)
        rw [if_neg (by omega),show npF (m i)+x-npF (m i)=x by omega]
     · have:=r3 h
       exact ⟨by omega,this.2⟩
section
variable {s:SS} {j:JS} {mm n:Nat} {m:Nat→Nat} {b:Nat→Nat→Nat}
end
def abB (t:Nat):Nat:=Nat.rec 97 (fun _ _=>98) t
def xyB (i _t:Nat):Nat:=Nat.rec 120 (fun _ _=>121) i
theorem jbeg_vc (sn s0:SS) (j0:JS) (m0:Nat→Nat) (b0:Nat→Nat→Nat) (K:Res→Orc→Prop):runK PG 1000000 (.call 37 [] (mkH [])) (.cal [] (.tup [.p 0 0,.i .i64 0]) [.set (SS.o sn)] (.cal [0] (.tup [.p 1 0,.sv 1 0 (recF m0 b0),.i .i64 0]) [.set (SS.o s0),.set (JS.o j0)] (.c (.c (.c (.c (.c (.c (.c (.c .z)))))))))) K=(Con PG 9 [.i .i64 122] [] (.tup [.p 0 0,.i .i64 0]) [.set (SS.o sn)]∧Con PG 10 [.p 0 0] [some (SS.o sn)] (.tup [.p 1 0,.sv 1 0 (recF m0 b0),.i .i64 0]) [.set (SS.o s0),.set (JS.o j0)]∧K (.rv (.tup [.p 0 0,.p 1 0]) ⟨t1 (SS.o s0) (tl (JS.o j0)) .e,2,[1,0,0]⟩) .z):=by kernel_rfl
theorem jroom_vc (j:JS) (s:SS) (K:Res→Orc→Prop):runK PG 1000000 (.call 28 [.p 1 0] (mkH [some s.o,some j.o])) (.c .z) K=(True∧True∧K (.rv (.i .i64 (JS.room j)) ⟨t1 (SS.o s) (tl (JS.o j)) .e,2,[]⟩) .z):=by kernel_rfl
theorem jrecs_vc (j:JS) (s:SS) (K:Res→Orc→Prop):runK PG 1000000 (.call 27 [.p 1 0] (mkH [some s.o,some j.o])) (.c .z) K=(True∧True∧K (.rv (inv (JS.recs j)) ⟨t1 (SS.o s) (tl (JS.o j)) .e,2,[]⟩) .z):=by kernel_rfl
theorem jgen_vc (j:JS) (s:SS) (K:Res→Orc→Prop):runK PG 1000000 (.call 30 [.p 1 0] (mkH [some s.o,some j.o])) (.c .z) K=(True∧True∧K (.rv (inv (JS.gen j)) ⟨t1 (SS.o s) (tl (JS.o j)) .e,2,[]⟩) .z):=by kernel_rfl
theorem jaw_vc (s0:SS) (j0:JS) (s1:SS) (j1:JS) (s2:SS) (j2:JS) (s3:SS) (j3 j4:JS) (K:Res→Orc→Prop):runK PG 1000000 (.call 11 [] (mkH [])) (.cal [] (.tup [.p 0 0,.p 1 0]) [.set (SS.o s0),.set (JS.o j0)] (.c (.c (.cal [0,1] (.i .i64 1) [.keep,.keep] (.c (.c (.c (.c (.cal [0,1] (.i .i64 60) [.keep,.keep] (.c (.c (.c (.c (.cal [0] (.i .i64 1) [.keep] (.c (.c (.c (.c (.c (.c (.cal [0,1,2] (.i .i64 0) [.set (SS.o s1),.set (JS.o j1),.gone] (.c (.c (.c (.c (.m (.c (.cal [0,1] (.i .i64 0) [.set (SS.o s2),.set (JS.o j2)] (.c (.c (.c (.c (.cal [0,1] (.i .i64 56) [.keep,.keep] (.c (.c (.c (.c (.cal [0,1] (.i .i64 2) [.keep,.keep] (.c (.c (.c (.cal [0,1,6,4,5] (.i .i64 0) [.set (SS.o s3),.set (JS.o j3),.gone,.gone,.gone] (.c (.c (.cal [0,1] (.i .i64 2) [.keep,.keep] (.c (.c (.c (.c (.cal [0,1] (.i .i64 2) [.keep,.keep] (.c (.c (.c (.c (.cal [0,1] (.i .i64 58) [.keep,.keep] (.c (.c (.c (.cal [0] (.tup [.p 1 0,.sv 1 2 (recF (fun x=>1) xyB),.i .i64 0]) [.keep,.set (JS.o j4)] (.c (.c (.c (.c (.c (.c (.c (.c (.c (.c (.c (.c (.c (.c (.c (.c (.c (.c (.c (.c (.c (.m (.c (.cal [0,1] (.i .i64 2) [.keep,.keep] (.c (.c .z))))))))))))))))))))))))))))))))))))))))))))))))))))))))))))))))))))))))))))))))))))) K=((fun (q0:List (Option AObj))=>(Con PG 37 [] [] (.tup [.p 0 0,.p 1 0]) [.set (SS.o s0),.set (JS.o j0)]∧True∧Con PG 30 [.p 1 0] [some (SS.o s0),some (JS.o j0)] (.i .i64 1) [.keep,.keep]∧Con PG 28 [.p 1 0] [some (SS.o s0),
 some (JS.o j0)] (.i .i64 60) [.keep,.keep]∧Con PG 31 [.p 0 0] [some (SS.o s0)] (.i .i64 1) [.keep]∧Con PG 24 [.p 1 0,.l 2 0 2 2 1 true] [some (SS.o s0),some (JS.o j0),some (cellsO 5 [.i .u8 97,.i .u8 98])] (.i .i64 0) [.set (SS.o s1),.set (JS.o j1),.gone]∧((1=1∧100≤100)∧(0:Int)≤(100:Int)∧(100:Int)≤(100:Int)∧(100:Int)≤(1073741824:Int))∧Con PG 24 [.p 1 0,.sv 1 100 fun x j=>List.getD [CV.i .u8 0] j CV.p0] [some (SS.o s1),some (JS.o j1)] (.i .i64 0) [.set (SS.o s2),.set (JS.o j2)]∧Con PG 28 [.p 1 0] [some (SS.o s2),some (JS.o j2)] (.i .i64 56) [.keep,.keep]∧Con PG 27 [.p 1 0] [some (SS.o s2),some (JS.o j2)] (.i .i64 2) [.keep,.keep]∧Con PG 14 [.p 1 0,.l 2 0 2 2 1 true] [some (SS.o s2),some (JS.o j2),some (cellsO 38 [.l 3 0 1 1 1 true,.l 4 0 1 1 1 true]),some (cellsO 5 [.i .u8 120]),some (cellsO 5 [.i .u8 121])] (.i .i64 0) [.set (SS.o s3),.set (JS.o j3),.gone,.gone,.gone]∧Con PG 30 [.p 1 0] q0 (.i .i64 2) [.keep,.keep]∧Con PG 27 [.p 1 0] q0 (.i .i64 2) [.keep,.keep]∧Con PG 28 [.p 1 0] q0 (.i .i64 58) [.keep,.keep]∧Con PG 10 [.p 0 0] [some (SS.o s3)] (.tup [.p 1 0,.sv 1 2 (recF (fun x=>1) xyB),.i .i64 0]) [.keep,.set (JS.o j4)]∧True∧((0:Int)≤(0:Int)∧(0:Int)<(2:Int))∧True∧U8s 1 (byF (xyB (Int.toNat 0)))∧((0:Int)≤(1:Int)∧(1:Int)<(2:Int))∧True∧U8s 1 (byF (xyB (Int.toNat 1)))∧((1=1∧1129≤1129)∧(0:Int)≤(1129:Int)∧(1129:Int)≤(1129:Int)∧
 (1129:Int)≤(1073741824:Int))∧Con PG 24 [.p 1 0,.sv 1 1129 fun x j=>List.getD [CV.i .u8 0] j CV.p0] q0 (.i .i64 2) [.keep,.keep]∧K (.rv (.b true) ⟨t1 (SS.o s3) (t1 (JS.o j3) (t0 (tl (JS.o j4)) .e) (t0 .e .e)) (t0 (t0 (t0 .e .e) .e) (t0 .e .e)),9,[8,8,7,5,4,6,1,0,6,5,5,4,4,1,0,3,3,2,1,0,2,2,1,0]⟩) .z)) [some (SS.o s3),some (JS.o j3)]):=by kernel_rfl
theorem room_con (j:JS) (s:SS):Con PG 28 [.p 1 0] [some s.o,some j.o] (.i .i64 j.room) [.keep,.keep]:=con_of_run [] [] ((jroom_vc j s _).mpr ⟨trivial,trivial,_,_,rfl,ret_k (by kernel_rfl)⟩)
theorem recs_con (j:JS) (s:SS):Con PG 27 [.p 1 0] [some s.o,some j.o] (.i .i64 (ofNat j.recs)) [.keep,.keep]:=con_of_run [] [] ((jrecs_vc j s _).mpr ⟨trivial,trivial,_,_,rfl,ret_k (by kernel_rfl)⟩)
theorem gen_con (j:JS) (s:SS):Con PG 30 [.p 1 0] [some s.o,some j.o] (.i .i64 (ofNat j.gen)) [.keep,.keep]:=con_of_run [] [] ((jgen_vc j s _).mpr ⟨trivial,trivial,_,_,rfl,ret_k (by kernel_rfl)⟩)
theorem jbegin_con:Con PG 37 [] [] (.tup [.p 0 0,.p 1 0]) [.set nS0.o,.set nJ0.o]:=
 con_of_run [] [0,1] ((jbeg_vc (SS.new 122) nS0 nJ0 (fun _=>0) (fun _ _=>0) _).mpr ⟨new_con 122 (by decide) (by decide),open0_con,_,_,rfl,ret_k (by kernel_rfl)⟩)
def Fr (s:SS):Prop:=∀i,i<60→aG s 1 i=0
theorem mxG_all {G:Nat→Nat} {g:Nat}:∀{k:Nat},(∀i,i<k→G i≤g)→mxG G g k=g
 | 0,_=>rfl
 | k+1,h=>by
   show (if G k>mxG G g k then G k else mxG G g k)=g
   rw [mxG_all fun i hi=>h i (by omega),if_neg (by have:=h k (by omega);omega)]
theorem nxV_fr {s:SS} {j:JS} (hg:j.gen=1) (ha:j.area=0) (f:Fr s):nxV s j=2:=by
 have e:nxG s j=1:=by
  unfold nxG
  rw [ha,hg]
  exact mxG_all fun i hi=>by rw [show 1-0=1 from rfl,f i hi];omega
 unfold nxV
 rw [e,hg];rfl
section
variable {s:SS} {j:JS} {mm n:Nat} {m:Nat→Nat} {b:Nat→Nat→Nat}
theorem JI.appendFr (h:JI s j mm n m b) (c:Calm s) {L:Nat} {bs:Nat→Nat} (hL:L≤1128) (hb:∀t,bs t<256) (hf:npF L≤60-sumP m n 0) (ha:j.area=0) (f:Fr s):Fr (apS j (60-sumP m n 0) s L bs):=by
 intro i hi
 have hn:=h.hn
 have e:=h.append_far hf (h.appendC c hL hb hf).1 (q:=2+1*60+i) (by omega) (.inr (by rw [ha];omega))
 rw [(a_same (a:=1) (i:=i) e).1]
 exact f i hi
end
theorem abB_lt:∀t,abB t<256
 | 0=>by decide
 | _+1=>by show 98<256;decide
theorem xyB_lt:∀i t,xyB i t<256
 | 0,_=>by show 120<256;decide
 | _+1,_=>by show 121<256;decide
theorem np2:npF 2=1:=by unfold npF;rw [if_neg (by decide)]
theorem np100:npF 100=3:=by unfold npF;rw [if_pos (by decide)]
def aw1S:SS:=apS nJ0 (60-sumP (fun _=>0) 0 0) nS0 2 abB
def aw1J:JS:=nJ0.more 2
def aw2S:SS:=apS aw1J (60-sumP (mS 0 (fun _=>0) 2) 1 0) aw1S 100 (fun _=>0)
def aw2J:JS:=aw1J.more 100
theorem aw1:Calm aw1S∧JI aw1S aw1J (1+npF 2) 1 (mS 0 (fun _=>0) 2) (bS 0 (fun _ _=>0) abB)∧Fr aw1S:=
 have h:=nJI.appendC nS0_calm (L:=2) (bs:=abB) (by decide) abB_lt (by rw [np2];decide)
 ⟨h.2.1,h.2.2,nJI.appendFr nS0_calm (by decide) abB_lt (by rw [np2];decide) rfl nS0_fr⟩
theorem s1e:sumP (mS 0 (fun _=>0) 2) 1 0=1:=by rw [sumP_at,mS_eq,np2];rfl
theorem aw2:Calm aw2S∧JI aw2S aw2J (1+npF 2+npF 100) 2 (mS 1 (mS 0 (fun _=>0) 2) 100) (bS 1 (bS 0 (fun _ _=>0) abB) fun _=>0)∧Fr aw2S:=
 have h:=aw1.2.1.appendC aw1.1 (L:=100) (bs:=fun _=>0) (by decide) (fun _=>by decide) (by rw [np100,s1e];decide)
 ⟨h.2.1,h.2.2,aw1.2.1.appendFr aw1.1 (by decide) (fun _=>by decide) (by rw [np100,s1e];decide) rfl aw1.2.2⟩
theorem aw2V:nxV aw2S aw2J=2:=nxV_fr rfl rfl aw2.2.2
def aw3S:SS:=nmS (rwS aw2S aw2J 2 (fun _=>1) xyB) (nxV aw2S aw2J) (1-aw2J.area)
def aw3J:JS:=rwJ aw2S aw2J 2 (fun _=>1)
theorem s2one:sumP (fun _=>1) 2 0=2:=by rw [sumP_at,sumP_at,one_parts 0];rfl
theorem aw3:JI aw3S aw3J (1+npF 2+npF 100+sumP (fun _=>1) 2 0+1) 2 (fun _=>1) xyB:=
 (aw2.2.1.rewriteC aw2.1 (n':=2) (m':=fun _=>1) (b':=xyB) (fun _ _=>by decide) (by rw [s2one];decide) xyB_lt (by rw [aw2V];decide)).2.2.2
theorem nS0_wr:nS0.wr=1:=by kernel_rfl
theorem aw0_wr:Con PG 31 [.p 0 0] [some nS0.o] (.i .i64 1) [.keep]:=by
 have h:=writes2_con nS0
 rw [nS0_wr] at h
 exact h
theorem aw1_con:Con PG 24 [.p 1 0,.l 2 0 2 2 1 true] [some nS0.o,some nJ0.o,some (cellsO 5 [.i .u8 97,.i .u8 98])] (.i .i64 0) [.set aw1S.o,.set aw1J.o,.gone]:=by
 have k0:=nJI.appendC_con nS0_calm (L:=2) (bs:=abB) (by decide) abB_lt (by rw [np2];decide) (by rw [np2];decide)
 have k0':Con PG 24 [.p 1 0,.sv 1 2 (byF abB)] [some nS0.o,some nJ0.o] (.i .i64 0) [.set aw1S.o,.set aw1J.o]:=k0
 generalize aw1S=S at k0'⊢
 generalize aw1J=J at k0'⊢
 generalize nS0=S0 at k0'⊢
 generalize nJ0=J0 at k0'⊢
 have k1:Con PG 24 [.p 1 0,.sv 1 2 (listF 1 [.i .u8 97,.i .u8 98] 2)] [some S0.o,some J0.o] (.i .i64 0) [.set S.o,.set J.o]:=k0'.pre ⟨.refl _,.sv fun i j hi hj=>by
  obtain rfl:j=0:=by omega
  match i,hi with
  | 0,_=>exact Eq.refl _
  | 1,_=>exact Eq.refl _,trivial⟩
 have k2:Con PG 24 [.p 1 0,.sv 1 2 (listF 1 [.i .u8 97,.i .u8 98] 2)] [some S0.o,some J0.o,none] (.i .i64 0) [.set S.o,.set J.o,.gone]:=
  k1.more [0,1] (by kernel_rfl) (hasAll_of (by kernel_rfl) (by kernel_rfl)) (by kernel_rfl) (by kernel_rfl) (by kernel_rfl) (by kernel_rfl)
 exact k2.thawZ 2 (z:=.cells 2 [.i .u8 97,.i .u8 98]) (by kernel_rfl) ⟨.inl rfl,.inl rfl,rfl,trivial⟩ ⟨.inl rfl,.inr ⟨by kernel_rfl,by show 0+2*1≤2;decide,rfl⟩,trivial⟩ rfl
theorem aw2_con:Con PG 24 [.p 1 0,.sv 1 100 fun x j=>List.getD [CV.i IntKind.u8 (0:Int)] j CV.p0] [some aw1S.o,some aw1J.o] (.i .i64 0) [.set aw2S.o,.set aw2J.o]:=by
 have k0:=aw1.2.1.appendC_con aw1.1 (L:=100) (bs:=fun _=>0) (by decide) (fun _=>by decide) (by rw [np100,s1e];decide) (by rw [np100,np2];decide)
 have k0':Con PG 24 [.p 1 0,.sv 1 100 (byF fun _=>0)] [some aw1S.o,some aw1J.o] (.i .i64 0) [.set aw2S.o,.set aw2J.o]:=k0
 exact k0'.pre ⟨.refl _,.sv fun i j hi hj=>by
  obtain rfl:j=0:=by omega
  exact Eq.refl _,trivial⟩
theorem one_cw (x:Int) (b:Nat→Nat) (hx:x=ofNat (b 0)):CW (.sv 1 1 (oneB x)) (.sv 1 1 (byF b)):=by
 refine CW.sv fun i j hi hj=>?_
 have e1:j=0:=by omega
 have e2:i=0:=by omega
 subst e1 e2 hx
 exact .refl _
theorem xy_cw:∀i j,i<2→j<1→CW (listF 1 [.sv 1 1 (oneB 120),.sv 1 1 (oneB 121)] 2 i j) (recF (fun _=>1) xyB i j)
 | 0,0,_,_=>(zipCV_CW true (.sv 1 1 (oneB 120)) (.sv 1 1 (oneB 121))).trans (one_cw 120 (xyB 0) rfl)
 | 1,0,_,_=>(zipCV_CW false (.sv 1 1 (oneB 120)) (.sv 1 1 (oneB 121))).trans (one_cw 121 (xyB 1) rfl)
 | _+2,_,h,_=>absurd h (by omega)
 | _,_+1,_,h=>absurd h (by omega)
theorem aw3_con:Con PG 14 [.p 1 0,.l 2 0 2 2 1 true] [some aw2S.o,some aw2J.o,some (cellsO 38 [.l 3 0 1 1 1 true,.l 4 0 1 1 1 true]),some (cellsO 5 [.i .u8 120]),some (cellsO 5 [.i .u8 121])] (.i .i64 0) [.set aw3S.o,.set aw3J.o,.gone,.gone,.gone]:=by
 have k0:=aw2.2.1.rewriteC_con aw2.1 (n':=2) (m':=fun _=>1) (b':=xyB) (fun _ _=>by decide) (by rw [s2one];decide) xyB_lt (by decide) (by rw [aw2V];decide) (by rw [np100,np2];decide)
 have k0':Con PG 14 [.p 1 0,.sv 1 2 (recF (fun _=>1) xyB)] [some aw2S.o,some aw2J.o] (.i .i64 0) [.set aw3S.o,.set aw3J.o]:=k0
 generalize aw3S=S at k0'⊢
 generalize aw3J=J at k0'⊢
 generalize aw2S=S0 at k0'⊢
 generalize aw2J=J0 at k0'⊢
 have k1:Con PG 14 [.p 1 0,.sv 1 2 (recF (fun _=>1) xyB)] [some S0.o,some J0.o,none,none,none] (.i .i64 0) [.set S.o,.set J.o,.gone,.gone,.gone]:=
  k0'.more [0,1] (by kernel_rfl) (hasAll_of (by kernel_rfl) (by kernel_rfl)) (by kernel_rfl) (by kernel_rfl) (by kernel_rfl) (by kernel_rfl)
 have k2:Con PG 14 [.p 1 0,.sv 1 2 (listF 1 [.sv 1 1 (oneB 120),.sv 1 1 (oneB 121)] 2)] [some S0.o,some J0.o,none,none,none] (.i .i64 0) [.set S.o,.set J.o,.gone,.gone,.gone]:=k1.pre ⟨.refl _,.svW xy_cw,trivial⟩
 have k3:Con PG 14 [.p 1 0,.l 2 0 2 2 1 true] [some S0.o,some J0.o,some (cellsO 38 [.sv 1 1 (oneB 120),.sv 1 1 (oneB 121)]),none,none] (.i .i64 0) [.set S.o,.set J.o,.gone,.gone,.gone]:=
  k2.thawZ 2 (z:=.cells 2 [.sv 1 1 (oneB 120),.sv 1 1 (oneB 121)]) (by kernel_rfl) ⟨.inl rfl,.inl rfl,rfl,.inl rfl,.inl rfl,trivial⟩ ⟨.inl rfl,.inr ⟨by kernel_rfl,by show 0+2*1≤2;decide,rfl⟩,trivial⟩ rfl
 have k4:Con PG 14 [.p 1 0,.l 2 0 2 2 1 true] [some S0.o,some J0.o,some (cellsO 38 [.l 3 0 1 1 1 true,.sv 1 1 (oneB 121)]),some (cellsO 5 [.i .u8 120]),none] (.i .i64 0) [.set S.o,.set J.o,.gone,.gone,.gone]:=
  k3.thawZ 3 (z:=.cells 1 [.i .u8 120]) (by kernel_rfl) ⟨.inl rfl,.inl rfl,.cells ⟨.inr ⟨by kernel_rfl,by show 0+1*1≤1;decide,rfl⟩,.inl rfl,trivial⟩,rfl,.inl rfl,trivial⟩ ⟨.inl rfl,.inl rfl,trivial⟩ rfl
 exact k4.thawZ 4 (z:=.cells 1 [.i .u8 121]) (by kernel_rfl) ⟨.inl rfl,.inl rfl,.cells ⟨.inl rfl,.inr ⟨by kernel_rfl,by show 0+1*1≤1;decide,rfl⟩,trivial⟩,.inl rfl,rfl,trivial⟩ ⟨.inl rfl,.inl rfl,trivial⟩ rfl
theorem aw4_con:Con PG 10 [.p 0 0] [some aw3S.o] (.tup [.p 1 0,.sv 1 2 (recF (fun _=>1) xyB),.i .i64 0]) [.keep,.set aw3J.o]:=by
 have h:=aw3
 refine h.open_con.post (.tup ⟨.refl _,.svW fun i j hi hj=>?_,.refl _,trivial⟩) (OVL.refl _)
 obtain rfl:j=0:=by omega
 show CW (.sv 1 (Jn.opM aw3S aw3J.area i) (byF (Jn.opB aw3S aw3J.area i))) (.sv 1 1 (byF (xyB i)))
 rw [h.opM hi]
 refine CW.sv fun i' j' hi' hj'=>.of ?_
 show CV.i .u8 (ofNat (Jn.opB aw3S aw3J.area i i'))=.i .u8 (ofNat (xyB i i'))
 rw [h.opB hi hi']
theorem aw5_con:Con PG 24 [.p 1 0,.sv 1 1129 fun x j=>List.getD [CV.i IntKind.u8 (0:Int)] j CV.p0] [some aw3S.o,some aw3J.o] (.i .i64 2) [.keep,.keep]:=
 (appendRange_con aw3J aw3S 1129 (fun _=>0) rfl (by decide)).pre ⟨.refl _,.sv fun i j hi hj=>by
   obtain rfl:j=0:=by omega
   exact Eq.refl _,trivial⟩
theorem awake_con:Con PG 11 [] [] (.b true) []:=by
 have g3:=gen_con aw3J aw3S
 rw [show aw3J.gen=2 from aw2V] at g3
 have r2:=room_con aw2J aw2S
 rw [show aw2J.room=56 from by show (60:Int)-ofNat (npF 2)-ofNat (npF 100)=56;rw [np2,np100];rfl] at r2
 have r3:=room_con aw3J aw3S
 rw [show aw3J.room=58 from by show (60:Int)-ofNat (sumP (fun _=>1) 2 0)=58;rw [s2one];rfl] at r3
 have c2:=recs_con aw2J aw2S
 have c3:=recs_con aw3J aw3S
 have hu:∀i,U8s 1 (byF (xyB i)):=fun i k _=>⟨xyB i k,rfl⟩
 exact con_of_run [] [] ((jaw_vc nS0 nJ0 aw1S aw1J aw2S aw2J aw3S aw3J aw3J _).mpr ⟨jbegin_con,trivial,gen_con nJ0 nS0,room_con nJ0 nS0,aw0_wr,aw1_con,⟨⟨rfl,by decide⟩,by decide,by decide,by decide⟩,aw2_con,r2,c2,aw3_con,g3,c3,r3,aw4_con,trivial,by decide,trivial,hu _,by decide,trivial,hu _,⟨⟨rfl,by decide⟩,by decide,by decide,by decide⟩,aw5_con,_,_,rfl,ret_k (by kernel_rfl)⟩)
end Go.Proofs.Jn
