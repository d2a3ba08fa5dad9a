/- Runs over unknown values, told by the kernel: part GI. -/
import Derived.Test.YtnnipmcdkcpndaaGreatGH
noncomputable section
open Int (ofNat)
set_option linter.unusedSimpArgs false
set_option linter.unusedVariables false
set_option maxRecDepth 20000
namespace Go.Proofs.Sv
open Go Go.Sim Go.Proofs Go.Proofs.Lk Go.Proofs.YtnnipmcdkcpndaaGreat
theorem mb0_vq (n m:Nat) (f g:Nat->Int) (e:Int) (w:Int->Int->Int->Bool) (s:Int) (h1:w e 1 1099511627776=false):VD PG 194 [.agg [.i .i64 e,isv n f,isv m g],.i .i64 s] [] (.cal [] (.b (w e 1 1099511627776)) [] (of_ 5 (oc 14 .z))) (.b false) [] [] 1 (fun Lf=>True/\Con PG 128 [.i .i64 e,.i .i64 1,.i .i64 1099511627776] [] (.b (w e 1 1099511627776)) []/\r5 (w e 1 1099511627776=false) (Lf)):=by unfold VD VQ;kernel_rfl
theorem mb1_vq (n m:Nat) (f g:Nat->Int) (e:Int) (w:Int->Int->Int->Bool) (ar:Nat->(Nat->Int)->Int->Bool) (s:Int) (h1:w e 1 1099511627776=true) (h2:ar n f s=false):VD PG 194 [.agg [.i .i64 e,isv n f,isv m g],.i .i64 s] [] (.cal [] (.b (w e 1 1099511627776)) [] (ot 4 (.cal [] (.b (ar n f s)) [] (.t (of_ 8 (oc 6 .z)))))) (.b false) [] [] 1 (fun Lf=>True/\Con PG 128 [.i .i64 e,.i .i64 1,.i .i64 1099511627776] [] (.b (w e 1 1099511627776)) []/\w e 1 1099511627776=true/\True/\r3 (w e 1 1099511627776=true) (Con PG 195 [isv n f,.i .i64 s] [] (.b (ar n f s)) []/\w e 1 1099511627776=true/\r2 (ar n f s=false) (r6 (ar n f s=false) (Lf)))):=by unfold VD VQ;kernel_rfl
theorem mb2_vq (n m:Nat) (f g:Nat->Int) (e:Int) (w:Int->Int->Int->Bool) (ar:Nat->(Nat->Int)->Int->Bool) (s:Int) (h1:w e 1 1099511627776=true) (h2:ar n f s=true) (h3:decide (ofNat m=ofNat n)=false):VD PG 194 [.agg [.i .i64 e,isv n f,isv m g],.i .i64 s] [] (.cal [] (.b (w e 1 1099511627776)) [] (ot 4 (.cal [] (.b (ar n f s)) [] (ot 9 (of_ 6 .z))))) (.b false) [] [] 1 (fun Lf=>True/\Con PG 128 [.i .i64 e,.i .i64 1,.i .i64 1099511627776] [] (.b (w e 1 1099511627776)) []/\w e 1 1099511627776=true/\True/\r3 (w e 1 1099511627776=true) (Con PG 195 [isv n f,.i .i64 s] [] (.b (ar n f s)) []/\w e 1 1099511627776=true/\ar n f s=true/\True/\r3 (ar n f s=true) (True/\r4 (ar n f s=true) (r6 (decide (ofNat m=ofNat n)=false) (Lf))))):=by unfold VD VQ;kernel_rfl
theorem mb3_vq (n m:Nat) (f g:Nat->Int) (e:Int) (w:Int->Int->Int->Bool) (ar:Nat->(Nat->Int)->Int->Bool) (an:Bool) (s:Int) (h1:w e 1 1099511627776=true) (h2:ar n f s=true) (h3:decide (ofNat m=ofNat n)=true):VD PG 194 [.agg [.i .i64 e,isv n f,isv m g],.i .i64 s] [] (.cal [] (.b (w e 1 1099511627776)) [] (ot 4 (.cal [] (.b (ar n f s)) [] (ot 13 (.cal [0] (.b an) [.keep] (.t (.t .z))))))) (.b !an) [] [] 1 (fun Lf=>True/\Con PG 128 [.i .i64 e,.i .i64 1,.i .i64 1099511627776] [] (.b (w e 1 1099511627776)) []/\w e 1 1099511627776=true/\True/\r3 (w e 1 1099511627776=true) (Con PG 195 [isv n f,.i .i64 s] [] (.b (ar n f s)) []/\w e 1 1099511627776=true/\ar n f s=true/\True/\r3 (ar n f s=true) (True/\r4 (ar n f s=true) (decide (ofNat m=ofNat n)=true/\True/\r3 (decide (ofNat m=ofNat n)=true) (Con PG 105 [isv m g,AV.fn (Fn.func 200) [] [.p 0 0]] [some (cfO e n m f g)] (.b an) [.keep]/\decide (ofNat m=ofNat n)=true/\True/\decide (ofNat m=ofNat n)=true/\Lf))))):=by unfold VD VQ;kernel_rfl
theorem mb_con (n m:Nat) (hn:n<=1152921504606846976) (hm:m<=1152921504606846976) (f g:Nat->Int) (e:Int):Con PG 194 [.agg [.i .i64 e,isv n f,isv m g],.i .i64 3] [] (.b (chB e n m f g)) []:=by
 unfold chB
 cases h1:wi e 1 1099511627776 with
 | false=>exact con_d (mb0_vq n m f g e wi 3 h1) (by repeat' first | exact trivial | exact w128_con _ _ _ | exact h1 | (simp only [h1];rfl) | exact rfl | apply And.intro)
 | true=>
   rw [Bool.true_and]
   cases h2:arB n f 3 with
   | false=>exact con_d (mb1_vq n m f g e wi arB 3 h1 h2) (by repeat' first | exact trivial | exact w128_con _ _ _ | exact ar_con n hn f 3 (by decide) | exact h1 | exact h2 | (simp only [h1,h2];rfl) | exact rfl | apply And.intro)
   | true=>
     rw [Bool.true_and]
     have hq:decide (m=n)=decide (ofNat m=ofNat n):=by
      by_cases c:m=n
      · subst c;simp
      · rw [decide_eq_false c,decide_eq_false fun q=>c (Int.ofNat.inj q)]
     rw [hq]
     cases h3:decide (ofNat m=ofNat n) with
     | false=>exact con_d (mb2_vq n m f g e wi arB 3 h1 h2 h3) (by repeat' first | exact trivial | exact w128_con _ _ _ | exact ar_con n hn f 3 (by decide) | exact h1 | exact h2 | exact h3 | (simp only [h1,h2,h3];rfl) | exact rfl | apply And.intro)
     | true=>exact con_d (mb3_vq n m f g e wi arB _ 3 h1 h2 h3) (by repeat' first | exact trivial | exact w128_con _ _ _ | exact ar_con n hn f 3 (by decide) | exact ig_con n m m hm f g g e | exact h1 | exact h2 | exact h3 | (simp only [h1,h2,h3];rfl) | exact rfl | apply And.intro)
def nxO (e:Int) (a b:AV):AObj:=cellsD 24 [.i .i64 0,.l0,.l0] [.i .i64 e,a,b]
def nx0:AObj:=.cells 24 3 [.i .i64 0,.l0,.l0] .e
def rwI (L:Nat) (F:Nat->Int):AObj:=.rows 3 1 L fun i _=>.i .i64 (F i)
def rwA (L:Nat) (F:Nat->Int) (v:Int):AObj:=.rows 3 1 (addN L 1) (appZ L (fun i _=>.i .i64 (F i)) (listF 1 [.i .i64 v] 1))
abbrev nxR (e:Int) (n m:Nat) (f g:Nat->Int) (L:Nat) (F G:Nat->Int):List (Option AObj):=[some (cfO e n m f g),some nx0,some (nxO (e+1) (.lr 3 1 0 L false) (.lr 4 1 0 L false)),some (rwI L F),some (rwI L G)]
abbrev nxA (e:Int) (n m:Nat) (f g:Nat->Int) (L:Nat) (F G:Nat->Int) (a b:Int):List (Option AObj):=[some (cfO e n m f g),some nx0,some (nxO (e+1) (.lr 3 1 0 (addN L 1) false) (.lr 4 1 0 (addN L 1) false)),some (rwA L F a),some (rwA L G b)]
theorem n1E_lq (n m k:Nat) (f g h:Nat->Int) (e:Int) (L:Nat) (F G:Nat->Int) (h1:decide (ofNat n<ofNat n)=false):LD PG (loopAt PG 178 0) 70 3 [(1,isv k h),(2,.p 0 0),(4,.p 1 0),(6,.p 2 0),(29,.p 0 1),(30,isv n f),(31,.i .i64 (ofNat n)),(32,.i .i64 (ofNat n))] [some (cfO e n m f g),some (.cells 24 3 [.i .i64 0,.l0,.l0] .e),some (.cells 24 3 [.i .i64 0,.l0,.l0] (.n (some (.i .i64 (e+1))) (.n (some (.lr 3 1 0 L false)) .e .e) (.n (some (.lr 4 1 0 L false)) .e .e))),some (.rows 3 1 L fun i _=>.i .i64 (F i)),some (.rows 3 1 L fun i _=>.i .i64 (G i))] (.f .z) (.exit 0) [0,1,2,3,4] [(1,isv k h),(2,.p 0 0),(4,.p 1 0),(6,.p 2 0)] [some (cfO e n m f g),some nx0,some (nxO (e+1) (.lr 3 1 0 L false) (.lr 4 1 0 L false)),some (rwI L F),some (rwI L G)] 5 (fun Lf=>decide (ofNat n<ofNat n)=false/\Lf):=by unfold LD LQ;kernel_rfl
theorem n1N_lq (n m k:Nat) (f g h:Nat->Int) (e:Int) (L:Nat) (F G:Nat->Int) (i:Nat) (h1:decide (ofNat i<ofNat n)=true) (h2:inB k h (f i)=false):LD PG (loopAt PG 178 0) 70 3 [(1,isv k h),(2,.p 0 0),(4,.p 1 0),(6,.p 2 0),(29,.p 0 1),(30,isv n f),(31,.i .i64 (ofNat n)),(32,.i .i64 (ofNat i))] [some (cfO e n m f g),some (.cells 24 3 [.i .i64 0,.l0,.l0] .e),some (.cells 24 3 [.i .i64 0,.l0,.l0] (.n (some (.i .i64 (e+1))) (.n (some (.lr 3 1 0 L false)) .e .e) (.n (some (.lr 4 1 0 L false)) .e .e))),some (.rows 3 1 L fun i _=>.i .i64 (F i)),some (.rows 3 1 L fun i _=>.i .i64 (G i))] (.t (.cal [] (.b (inB k h (f i))) [] (.f .z))) .nrm [0,1,2,3,4] [(1,isv k h),(2,.p 0 0),(4,.p 1 0),(6,.p 2 0),(29,.p 0 1),(30,isv n f),(31,.i .i64 (ofNat n)),(32,.i .i64 (ofNat i+1))] [some (cfO e n m f g),some nx0,some (nxO (e+1) (.lr 3 1 0 L false) (.lr 4 1 0 L false)),some (rwI L F),some (rwI L G)] 5 (fun Lf=>decide (ofNat i<ofNat n)=true/\(0<=ofNat i/\ofNat i<↑n)/\True/\Con PG 98 [isv k h,.i .i64 (f i)] [] (.b (inB k h (f i))) []/\inB k h (f i)=false/\rg (ofNat i+1)/\Lf):=by unfold LD LQ;kernel_rfl
theorem n1T_lq (n m k:Nat) (f g h:Nat->Int) (e:Int) (L:Nat) (F G:Nat->Int) (i:Nat) (h1:decide (ofNat i<ofNat n)=true) (h2:inB k h (f i)=true):LD PG (loopAt PG 178 0) 70 3 [(1,isv k h),(2,.p 0 0),(4,.p 1 0),(6,.p 2 0),(29,.p 0 1),(30,isv n f),(31,.i .i64 (ofNat n)),(32,.i .i64 (ofNat i))] [some (cfO e n m f g),some (.cells 24 3 [.i .i64 0,.l0,.l0] .e),some (.cells 24 3 [.i .i64 0,.l0,.l0] (.n (some (.i .i64 (e+1))) (.n (some (.lr 3 1 0 L false)) .e .e) (.n (some (.lr 4 1 0 L false)) .e .e))),some (.rows 3 1 L fun i _=>.i .i64 (F i)),some (.rows 3 1 L fun i _=>.i .i64 (G i))] (.t (.cal [] (.b (inB k h (f i))) [] (.t (.inl .z)))) .nrm [0,1,2,6,8] [(1,isv k h),(2,.p 0 0),(4,.p 1 0),(6,.p 2 0),(29,.p 0 1),(30,isv n f),(31,.i .i64 (ofNat n)),(32,.i .i64 (ofNat i+1))] [some (cfO e n m f g),some nx0,some (nxO (e+1) (.lr 3 1 0 (addN L 1) false) (.lr 4 1 0 (addN L 1) false)),some (rwA L F (f i)),some (rwA L G (g i))] 9 (fun Lf=>decide (ofNat i<ofNat n)=true/\(0<=ofNat i/\ofNat i<↑n)/\True/\Con PG 98 [isv k h,.i .i64 (f i)] [] (.b (inB k h (f i))) []/\inB k h (f i)=true/\True/\(0<=ofNat i/\ofNat i<↑m)/\True/\True/\(0+L<=L/\True/\L+1<=140737488355328/\(3*(L+1)+1536)*8<=562949953421312)/\True/\True/\(0+L<=L/\True/\L+1<=140737488355328/\(3*(L+1)+1536)*8<=562949953421312)/\True/\rg (ofNat i+1)/\Lf):=by unfold LD LQ;kernel_rfl
theorem n2E_lq (n m k:Nat) (f g h:Nat->Int) (e:Int) (L:Nat) (F G:Nat->Int) (h1:decide (ofNat k<ofNat k)=false):LD PG (loopAt PG 178 1) 70 3 [(2,.p 0 0),(4,.p 1 0),(6,.p 2 0),(53,isv k h),(54,.i .i64 (ofNat k)),(55,.i .i64 (ofNat k))] [some (cfO e n m f g),some (.cells 24 3 [.i .i64 0,.l0,.l0] .e),some (.cells 24 3 [.i .i64 0,.l0,.l0] (.n (some (.i .i64 (e+1))) (.n (some (.lr 3 1 0 L false)) .e .e) (.n (some (.lr 4 1 0 L false)) .e .e))),some (.rows 3 1 L fun i _=>.i .i64 (F i)),some (.rows 3 1 L fun i _=>.i .i64 (G i))] (.f .z) (.exit 2) [0,1,2,3,4] [(4,.p 1 0),(6,.p 2 0)] [some (cfO e n m f g),some nx0,some (nxO (e+1) (.lr 3 1 0 L false) (.lr 4 1 0 L false)),some (rwI L F),some (rwI L G)] 5 (fun Lf=>decide (ofNat k<ofNat k)=false/\Lf):=by unfold LD LQ;kernel_rfl
theorem n2N_lq (n m k:Nat) (f g h:Nat->Int) (e:Int) (L:Nat) (F G:Nat->Int) (i:Nat) (h1:decide (ofNat i<ofNat k)=true) (h2:inB n f (h i)=true):LD PG (loopAt PG 178 1) 70 3 [(2,.p 0 0),(4,.p 1 0),(6,.p 2 0),(53,isv k h),(54,.i .i64 (ofNat k)),(55,.i .i64 (ofNat i))] [some (cfO e n m f g),some (.cells 24 3 [.i .i64 0,.l0,.l0] .e),some (.cells 24 3 [.i .i64 0,.l0,.l0] (.n (some (.i .i64 (e+1))) (.n (some (.lr 3 1 0 L false)) .e .e) (.n (some (.lr 4 1 0 L false)) .e .e))),some (.rows 3 1 L fun i _=>.i .i64 (F i)),some (.rows 3 1 L fun i _=>.i .i64 (G i))] (.t (.cal [] (.b (inB n f (h i))) [] (.f .z))) .nrm [0,1,2,3,4] [(2,.p 0 0),(4,.p 1 0),(6,.p 2 0),(53,isv k h),(54,.i .i64 (ofNat k)),(55,.i .i64 (ofNat i+1))] [some (cfO e n m f g),some nx0,some (nxO (e+1) (.lr 3 1 0 L false) (.lr 4 1 0 L false)),some (rwI L F),some (rwI L G)] 5 (fun Lf=>decide (ofNat i<ofNat k)=true/\(0<=ofNat i/\ofNat i<↑k)/\True/\True/\Con PG 98 [isv n f,.i .i64 (h i)] [] (.b (inB n f (h i))) []/\True/\(!inB n f (h i))=false/\rg (ofNat i+1)/\Lf):=by unfold LD LQ;kernel_rfl
theorem n2T_lq (n m k:Nat) (f g h:Nat->Int) (e:Int) (L:Nat) (F G:Nat->Int) (i:Nat) (h1:decide (ofNat i<ofNat k)=true) (h2:inB n f (h i)=false):LD PG (loopAt PG 178 1) 70 3 [(2,.p 0 0),(4,.p 1 0),(6,.p 2 0),(53,isv k h),(54,.i .i64 (ofNat k)),(55,.i .i64 (ofNat i))] [some (cfO e n m f g),some (.cells 24 3 [.i .i64 0,.l0,.l0] .e),some (.cells 24 3 [.i .i64 0,.l0,.l0] (.n (some (.i .i64 (e+1))) (.n (some (.lr 3 1 0 L false)) .e .e) (.n (some (.lr 4 1 0 L false)) .e .e))),some (.rows 3 1 L fun i _=>.i .i64 (F i)),some (.rows 3 1 L fun i _=>.i .i64 (G i))] (.t (.cal [] (.b (inB n f (h i))) [] (.t (.inl .z)))) .nrm [0,1,2,6,8] [(2,.p 0 0),(4,.p 1 0),(6,.p 2 0),(53,isv k h),(54,.i .i64 (ofNat k)),(55,.i .i64 (ofNat i+1))] [some (cfO e n m f g),some nx0,some (nxO (e+1) (.lr 3 1 0 (addN L 1) false) (.lr 4 1 0 (addN L 1) false)),some (rwA L F (h i)),some (rwA L G (e+1))] 9 (fun Lf=>decide (ofNat i<ofNat k)=true/\(0<=ofNat i/\ofNat i<↑k)/\True/\True/\Con PG 98 [isv n f,.i .i64 (h i)] [] (.b (inB n f (h i))) []/\True/\(!inB n f (h i))=true/\True/\True/\(0+L<=L/\True/\L+1<=140737488355328/\(3*(L+1)+1536)*8<=562949953421312)/\True/\True/\(0+L<=L/\True/\L+1<=140737488355328/\(3*(L+1)+1536)*8<=562949953421312)/\True/\rg (ofNat i+1)/\Lf):=by unfold LD LQ;kernel_rfl
abbrev Pq2:=Int×Int
def pA (l:List Pq2) (j:Nat):Int:=(l.getD j (0,0)).1
def pB (l:List Pq2) (j:Nat):Int:=(l.getD j (0,0)).2
theorem pA_app (l:List Pq2) (x:Pq2) (i:Nat) (hi:i<addN l.length 1):pA (l ++ [x]) i=if i<l.length then pA l i else x.1:=by
 rw [addN_eq] at hi
 unfold pA
 by_cases c:i<l.length
 · rw [if_pos c];simp [List.getD_eq_getElem?_getD,List.getElem?_append,c]
 · obtain rfl:i=l.length:=by omega
   rw [if_neg c];simp [List.getD_eq_getElem?_getD,List.getElem?_append]
theorem pB_app (l:List Pq2) (x:Pq2) (i:Nat) (hi:i<addN l.length 1):pB (l ++ [x]) i=if i<l.length then pB l i else x.2:=by
 rw [addN_eq] at hi
 unfold pB
 by_cases c:i<l.length
 · rw [if_pos c];simp [List.getD_eq_getElem?_getD,List.getElem?_append,c]
 · obtain rfl:i=l.length:=by omega
   rw [if_neg c];simp [List.getD_eq_getElem?_getD,List.getElem?_append]
theorem rwA_ov (L:Nat) (F F':Nat->Int) (v:Int) (h:∀i,i<addN L 1->F' i=if i<L then F i else v):OV (some (rwA L F v)) (some (rwI (addN L 1) F')):=by
 unfold rwA rwI
 refine OV.rowsW fun i j hi hj=>?_
 obtain rfl:j=0:=by omega
 have hi2:i<L+1:=by rw [addN_eq] at hi;exact hi
 rw [h i hi,show appZ L (fun i _=>CV.i .i64 (F i)) (listF 1 [.i .i64 v] 1) i 0=.i .i64 (if i<L then F i else v) from ?_]
 · exact CW.refl _
 · exact appZ_i (k:=.i64) (a:=F i) (b:=v) rfl rfl
theorem nxA_ov (e:Int) (n m:Nat) (f g:Nat->Int) (l:List Pq2) (x:Pq2):OVL (nxA e n m f g l.length (pA l) (pB l) x.1 x.2) (nxR e n m f g (l ++ [x]).length (pA (l ++ [x])) (pB (l ++ [x]))):=by
 have e3:(l ++ [x]).length=addN l.length 1:=by rw [addN_eq];simp
 rw [e3]
 exact ⟨.refl _,.refl _,.refl _,rwA_ov _ _ _ _ (pA_app l x),rwA_ov _ _ _ _ (pB_app l x),trivial⟩
abbrev n1L (k n:Nat) (h f:Nat->Int) (i:Nat):List (Nat×AV):=[(1,isv k h),(2,.p 0 0),(4,.p 1 0),(6,.p 2 0),(29,.p 0 1),(30,isv n f),(31,.i .i64 (ofNat n)),(32,.i .i64 (ofNat i))]
theorem n1_lp (n k:Nat) (hn:n<=3) (hk:k<=3) (f g h:Nat->Int) (e:Int) (T:List Pq2) (hT:pkN (inB k h) f g n 0=T) :
 LDoes PG (loopAt PG 178 0) 70 3 (mkT (n1L k n h f 0)) (nxR e n n f g 0 (pA []) (pB [])) (.exit 0) (mkT [(1,isv k h),(2,.p 0 0),(4,.p 1 0),(6,.p 2 0)]) (nxR e n n f g T.length (pA T) (pB T)):=by
 refine loop_q (D:=Nat×List Pq2) (fun d=>(n1L k n h f d.1,nxR e n n f g d.2.length (pA d.2) (pB d.2))) (fun d=>n-d.1) (fun d=>d.1<=n/\d.2.length<=d.1/\d.2 ++ pkN (inB k h) f g (n-d.1) d.1=T) (fun _=>by simp) ?_ (0,[]) ⟨Nat.zero_le _,Nat.le_refl _,hT⟩
 rintro ⟨i,l⟩ ⟨hi,hl,hp⟩
 dsimp only at hi hl hp
 rcases Nat.lt_or_ge i n with hlt | q
 · have h1:decide (ofNat i<ofNat n)=true:=decide_eq_true (by simp;omega)
   have bi:(0:Int)<=ofNat i/\ofNat i<(↑n:Int):=⟨by simp,by simp;omega⟩
   have ri:(-9223372036854775808:Int)<=ofNat i+1/\ofNat i+1<=(9223372036854775807:Int):=⟨by simp<;>omega,by simp<;>omega⟩
   have rl:0+l.length<=l.length/\True/\l.length+1<=140737488355328/\(3*(l.length+1)+1536)*8<=562949953421312:=⟨by omega,trivial,by omega,by omega⟩
   rw [show n-i=(n-(i+1))+1 by omega] at hp
   unfold pkN at hp
   cases h2:inB k h (f i) with
   | false=>
     rw [h2,cond_false] at hp
     exact rd_nrm (n1N_lq n n k f g h e l.length (pA l) (pB l) i h1 h2) (by repeat' first | exact trivial | assumption | exact ixc_con k (by omega) h (f i) | exact rfl | apply And.intro) (i+1,l) ⟨hlt,by dsimp only;omega,hp⟩ (by show n-(i+1)<n-i;omega) rfl (.refl _) (.refl _)
   | true=>
     rw [h2,cond_true] at hp
     exact rd_nrm (n1T_lq n n k f g h e l.length (pA l) (pB l) i h1 h2) (by repeat' first | exact trivial | assumption | exact ixc_con k (by omega) h (f i) | exact rfl | apply And.intro) (i+1,l ++ [(f i,g i)]) ⟨hlt,by simp;omega,by rw [List.append_assoc];exact hp⟩ (by show n-(i+1)<n-i;omega) rfl (.refl _) (nxA_ov e n n f g l (f i,g i))
 · obtain rfl:i=n:=by omega
   rw [show i-i=0 by omega] at hp
   have hp:l=T:=by simpa [pkN] using hp
   subst hp
   exact rd_out (n1E_lq i i k f g h e l.length (pA l) (pB l) (decide_eq_false (by simp))) (by repeat' first | exact trivial | exact decide_eq_false (by simp) | exact rfl | apply And.intro) rfl rfl (.refl _) (.refl _)
theorem n1_lp0 (n k:Nat) (hn:n<=3) (hk:k<=3) (f g h:Nat->Int) (e:Int) (T:List Pq2) (hT:pkN (inB k h) f g n 0=T) :
 LDoes PG (loopAt PG 178 0) 70 3 (mkT (n1L k n h f 0)) [some (cfO e n n f g),some nx0,some (nxO (e+1) .l0 .l0)] (.exit 0) (mkT [(1,isv k h),(2,.p 0 0),(4,.p 1 0),(6,.p 2 0)]) (nxR e n n f g T.length (pA T) (pB T)):=by
 refine (n1_lp n k hn hk f g h e T hT).weak (.refl _) ⟨.refl _,.refl _,OW.cellsD ⟨.inl rfl,.inr ⟨rfl,.inl ⟨_,_,_,_,rfl⟩⟩,.inr ⟨rfl,.inl ⟨_,_,_,_,rfl⟩⟩,trivial⟩,?_⟩
 intro o ho
 simp at ho
 rcases ho with rfl | rfl<;>exact ⟨_,rfl,rfl⟩
abbrev n2L (k:Nat) (h:Nat->Int) (i:Nat):List (Nat×AV):=[(2,.p 0 0),(4,.p 1 0),(6,.p 2 0),(53,isv k h),(54,.i .i64 (ofNat k)),(55,.i .i64 (ofNat i))]
theorem n2_lp (n k:Nat) (hn:n<=3) (hk:k<=3) (f g h:Nat->Int) (e:Int) (l0:List Pq2) (h0:l0.length<=3) (T:List Pq2) (hT:l0 ++ pkN (fun v=>!inB n f v) h (fun _=>e+1) k 0=T) :
 LDoes PG (loopAt PG 178 1) 70 3 (mkT (n2L k h 0)) (nxR e n n f g l0.length (pA l0) (pB l0)) (.exit 2) (mkT [(4,.p 1 0),(6,.p 2 0)]) (nxR e n n f g T.length (pA T) (pB T)):=by
 refine loop_q (D:=Nat×List Pq2) (fun d=>(n2L k h d.1,nxR e n n f g d.2.length (pA d.2) (pB d.2))) (fun d=>k-d.1) (fun d=>d.1<=k/\d.2.length<=d.1+3/\d.2 ++ pkN (fun v=>!inB n f v) h (fun _=>e+1) (k-d.1) d.1=T) (fun _=>by simp) ?_ (0,l0) ⟨Nat.zero_le _,by simpa using h0,hT⟩
 rintro ⟨i,l⟩ ⟨hi,hl,hp⟩
 dsimp only at hi hl hp
 rcases Nat.lt_or_ge i k with hlt | q
 · have h1:decide (ofNat i<ofNat k)=true:=decide_eq_true (by simp;omega)
   have bi:(0:Int)<=ofNat i/\ofNat i<(↑k:Int):=⟨by simp,by simp;omega⟩
   have ri:(-9223372036854775808:Int)<=ofNat i+1/\ofNat i+1<=(9223372036854775807:Int):=⟨by simp<;>omega,by simp<;>omega⟩
   have rl:0+l.length<=l.length/\True/\l.length+1<=140737488355328/\(3*(l.length+1)+1536)*8<=562949953421312:=⟨by omega,trivial,by omega,by omega⟩
   rw [show k-i=(k-(i+1))+1 by omega] at hp
   unfold pkN at hp
   cases h2:inB n f (h i) with
   | true=>
     rw [h2,Bool.not_true,cond_false] at hp
     exact rd_nrm (n2N_lq n n k f g h e l.length (pA l) (pB l) i h1 h2) (by repeat' first | exact trivial | assumption | exact ixc_con n (by omega) f (h i) | (simp only [h2];rfl) | exact rfl | apply And.intro) (i+1,l) ⟨hlt,by dsimp only;omega,hp⟩ (by show k-(i+1)<k-i;omega) rfl (.refl _) (.refl _)
   | false=>
     rw [h2,Bool.not_false,cond_true] at hp
     exact rd_nrm (n2T_lq n n k f g h e l.length (pA l) (pB l) i h1 h2) (by repeat' first | exact trivial | assumption | exact ixc_con n (by omega) f (h i) | (simp only [h2];rfl) | exact rfl | apply And.intro) (i+1,l ++ [(h i,e+1)]) ⟨hlt,by simp;omega,by rw [List.append_assoc];exact hp⟩ (by show k-(i+1)<k-i;omega) rfl (.refl _) (nxA_ov e n n f g l (h i,e+1))
 · obtain rfl:i=k:=by omega
   rw [show i-i=0 by omega] at hp
   have hp:l=T:=by simpa [pkN] using hp
   subst hp
   exact rd_out (n2E_lq n n i f g h e l.length (pA l) (pB l) (decide_eq_false (by simp))) (by repeat' first | exact trivial | exact decide_eq_false (by simp) | exact rfl | apply And.intro) rfl rfl (.refl _) (.refl _)
theorem ag_f {b:Mb} {c:Cm} (h:agB b c=false) (h2:decide (c.bt=b.x 4)=true):decide (c.sq=b.x 5)=false:=by
 unfold agB at h;rw [h2,Bool.true_and] at h;exact h
theorem apk1 (s:LS) (c:Cm) (u w:LS) (e pe:Int) (v:Mb) (st:Bool) (h1:st=false) (h4:decide (pe=0)=true) (hps:Con PG 88 [.p 0 0,.i .i64 c.d] [some (tsO s.ts)] (.i .i64 pe) [.set (tsO u.ts)]) (i:Nat) (hi:i<3)
 (hs:Con PG 89 [.agg (mbL (s.r.s i)),cmI c 1 (ofNat i) c.ot] [] (.b st) []) (hd:Con PG 132 [.p 0 0,cmI c 1 (ofNat i) c.ot] [some (tsO (sL u i (bsM (u.r.s i) c.bt c.sq)).ts)] (.i .i64 e) [.set (tsO w.ts)])
 (hv:Con PG 91 [.p 0 0,.i .i64 (ofNat i),.i .i64 e] [some (tsO w.ts)] (.agg (vwL v)) [.keep]) (hv2:Con PG 91 [.p 0 0,.i .i64 (ofNat i),.i .i64 e] [some (tsO (sL w i (ansM (w.r.s i) v)).ts)] (.agg (vwL v)) [.keep]) (hag:agB (s.r.s i) c=false) :
 Con PG 41 [.p 0 0,cmI c 1 (ofNat i) c.ot] [some (tsO s.ts)] (.agg (vwL v)) [.set (tsO (sL w i (ansM (w.r.s i) v)).ts)]:=by
 cases h2:decide (c.bt=(s.r.s i).x 4) with
 | false=>
   match i,hi,hs,hd,hv,hv2,h2 with
   | 0,_,hs,hd,hv,hv2,h2=>exact con_d (ap01a_vq s.ts c u.ts w.ts pe e c.ot v st h1 h2 h4) ⟨trivial,trivial,trivial,hs,h1,trivial,trivial,h2,h2,h2,h2,h2,h2,h2,h2,trivial,hps,nT h4,trivial,trivial,trivial,trivial,trivial,hd,trivial,hv,trivial,trivial,hv2,rfl⟩
   | 1,_,hs,hd,hv,hv2,h2=>exact con_d (ap11a_vq s.ts c u.ts w.ts pe e c.ot v st h1 h2 h4) ⟨trivial,trivial,trivial,hs,h1,trivial,trivial,h2,h2,h2,h2,h2,h2,h2,h2,trivial,hps,nT h4,trivial,trivial,trivial,trivial,trivial,hd,trivial,hv,trivial,trivial,hv2,rfl⟩
   | 2,_,hs,hd,hv,hv2,h2=>exact con_d (ap21a_vq s.ts c u.ts w.ts pe e c.ot v st h1 h2 h4) ⟨trivial,trivial,trivial,hs,h1,trivial,trivial,h2,h2,h2,h2,h2,h2,h2,h2,trivial,hps,nT h4,trivial,trivial,trivial,trivial,trivial,hd,trivial,hv,trivial,trivial,hv2,rfl⟩
 | true=>
   have h3:=ag_f hag h2
   match i,hi,hs,hd,hv,hv2,h2,h3 with
   | 0,_,hs,hd,hv,hv2,h2,h3=>exact con_d (ap01b_vq s.ts c u.ts w.ts pe e c.ot v st h1 h2 h3 h4) ⟨trivial,trivial,trivial,hs,h1,trivial,trivial,h2,trivial,h2,h2,h2,h2,trivial,h2,h2,h2,h3,trivial,hps,nT h4,trivial,trivial,trivial,trivial,trivial,hd,trivial,hv,trivial,trivial,hv2,rfl⟩
   | 1,_,hs,hd,hv,hv2,h2,h3=>exact con_d (ap11b_vq s.ts c u.ts w.ts pe e c.ot v st h1 h2 h3 h4) ⟨trivial,trivial,trivial,hs,h1,trivial,trivial,h2,trivial,h2,h2,h2,h2,trivial,h2,h2,h2,h3,trivial,hps,nT h4,trivial,trivial,trivial,trivial,trivial,hd,trivial,hv,trivial,trivial,hv2,rfl⟩
   | 2,_,hs,hd,hv,hv2,h2,h3=>exact con_d (ap21b_vq s.ts c u.ts w.ts pe e c.ot v st h1 h2 h3 h4) ⟨trivial,trivial,trivial,hs,h1,trivial,trivial,h2,trivial,h2,h2,h2,h2,trivial,h2,h2,h2,h3,trivial,hps,nT h4,trivial,trivial,trivial,trivial,trivial,hd,trivial,hv,trivial,trivial,hv2,rfl⟩
theorem apk2 (s:LS) (c:Cm) (u w:LS) (e pe:Int) (v:Mb) (st:Bool) (h1:st=false) (h4:decide (pe=0)=true) (hps:Con PG 88 [.p 0 0,.i .i64 c.d] [some (tsO s.ts)] (.i .i64 pe) [.set (tsO u.ts)]) (i:Nat) (hi:i<3)
 (hs:Con PG 89 [.agg (mbL (s.r.s i)),cmI c 2 (ofNat i) c.ot] [] (.b st) []) (hd:Con PG 173 [.p 0 0,cmI c 2 (ofNat i) c.ot,.p 1 0] [some (tsO (sL u i (bsM (u.r.s i) c.bt c.sq)).ts),some (fnO 134)] (.i .i64 e) [.set (tsO w.ts),.keep])
 (hv:Con PG 91 [.p 0 0,.i .i64 (ofNat i),.i .i64 e] [some (tsO w.ts)] (.agg (vwL v)) [.keep]) (hv2:Con PG 91 [.p 0 0,.i .i64 (ofNat i),.i .i64 e] [some (tsO (sL w i (ansM (w.r.s i) v)).ts)] (.agg (vwL v)) [.keep]) (hag:agB (s.r.s i) c=false) :
 Con PG 41 [.p 0 0,cmI c 2 (ofNat i) c.ot] [some (tsO s.ts)] (.agg (vwL v)) [.set (tsO (sL w i (ansM (w.r.s i) v)).ts)]:=by
 cases h2:decide (c.bt=(s.r.s i).x 4) with
 | false=>
   match i,hi,hs,hd,hv,hv2,h2 with
   | 0,_,hs,hd,hv,hv2,h2=>exact con_d (ap02a_vq s.ts c u.ts w.ts pe e c.ot v st h1 h2 h4) ⟨trivial,trivial,trivial,hs,h1,trivial,trivial,h2,h2,h2,h2,h2,h2,h2,h2,trivial,hps,nT h4,trivial,trivial,trivial,trivial,trivial,hd,trivial,hv,trivial,trivial,hv2,rfl⟩
   | 1,_,hs,hd,hv,hv2,h2=>exact con_d (ap12a_vq s.ts c u.ts w.ts pe e c.ot v st h1 h2 h4) ⟨trivial,trivial,trivial,hs,h1,trivial,trivial,h2,h2,h2,h2,h2,h2,h2,h2,trivial,hps,nT h4,trivial,trivial,trivial,trivial,trivial,hd,trivial,hv,trivial,trivial,hv2,rfl⟩
   | 2,_,hs,hd,hv,hv2,h2=>exact con_d (ap22a_vq s.ts c u.ts w.ts pe e c.ot v st h1 h2 h4) ⟨trivial,trivial,trivial,hs,h1,trivial,trivial,h2,h2,h2,h2,h2,h2,h2,h2,trivial,hps,nT h4,trivial,trivial,trivial,trivial,trivial,hd,trivial,hv,trivial,trivial,hv2,rfl⟩
 | true=>
   have h3:=ag_f hag h2
   match i,hi,hs,hd,hv,hv2,h2,h3 with
   | 0,_,hs,hd,hv,hv2,h2,h3=>exact con_d (ap02b_vq s.ts c u.ts w.ts pe e c.ot v st h1 h2 h3 h4) ⟨trivial,trivial,trivial,hs,h1,trivial,trivial,h2,trivial,h2,h2,h2,h2,trivial,h2,h2,h2,h3,trivial,hps,nT h4,trivial,trivial,trivial,trivial,trivial,hd,trivial,hv,trivial,trivial,hv2,rfl⟩
   | 1,_,hs,hd,hv,hv2,h2,h3=>exact con_d (ap12b_vq s.ts c u.ts w.ts pe e c.ot v st h1 h2 h3 h4) ⟨trivial,trivial,trivial,hs,h1,trivial,trivial,h2,trivial,h2,h2,h2,h2,trivial,h2,h2,h2,h3,trivial,hps,nT h4,trivial,trivial,trivial,trivial,trivial,hd,trivial,hv,trivial,trivial,hv2,rfl⟩
   | 2,_,hs,hd,hv,hv2,h2,h3=>exact con_d (ap22b_vq s.ts c u.ts w.ts pe e c.ot v st h1 h2 h3 h4) ⟨trivial,trivial,trivial,hs,h1,trivial,trivial,h2,trivial,h2,h2,h2,h2,trivial,h2,h2,h2,h3,trivial,hps,nT h4,trivial,trivial,trivial,trivial,trivial,hd,trivial,hv,trivial,trivial,hv2,rfl⟩
theorem apk3 (s:LS) (c:Cm) (u w:LS) (e pe:Int) (v:Mb) (st:Bool) (h1:st=false) (h4:decide (pe=0)=true) (hps:Con PG 88 [.p 0 0,.i .i64 c.d] [some (tsO s.ts)] (.i .i64 pe) [.set (tsO u.ts)]) (i:Nat) (hi:i<3)
 (hs:Con PG 89 [.agg (mbL (s.r.s i)),cmI c 3 (ofNat i) c.ot] [] (.b st) []) (hd:Con PG 173 [.p 0 0,cmI c 3 (ofNat i) c.ot,.p 1 0] [some (tsO (sL u i (bsM (u.r.s i) c.bt c.sq)).ts),some (fnO 135)] (.i .i64 e) [.set (tsO w.ts),.keep])
 (hv:Con PG 91 [.p 0 0,.i .i64 (ofNat i),.i .i64 e] [some (tsO w.ts)] (.agg (vwL v)) [.keep]) (hv2:Con PG 91 [.p 0 0,.i .i64 (ofNat i),.i .i64 e] [some (tsO (sL w i (ansM (w.r.s i) v)).ts)] (.agg (vwL v)) [.keep]) (hag:agB (s.r.s i) c=false) :
 Con PG 41 [.p 0 0,cmI c 3 (ofNat i) c.ot] [some (tsO s.ts)] (.agg (vwL v)) [.set (tsO (sL w i (ansM (w.r.s i) v)).ts)]:=by
 cases h2:decide (c.bt=(s.r.s i).x 4) with
 | false=>
   match i,hi,hs,hd,hv,hv2,h2 with
   | 0,_,hs,hd,hv,hv2,h2=>exact con_d (ap03a_vq s.ts c u.ts w.ts pe e c.ot v st h1 h2 h4) ⟨trivial,trivial,trivial,hs,h1,trivial,trivial,h2,h2,h2,h2,h2,h2,h2,h2,trivial,hps,nT h4,trivial,trivial,trivial,trivial,trivial,hd,trivial,hv,trivial,trivial,hv2,rfl⟩
   | 1,_,hs,hd,hv,hv2,h2=>exact con_d (ap13a_vq s.ts c u.ts w.ts pe e c.ot v st h1 h2 h4) ⟨trivial,trivial,trivial,hs,h1,trivial,trivial,h2,h2,h2,h2,h2,h2,h2,h2,trivial,hps,nT h4,trivial,trivial,trivial,trivial,trivial,hd,trivial,hv,trivial,trivial,hv2,rfl⟩
   | 2,_,hs,hd,hv,hv2,h2=>exact con_d (ap23a_vq s.ts c u.ts w.ts pe e c.ot v st h1 h2 h4) ⟨trivial,trivial,trivial,hs,h1,trivial,trivial,h2,h2,h2,h2,h2,h2,h2,h2,trivial,hps,nT h4,trivial,trivial,trivial,trivial,trivial,hd,trivial,hv,trivial,trivial,hv2,rfl⟩
 | true=>
   have h3:=ag_f hag h2
   match i,hi,hs,hd,hv,hv2,h2,h3 with
   | 0,_,hs,hd,hv,hv2,h2,h3=>exact con_d (ap03b_vq s.ts c u.ts w.ts pe e c.ot v st h1 h2 h3 h4) ⟨trivial,trivial,trivial,hs,h1,trivial,trivial,h2,trivial,h2,h2,h2,h2,trivial,h2,h2,h2,h3,trivial,hps,nT h4,trivial,trivial,trivial,trivial,trivial,hd,trivial,hv,trivial,trivial,hv2,rfl⟩
   | 1,_,hs,hd,hv,hv2,h2,h3=>exact con_d (ap13b_vq s.ts c u.ts w.ts pe e c.ot v st h1 h2 h3 h4) ⟨trivial,trivial,trivial,hs,h1,trivial,trivial,h2,trivial,h2,h2,h2,h2,trivial,h2,h2,h2,h3,trivial,hps,nT h4,trivial,trivial,trivial,trivial,trivial,hd,trivial,hv,trivial,trivial,hv2,rfl⟩
   | 2,_,hs,hd,hv,hv2,h2,h3=>exact con_d (ap23b_vq s.ts c u.ts w.ts pe e c.ot v st h1 h2 h3 h4) ⟨trivial,trivial,trivial,hs,h1,trivial,trivial,h2,trivial,h2,h2,h2,h2,trivial,h2,h2,h2,h3,trivial,hps,nT h4,trivial,trivial,trivial,trivial,trivial,hd,trivial,hv,trivial,trivial,hv2,rfl⟩
theorem apk4 (s:LS) (c:Cm) (u w:LS) (e pe:Int) (v:Mb) (st:Bool) (h1:st=false) (h4:decide (pe=0)=true) (hps:Con PG 88 [.p 0 0,.i .i64 c.d] [some (tsO s.ts)] (.i .i64 pe) [.set (tsO u.ts)]) (i:Nat) (hi:i<3)
 (hs:Con PG 89 [.agg (mbL (s.r.s i)),cmI c 4 (ofNat i) c.ot] [] (.b st) []) (hd:Con PG 173 [.p 0 0,cmI c 4 (ofNat i) c.ot,.p 1 0] [some (tsO (sL u i (bsM (u.r.s i) c.bt c.sq)).ts),some (fnO 136)] (.i .i64 e) [.set (tsO w.ts),.keep])
 (hv:Con PG 91 [.p 0 0,.i .i64 (ofNat i),.i .i64 e] [some (tsO w.ts)] (.agg (vwL v)) [.keep]) (hv2:Con PG 91 [.p 0 0,.i .i64 (ofNat i),.i .i64 e] [some (tsO (sL w i (ansM (w.r.s i) v)).ts)] (.agg (vwL v)) [.keep]) (hag:agB (s.r.s i) c=false) :
 Con PG 41 [.p 0 0,cmI c 4 (ofNat i) c.ot] [some (tsO s.ts)] (.agg (vwL v)) [.set (tsO (sL w i (ansM (w.r.s i) v)).ts)]:=by
 cases h2:decide (c.bt=(s.r.s i).x 4) with
 | false=>
   match i,hi,hs,hd,hv,hv2,h2 with
   | 0,_,hs,hd,hv,hv2,h2=>exact con_d (ap04a_vq s.ts c u.ts w.ts pe e c.ot v st h1 h2 h4) ⟨trivial,trivial,trivial,hs,h1,trivial,trivial,h2,h2,h2,h2,h2,h2,h2,h2,trivial,hps,nT h4,trivial,trivial,trivial,trivial,trivial,hd,trivial,hv,trivial,trivial,hv2,rfl⟩
   | 1,_,hs,hd,hv,hv2,h2=>exact con_d (ap14a_vq s.ts c u.ts w.ts pe e c.ot v st h1 h2 h4) ⟨trivial,trivial,trivial,hs,h1,trivial,trivial,h2,h2,h2,h2,h2,h2,h2,h2,trivial,hps,nT h4,trivial,trivial,trivial,trivial,trivial,hd,trivial,hv,trivial,trivial,hv2,rfl⟩
   | 2,_,hs,hd,hv,hv2,h2=>exact con_d (ap24a_vq s.ts c u.ts w.ts pe e c.ot v st h1 h2 h4) ⟨trivial,trivial,trivial,hs,h1,trivial,trivial,h2,h2,h2,h2,h2,h2,h2,h2,trivial,hps,nT h4,trivial,trivial,trivial,trivial,trivial,hd,trivial,hv,trivial,trivial,hv2,rfl⟩
 | true=>
   have h3:=ag_f hag h2
   match i,hi,hs,hd,hv,hv2,h2,h3 with
   | 0,_,hs,hd,hv,hv2,h2,h3=>exact con_d (ap04b_vq s.ts c u.ts w.ts pe e c.ot v st h1 h2 h3 h4) ⟨trivial,trivial,trivial,hs,h1,trivial,trivial,h2,trivial,h2,h2,h2,h2,trivial,h2,h2,h2,h3,trivial,hps,nT h4,trivial,trivial,trivial,trivial,trivial,hd,trivial,hv,trivial,trivial,hv2,rfl⟩
   | 1,_,hs,hd,hv,hv2,h2,h3=>exact con_d (ap14b_vq s.ts c u.ts w.ts pe e c.ot v st h1 h2 h3 h4) ⟨trivial,trivial,trivial,hs,h1,trivial,trivial,h2,trivial,h2,h2,h2,h2,trivial,h2,h2,h2,h3,trivial,hps,nT h4,trivial,trivial,trivial,trivial,trivial,hd,trivial,hv,trivial,trivial,hv2,rfl⟩
   | 2,_,hs,hd,hv,hv2,h2,h3=>exact con_d (ap24b_vq s.ts c u.ts w.ts pe e c.ot v st h1 h2 h3 h4) ⟨trivial,trivial,trivial,hs,h1,trivial,trivial,h2,trivial,h2,h2,h2,h2,trivial,h2,h2,h2,h3,trivial,hps,nT h4,trivial,trivial,trivial,trivial,trivial,hd,trivial,hv,trivial,trivial,hv2,rfl⟩
theorem apk5 (s:LS) (c:Cm) (u w:LS) (e pe:Int) (v:Mb) (st:Bool) (h1:st=false) (h4:decide (pe=0)=true) (hps:Con PG 88 [.p 0 0,.i .i64 c.d] [some (tsO s.ts)] (.i .i64 pe) [.set (tsO u.ts)]) (i:Nat) (hi:i<3)
 (hs:Con PG 89 [.agg (mbL (s.r.s i)),cmI c 5 (ofNat i) c.ot] [] (.b st) []) (hd:Con PG 180 [.p 0 0,cmI c 5 (ofNat i) c.ot,.p 1 0] [some (tsO (sL u i (bsM (u.r.s i) c.bt c.sq)).ts),some (fnO 139)] (.i .i64 e) [.set (tsO w.ts),.keep])
 (hv:Con PG 91 [.p 0 0,.i .i64 (ofNat i),.i .i64 e] [some (tsO w.ts)] (.agg (vwL v)) [.keep]) (hv2:Con PG 91 [.p 0 0,.i .i64 (ofNat i),.i .i64 e] [some (tsO (sL w i (ansM (w.r.s i) v)).ts)] (.agg (vwL v)) [.keep]) (hag:agB (s.r.s i) c=false) :
 Con PG 41 [.p 0 0,cmI c 5 (ofNat i) c.ot] [some (tsO s.ts)] (.agg (vwL v)) [.set (tsO (sL w i (ansM (w.r.s i) v)).ts)]:=by
 cases h2:decide (c.bt=(s.r.s i).x 4) with
 | false=>
   match i,hi,hs,hd,hv,hv2,h2 with
   | 0,_,hs,hd,hv,hv2,h2=>exact con_d (ap05a_vq s.ts c u.ts w.ts pe e c.ot v st h1 h2 h4) ⟨trivial,trivial,trivial,hs,h1,trivial,trivial,h2,h2,h2,h2,h2,h2,h2,h2,trivial,hps,nT h4,trivial,trivial,trivial,trivial,trivial,hd,trivial,hv,trivial,trivial,hv2,rfl⟩
   | 1,_,hs,hd,hv,hv2,h2=>exact con_d (ap15a_vq s.ts c u.ts w.ts pe e c.ot v st h1 h2 h4) ⟨trivial,trivial,trivial,hs,h1,trivial,trivial,h2,h2,h2,h2,h2,h2,h2,h2,trivial,hps,nT h4,trivial,trivial,trivial,trivial,trivial,hd,trivial,hv,trivial,trivial,hv2,rfl⟩
   | 2,_,hs,hd,hv,hv2,h2=>exact con_d (ap25a_vq s.ts c u.ts w.ts pe e c.ot v st h1 h2 h4) ⟨trivial,trivial,trivial,hs,h1,trivial,trivial,h2,h2,h2,h2,h2,h2,h2,h2,trivial,hps,nT h4,trivial,trivial,trivial,trivial,trivial,hd,trivial,hv,trivial,trivial,hv2,rfl⟩
 | true=>
   have h3:=ag_f hag h2
   match i,hi,hs,hd,hv,hv2,h2,h3 with
   | 0,_,hs,hd,hv,hv2,h2,h3=>exact con_d (ap05b_vq s.ts c u.ts w.ts pe e c.ot v st h1 h2 h3 h4) ⟨trivial,trivial,trivial,hs,h1,trivial,trivial,h2,trivial,h2,h2,h2,h2,trivial,h2,h2,h2,h3,trivial,hps,nT h4,trivial,trivial,trivial,trivial,trivial,hd,trivial,hv,trivial,trivial,hv2,rfl⟩
   | 1,_,hs,hd,hv,hv2,h2,h3=>exact con_d (ap15b_vq s.ts c u.ts w.ts pe e c.ot v st h1 h2 h3 h4) ⟨trivial,trivial,trivial,hs,h1,trivial,trivial,h2,trivial,h2,h2,h2,h2,trivial,h2,h2,h2,h3,trivial,hps,nT h4,trivial,trivial,trivial,trivial,trivial,hd,trivial,hv,trivial,trivial,hv2,rfl⟩
   | 2,_,hs,hd,hv,hv2,h2,h3=>exact con_d (ap25b_vq s.ts c u.ts w.ts pe e c.ot v st h1 h2 h3 h4) ⟨trivial,trivial,trivial,hs,h1,trivial,trivial,h2,trivial,h2,h2,h2,h2,trivial,h2,h2,h2,h3,trivial,hps,nT h4,trivial,trivial,trivial,trivial,trivial,hd,trivial,hv,trivial,trivial,hv2,rfl⟩
theorem apk6 (s:LS) (c:Cm) (u w:LS) (e pe:Int) (v:Mb) (st:Bool) (h1:st=false) (h4:decide (pe=0)=true) (hps:Con PG 88 [.p 0 0,.i .i64 c.d] [some (tsO s.ts)] (.i .i64 pe) [.set (tsO u.ts)]) (i:Nat) (hi:i<3)
 (hs:Con PG 89 [.agg (mbL (s.r.s i)),cmI c 6 (ofNat i) c.ot] [] (.b st) []) (hd:Con PG 180 [.p 0 0,cmI c 6 (ofNat i) c.ot,.p 1 0] [some (tsO (sL u i (bsM (u.r.s i) c.bt c.sq)).ts),some (fnO 140)] (.i .i64 e) [.set (tsO w.ts),.keep])
 (hv:Con PG 91 [.p 0 0,.i .i64 (ofNat i),.i .i64 e] [some (tsO w.ts)] (.agg (vwL v)) [.keep]) (hv2:Con PG 91 [.p 0 0,.i .i64 (ofNat i),.i .i64 e] [some (tsO (sL w i (ansM (w.r.s i) v)).ts)] (.agg (vwL v)) [.keep]) (hag:agB (s.r.s i) c=false) :
 Con PG 41 [.p 0 0,cmI c 6 (ofNat i) c.ot] [some (tsO s.ts)] (.agg (vwL v)) [.set (tsO (sL w i (ansM (w.r.s i) v)).ts)]:=by
 cases h2:decide (c.bt=(s.r.s i).x 4) with
 | false=>
   match i,hi,hs,hd,hv,hv2,h2 with
   | 0,_,hs,hd,hv,hv2,h2=>exact con_d (ap06a_vq s.ts c u.ts w.ts pe e c.ot v st h1 h2 h4) ⟨trivial,trivial,trivial,hs,h1,trivial,trivial,h2,h2,h2,h2,h2,h2,h2,h2,trivial,hps,nT h4,trivial,trivial,trivial,trivial,trivial,hd,trivial,hv,trivial,trivial,hv2,rfl⟩
   | 1,_,hs,hd,hv,hv2,h2=>exact con_d (ap16a_vq s.ts c u.ts w.ts pe e c.ot v st h1 h2 h4) ⟨trivial,trivial,trivial,hs,h1,trivial,trivial,h2,h2,h2,h2,h2,h2,h2,h2,trivial,hps,nT h4,trivial,trivial,trivial,trivial,trivial,hd,trivial,hv,trivial,trivial,hv2,rfl⟩
   | 2,_,hs,hd,hv,hv2,h2=>exact con_d (ap26a_vq s.ts c u.ts w.ts pe e c.ot v st h1 h2 h4) ⟨trivial,trivial,trivial,hs,h1,trivial,trivial,h2,h2,h2,h2,h2,h2,h2,h2,trivial,hps,nT h4,trivial,trivial,trivial,trivial,trivial,hd,trivial,hv,trivial,trivial,hv2,rfl⟩
 | true=>
   have h3:=ag_f hag h2
   match i,hi,hs,hd,hv,hv2,h2,h3 with
   | 0,_,hs,hd,hv,hv2,h2,h3=>exact con_d (ap06b_vq s.ts c u.ts w.ts pe e c.ot v st h1 h2 h3 h4) ⟨trivial,trivial,trivial,hs,h1,trivial,trivial,h2,trivial,h2,h2,h2,h2,trivial,h2,h2,h2,h3,trivial,hps,nT h4,trivial,trivial,trivial,trivial,trivial,hd,trivial,hv,trivial,trivial,hv2,rfl⟩
   | 1,_,hs,hd,hv,hv2,h2,h3=>exact con_d (ap16b_vq s.ts c u.ts w.ts pe e c.ot v st h1 h2 h3 h4) ⟨trivial,trivial,trivial,hs,h1,trivial,trivial,h2,trivial,h2,h2,h2,h2,trivial,h2,h2,h2,h3,trivial,hps,nT h4,trivial,trivial,trivial,trivial,trivial,hd,trivial,hv,trivial,trivial,hv2,rfl⟩
   | 2,_,hs,hd,hv,hv2,h2,h3=>exact con_d (ap26b_vq s.ts c u.ts w.ts pe e c.ot v st h1 h2 h3 h4) ⟨trivial,trivial,trivial,hs,h1,trivial,trivial,h2,trivial,h2,h2,h2,h2,trivial,h2,h2,h2,h3,trivial,hps,nT h4,trivial,trivial,trivial,trivial,trivial,hd,trivial,hv,trivial,trivial,hv2,rfl⟩
theorem apk7 (s:LS) (c:Cm) (u w:LS) (e pe:Int) (v:Mb) (st:Bool) (h1:st=false) (h4:decide (pe=0)=true) (hps:Con PG 88 [.p 0 0,.i .i64 c.d] [some (tsO s.ts)] (.i .i64 pe) [.set (tsO u.ts)]) (i:Nat) (hi:i<3)
 (hs:Con PG 89 [.agg (mbL (s.r.s i)),cmI c 7 (ofNat i) c.ot] [] (.b st) []) (hd:Con PG 173 [.p 0 0,cmI c 7 (ofNat i) c.ot,.p 1 0] [some (tsO (sL u i (bsM (u.r.s i) c.bt c.sq)).ts),some (fnO 137)] (.i .i64 e) [.set (tsO w.ts),.keep])
 (hv:Con PG 91 [.p 0 0,.i .i64 (ofNat i),.i .i64 e] [some (tsO w.ts)] (.agg (vwL v)) [.keep]) (hv2:Con PG 91 [.p 0 0,.i .i64 (ofNat i),.i .i64 e] [some (tsO (sL w i (ansM (w.r.s i) v)).ts)] (.agg (vwL v)) [.keep]) (hag:agB (s.r.s i) c=false) :
 Con PG 41 [.p 0 0,cmI c 7 (ofNat i) c.ot] [some (tsO s.ts)] (.agg (vwL v)) [.set (tsO (sL w i (ansM (w.r.s i) v)).ts)]:=by
 cases h2:decide (c.bt=(s.r.s i).x 4) with
 | false=>
   match i,hi,hs,hd,hv,hv2,h2 with
   | 0,_,hs,hd,hv,hv2,h2=>exact con_d (ap07a_vq s.ts c u.ts w.ts pe e c.ot v st h1 h2 h4) ⟨trivial,trivial,trivial,hs,h1,trivial,trivial,h2,h2,h2,h2,h2,h2,h2,h2,trivial,hps,nT h4,trivial,trivial,trivial,trivial,trivial,hd,trivial,hv,trivial,trivial,hv2,rfl⟩
   | 1,_,hs,hd,hv,hv2,h2=>exact con_d (ap17a_vq s.ts c u.ts w.ts pe e c.ot v st h1 h2 h4) ⟨trivial,trivial,trivial,hs,h1,trivial,trivial,h2,h2,h2,h2,h2,h2,h2,h2,trivial,hps,nT h4,trivial,trivial,trivial,trivial,trivial,hd,trivial,hv,trivial,trivial,hv2,rfl⟩
   | 2,_,hs,hd,hv,hv2,h2=>exact con_d (ap27a_vq s.ts c u.ts w.ts pe e c.ot v st h1 h2 h4) ⟨trivial,trivial,trivial,hs,h1,trivial,trivial,h2,h2,h2,h2,h2,h2,h2,h2,trivial,hps,nT h4,trivial,trivial,trivial,trivial,trivial,hd,trivial,hv,trivial,trivial,hv2,rfl⟩
 | true=>
   have h3:=ag_f hag h2
   match i,hi,hs,hd,hv,hv2,h2,h3 with
   | 0,_,hs,hd,hv,hv2,h2,h3=>exact con_d (ap07b_vq s.ts c u.ts w.ts pe e c.ot v st h1 h2 h3 h4) ⟨trivial,trivial,trivial,hs,h1,trivial,trivial,h2,trivial,h2,h2,h2,h2,trivial,h2,h2,h2,h3,trivial,hps,nT h4,trivial,trivial,trivial,trivial,trivial,hd,trivial,hv,trivial,trivial,hv2,rfl⟩
   | 1,_,hs,hd,hv,hv2,h2,h3=>exact con_d (ap17b_vq s.ts c u.ts w.ts pe e c.ot v st h1 h2 h3 h4) ⟨trivial,trivial,trivial,hs,h1,trivial,trivial,h2,trivial,h2,h2,h2,h2,trivial,h2,h2,h2,h3,trivial,hps,nT h4,trivial,trivial,trivial,trivial,trivial,hd,trivial,hv,trivial,trivial,hv2,rfl⟩
   | 2,_,hs,hd,hv,hv2,h2,h3=>exact con_d (ap27b_vq s.ts c u.ts w.ts pe e c.ot v st h1 h2 h3 h4) ⟨trivial,trivial,trivial,hs,h1,trivial,trivial,h2,trivial,h2,h2,h2,h2,trivial,h2,h2,h2,h3,trivial,hps,nT h4,trivial,trivial,trivial,trivial,trivial,hd,trivial,hv,trivial,trivial,hv2,rfl⟩
theorem cd_vw (e:Int):VW (.agg [.i .i64 e,.i .i64 0,.i .i64 0,.l0,.l0,.l0,.l0]) (.agg (vwL (cdM e))):=
 .agg ⟨.refl _,.refl _,.refl _,.nil _ _,.nil _ _,.nil _ _,.nil _ _,trivial⟩
theorem apS_con (s:LS) (c:Cm) (k:Int) (h0:decide (k=8)=false) (i:Nat) (hi:i<3) (hs:Con PG 89 [.agg (mbL (s.r.s i)),cmI c k (ofNat i) c.ot] [] (.b true) []):Con PG 41 [.p 0 0,cmI c k (ofNat i) c.ot] [some (tsO s.ts)] (.agg (vwL (cdM 25))) [.set (tsO s.ts)]:=by
 refine Con.post (us:=[.keep]) ?_ (cd_vw 25) (.refl _)
 match i,hi,hs with
 | 0,_,hs=>exact con_d (as0_vq s.ts c c.ot true k h0 rfl) ⟨trivial,h0,trivial,trivial,hs,rfl,rfl⟩
 | 1,_,hs=>exact con_d (as1_vq s.ts c c.ot true k h0 rfl) ⟨trivial,h0,trivial,trivial,hs,rfl,rfl⟩
 | 2,_,hs=>exact con_d (as2_vq s.ts c c.ot true k h0 rfl) ⟨trivial,h0,trivial,trivial,hs,rfl,rfl⟩
theorem apA_con (s:LS) (c:Cm) (k:Int) (h0:decide (k=8)=false) (i:Nat) (hi:i<3) (hs:Con PG 89 [.agg (mbL (s.r.s i)),cmI c k (ofNat i) c.ot] [] (.b false) []) (hcv:Con PG 86 [.agg (vwL (s.r.s i))] [] (.agg (vwL (s.r.s i))) []) (h2:decide (c.bt=(s.r.s i).x 4)=true) (h3:decide (c.sq=(s.r.s i).x 5)=true):Con PG 41 [.p 0 0,cmI c k (ofNat i) c.ot] [some (tsO s.ts)] (.agg (vwL (s.r.s i))) [.set (tsO s.ts)]:=by
 refine Con.post (us:=[.keep]) ?_ (.refl _) (.refl _)
 match i,hi,hs,hcv,h2,h3 with
 | 0,_,hs,hcv,h2,h3=>exact con_d (ag0_vq s.ts c c.ot false k h0 rfl h2 h3) ⟨trivial,h0,trivial,trivial,hs,rfl,trivial,trivial,h2,trivial,h2,h2,h2,h2,trivial,h2,h2,h2,h3,trivial,hcv,rfl⟩
 | 1,_,hs,hcv,h2,h3=>exact con_d (ag1_vq s.ts c c.ot false k h0 rfl h2 h3) ⟨trivial,h0,trivial,trivial,hs,rfl,trivial,trivial,h2,trivial,h2,h2,h2,h2,trivial,h2,h2,h2,h3,trivial,hcv,rfl⟩
 | 2,_,hs,hcv,h2,h3=>exact con_d (ag2_vq s.ts c c.ot false k h0 rfl h2 h3) ⟨trivial,h0,trivial,trivial,hs,rfl,trivial,trivial,h2,trivial,h2,h2,h2,h2,trivial,h2,h2,h2,h3,trivial,hcv,rfl⟩
theorem apE_con (s u:LS) (c:Cm) (k pe:Int) (h0:decide (k=8)=false) (h4:decide (pe=0)=false) (hps:Con PG 88 [.p 0 0,.i .i64 c.d] [some (tsO s.ts)] (.i .i64 pe) [.set (tsO u.ts)]) (i:Nat) (hi:i<3) (hs:Con PG 89 [.agg (mbL (s.r.s i)),cmI c k (ofNat i) c.ot] [] (.b false) []) (hag:agB (s.r.s i) c=false):Con PG 41 [.p 0 0,cmI c k (ofNat i) c.ot] [some (tsO s.ts)] (.agg (vwL (cdM pe))) [.set (tsO u.ts)]:=by
 refine Con.post (us:=[.set (tsO u.ts)]) ?_ (cd_vw pe) (.refl _)
 cases h2:decide (c.bt=(s.r.s i).x 4) with
 | false=>
   match i,hi,hs,h2 with
   | 0,_,hs,h2=>exact con_d (ae0a_vq s.ts c u.ts pe c.ot false k h0 rfl h2 h4) ⟨trivial,h0,trivial,trivial,hs,rfl,trivial,trivial,h2,h2,h2,h2,h2,h2,h2,h2,trivial,hps,nF h4,rfl⟩
   | 1,_,hs,h2=>exact con_d (ae1a_vq s.ts c u.ts pe c.ot false k h0 rfl h2 h4) ⟨trivial,h0,trivial,trivial,hs,rfl,trivial,trivial,h2,h2,h2,h2,h2,h2,h2,h2,trivial,hps,nF h4,rfl⟩
   | 2,_,hs,h2=>exact con_d (ae2a_vq s.ts c u.ts pe c.ot false k h0 rfl h2 h4) ⟨trivial,h0,trivial,trivial,hs,rfl,trivial,trivial,h2,h2,h2,h2,h2,h2,h2,h2,trivial,hps,nF h4,rfl⟩
 | true=>
   have h3:=ag_f hag h2
   match i,hi,hs,h2,h3 with
   | 0,_,hs,h2,h3=>exact con_d (ae0b_vq s.ts c u.ts pe c.ot false k h0 rfl h2 h3 h4) ⟨trivial,h0,trivial,trivial,hs,rfl,trivial,trivial,h2,trivial,h2,h2,h2,h2,trivial,h2,h2,h2,h3,trivial,hps,nF h4,rfl⟩
   | 1,_,hs,h2,h3=>exact con_d (ae1b_vq s.ts c u.ts pe c.ot false k h0 rfl h2 h3 h4) ⟨trivial,h0,trivial,trivial,hs,rfl,trivial,trivial,h2,trivial,h2,h2,h2,h2,trivial,h2,h2,h2,h3,trivial,hps,nF h4,rfl⟩
   | 2,_,hs,h2,h3=>exact con_d (ae2b_vq s.ts c u.ts pe c.ot false k h0 rfl h2 h3 h4) ⟨trivial,h0,trivial,trivial,hs,rfl,trivial,trivial,h2,trivial,h2,h2,h2,h2,trivial,h2,h2,h2,h3,trivial,hps,nF h4,rfl⟩
theorem ap8_con (s u:LS) (c:Cm) (sv pe:Int) (hps:Con PG 88 [.p 0 0,.i .i64 c.d] [some (tsO s.ts)] (.i .i64 pe) [.set (tsO u.ts)]):Con PG 41 [.p 0 0,cmI c 8 sv c.ot] [some (tsO s.ts)] (.agg (vwL (cdM pe))) [.set (tsO u.ts)]:=by
 refine Con.post (us:=[.set (tsO u.ts)]) ?_ (cd_vw pe) (.refl _)
 exact con_d (a8_vq s.ts c u.ts pe c.ot sv) ⟨trivial,trivial,hps,rfl⟩
theorem cells_dflt {e n:Nat} (d d' L:List AV) (hl:L.length=n):OV (some (.cells e n d (setAll .e 0 L))) (some (.cells e n d' (setAll .e 0 L))):=by
 refine .x fun x' hx=>?_
 obtain rfl:=Option.some.inj hx
 refine ⟨_,rfl,fun h=>h.elim,?_⟩
 rintro ρ p w ⟨c,fr,h1,h2,h3,h4,h5⟩
 refine ⟨c,fr,h1,h2,h3,h4,fun i v hv=>h5 i v ?_⟩
 rw [<-hv]
 unfold cellAt
 cases hb:Nat.blt i n with
 | false=>rfl
 | true=>
   have hi:i<n:=by simpa [Nat.blt_eq] using hb
   rw [setAll_get,if_pos ⟨Nat.zero_le _,by omega⟩,Nat.sub_zero,List.getElem?_eq_getElem (by omega)]
theorem tsD_ov (d d':List AV) (t:TS):OV (some (tsD d t)) (some (tsD d' t)):=cells_dflt d d' (tsL t) (tsL_len t)
structure Gd (s:LS):Prop where
 ok:s.ok
 tm:0<=s.r.x 1/\s.r.x 1<=4503599627370496
 gn:∀i,i<3->0<=(s.r.s i).x 1/\(s.r.s i).x 1<=1099511627776
 hp:∀i,i<3→-1<=(s.r.s i).x 3/\(s.r.s i).x 3<=2
 sq:∀i,i<3->0<=(s.r.s i).x 5/\(s.r.s i).x 5<=1099511627776
theorem wi_iff {n a b:Int}:wi n a b=true↔a<=n/\n<=b:=by simp [wi]
theorem mm_gd {b:Mb} (h:mmB b=true):(0<=b.x 1/\b.x 1<=1099511627776)/\(-1<=b.x 3/\b.x 3<=2)/\(0<=b.x 5/\b.x 5<=1099511627776):=by
 simp only [mmB,isHelpB,Bool.and_eq_true,wi_iff] at h
 obtain ⟨_,h1,_,h5,_,h3⟩:=h
 exact ⟨h1,h3,h5⟩
theorem gd_of {s:LS} (ok:s.ok) (h:vaB s=true):Gd s:=by
 simp only [vaB,Bool.and_eq_true,wi_iff] at h
 obtain ⟨_,ht,_,hs,_⟩:=h
 simp only [svB,Bool.and_eq_true] at hs
 obtain ⟨⟨m0,_⟩,⟨m1,_⟩,m2,_⟩:=hs
 have a0:=mm_gd m0
 have a1:=mm_gd m1
 have a2:=mm_gd m2
 refine ⟨ok,ht,fun i hi=>?_,fun i hi=>?_,fun i hi=>?_⟩<;>(match i,hi with | 0,_=>?_ | 1,_=>?_ | 2,_=>?_)
 · exact a0.1
 · exact a1.1
 · exact a2.1
 · exact a0.2.1
 · exact a1.2.1
 · exact a2.2.1
 · exact a0.2.2
 · exact a1.2.2
 · exact a2.2.2
theorem ok_sL {s:LS} (ok:s.ok) (i:Nat) {b:Mb} (h:b.mn<=17592186044416/\b.sn<=17592186044416/\b.hn<=5864062014805/\b.dn<=5864062014805):(sL s i b).ok:=by
 refine ⟨ok.m,fun j=>?_,ok.q⟩
 show ((bif Nat.beq j i then b else s.r.s j).mn<=_/\(bif Nat.beq j i then b else s.r.s j).sn<=_/\(bif Nat.beq j i then b else s.r.s j).hn<=_/\(bif Nat.beq j i then b else s.r.s j).dn<=_)
 cases Nat.beq j i with
 | true=>exact h
 | false=>exact ok.s j
theorem sL_at {s:LS} {i:Nat} {b:Mb} {Q:Mb->Prop} (h:∀j,j<3->Q (s.r.s j)) (hb:Q b):∀j,j<3->Q ((sL s i b).r.s j):=by
 intro j hj
 show Q (bif Nat.beq j i then b else s.r.s j)
 cases Nat.beq j i with
 | true=>exact hb
 | false=>exact h j hj
theorem pasM_q (T:Int) (b:Mb):(pasM T b=b)\/(pasM T b=deadM b):=by
 unfold pasM;cases diesB b T with | true=>exact .inr rfl | false=>exact .inl rfl
theorem gd_pas {s:LS} (g:Gd s) (d:Int) (hd:0<=d):Gd (pasL s d):=by
 unfold pasL
 cases h:decide (4503599627370496<s.r.x 1+d) with
 | true=>exact g
 | false=>
   have h:=of_decide_eq_false h
   have ht:=g.tm
   have at_:∀{Q:Mb->Prop},(∀j,j<3->Q (s.r.s j))->(∀j,j<3->Q (deadM (s.r.s j)))->∀j,j<3->Q ((psR (setX s.r 1 (s.r.x 1+d)) 3).s j):=by
    intro Q h1 h2 j hj
    show Q (bif Nat.blt j 3 then pasM (s.r.x 1+d) (s.r.s j) else s.r.s j)
    cases Nat.blt j 3 with
    | false=>exact h1 j hj
    | true=>
      rcases pasM_q (s.r.x 1+d) (s.r.s j) with e | e
      · rw [cond_true,e];exact h1 j hj
      · rw [cond_true,e];exact h2 j hj
   refine ⟨⟨g.ok.m,fun j=>?_,g.ok.q⟩,⟨by show 0<=s.r.x 1+d;omega,by show s.r.x 1+d<=_;omega⟩,at_ (Q:=fun b=>0<=b.x 1/\b.x 1<=1099511627776) g.gn g.gn,at_ (Q:=fun b=>-1<=b.x 3/\b.x 3<=2) g.hp (fun j hj=>by show (-1:Int)≤-1/\(-1:Int)<=2;decide),at_ (Q:=fun b=>0<=b.x 5/\b.x 5<=1099511627776) g.sq g.sq⟩
   have:∀b:Mb,pasM (s.r.x 1+d) b=b\/pasM (s.r.x 1+d) b=deadM b:=pasM_q _
   show ((bif Nat.blt j 3 then pasM (s.r.x 1+d) (s.r.s j) else s.r.s j).mn<=_/\(bif Nat.blt j 3 then pasM (s.r.x 1+d) (s.r.s j) else s.r.s j).sn<=_/\(bif Nat.blt j 3 then pasM (s.r.x 1+d) (s.r.s j) else s.r.s j).hn<=_/\(bif Nat.blt j 3 then pasM (s.r.x 1+d) (s.r.s j) else s.r.s j).dn<=_)
   cases Nat.blt j 3 with
   | false=>exact g.ok.s j
   | true=>
     rw [cond_true]
     rcases this (s.r.s j) with e | e<;>rw [e]<;>exact g.ok.s j
structure Gv (s:LS):Prop where
 ok:s.ok
 gn:∀i,i<3→-1<=(s.r.s i).x 1/\(s.r.s i).x 1<=1099511627776
theorem Gd.gv {s:LS} (g:Gd s):Gv s:=⟨g.ok,fun i hi=>⟨by have:=g.gn i hi;omega,(g.gn i hi).2⟩⟩
theorem Gv.sL {s:LS} (g:Gv s) (i:Nat) {b:Mb} (h:b.mn<=17592186044416/\b.sn<=17592186044416/\b.hn<=5864062014805/\b.dn<=5864062014805) (h1:-1<=b.x 1/\b.x 1<=1099511627776):Gv (sL s i b):=
 ⟨ok_sL g.ok i h,sL_at (Q:=fun b=>-1<=b.x 1/\b.x 1<=1099511627776) g.gn h1⟩
theorem gv_row {s u:LS} (g:Gv s) (ok:u.ok) (hr:u.r=s.r):Gv u:=⟨ok,fun i hi=>by rw [hr];exact g.gn i hi⟩
theorem askS_r (s:LS) (l k m:Int) (h:askE s l k m=0):(askS s l k m).r=s.r:=by
 unfold askE at h;unfold askS
 cases e:okA s l k m with
 | true=>rfl
 | false=>rw [e] at h;exact absurd h (by decide)
theorem freeS_r (s:LS) (l k:Int) (h:freeE s l k=0):(freeS s l k).r=s.r:=by
 unfold freeE at h;unfold freeS
 cases e:okF s l k with
 | true=>rfl
 | false=>rw [e] at h;exact absurd h (by decide)
theorem dropS_r (s:LS) (k:Int):(dropS s k).r=s.r:=by
 unfold dropS
 cases isServerB k && vaS s with
 | true=>rfl
 | false=>rfl
theorem gv_lk {s:LS} (g:Gv s) (c:Cm):Gv (lkS s c):=by
 unfold lkS
 cases h:decide (askE s c.lk c.sv c.md=0) with
 | true=>exact gv_row g (askS_ok g.ok _ _ _) (askS_r s _ _ _ (of_decide_eq_true h))
 | false=>exact g
theorem gv_ul {s:LS} (g:Gv s) (c:Cm):Gv (ulS s c):=by
 unfold ulS
 cases h:decide (freeE s c.lk c.sv=0) with
 | true=>exact gv_row g (freeS_ok g.ok _ _) (freeS_r s _ _ (of_decide_eq_true h))
 | false=>exact g
theorem gv_hp {s:LS} (g:Gv s) (j:Nat) (hj:j<3) (sv:Int):Gv (hpS s j sv):=by
 have a:Gv (sL s j (xM (s.r.s j) 3 sv)):=g.sL j (g.ok.s j) (g.gn j hj)
 unfold hpS
 cases decide ((s.r.s j).x 3=sv) with
 | true=>exact a
 | false=>cases hasHB s.r j with | true=>exact g | false=>exact a
theorem gv_dn {s:LS} (g:Gv s) (j:Nat) (hj:j<3) (sv:Int):Gv (dnS s j sv):=by
 have a:Gv (dropS s (ofNat j)):=gv_row g (dropS_ok g.ok _) (dropS_r s _)
 unfold dnS
 cases decide ((s.r.s j).x 3=sv) with
 | true=>exact a.sL j (a.ok.s j) (a.gn j hj)
 | false=>exact g
theorem gv_mnt {s:LS} (g:Gd s) (i:Nat) (hi:i<3):Gv (sL s i (mntB (s.r.s i) (s.r.x 1))):=by
 have h1:=g.gn i hi
 unfold mntB
 cases h:decide ((s.r.s i).x 0=1) with
 | true=>exact g.gv.sL i (g.ok.s i) (g.gv.gn i hi)
 | false=>cases h2:decide ((s.r.s i).x 0=2) with
   | true=>exact g.gv.sL i (g.ok.s i) (g.gv.gn i hi)
   | false=>cases h3:decide ((s.r.s i).x 1=1099511627776) with
     | true=>exact g.gv.sL i (g.ok.s i) (g.gv.gn i hi)
     | false=>
       have h3:=of_decide_eq_false h3
       exact g.gv.sL i (g.ok.s i) (by show -1<=(s.r.s i).x 1+1/\(s.r.s i).x 1+1<=_;omega)
theorem gd_s2 {s:LS} (g:Gd s) (c:Cm) (i:Nat) (hi:i<3) (hd:0<=c.d) (hq:0<=c.sq/\c.sq<=1099511627776):Gd (s2L s c i):=by
 have p:=gd_pas g c.d hd
 unfold s2L
 exact ⟨ok_sL p.ok i (p.ok.s i),p.tm,sL_at (Q:=fun b=>0<=b.x 1/\b.x 1<=1099511627776) p.gn (p.gn i hi),sL_at (Q:=fun b=>-1<=b.x 3/\b.x 3<=2) p.hp (p.hp i hi),sL_at (Q:=fun b=>0<=b.x 5/\b.x 5<=1099511627776) p.sq hq⟩
theorem nx0_vq (n m k:Nat) (f g h:Nat->Int) (e:Int) (mb:Bool) (h1:mb=false):VD PG 178 [.agg [.i .i64 e,isv n f,isv m g],isv k h] [] (.cal [] (.b mb) [] (of_ 3 (.t (oc 5 .z)))) (.tup [.agg [.i .i64 0,.l0,.l0],.i .i64 2]) [] [] 2 (fun Lf=>Con PG 194 [.agg [.i .i64 e,isv n f,isv m g],.i .i64 3] [] (.b mb) []/\True/\r3 ((!!mb)=false) ((!mb)=true/\Lf)):=by unfold VD VQ;kernel_rfl
theorem nx1_vq (n m k:Nat) (f g h:Nat->Int) (e:Int) (mb:Bool) (h1:mb=true) (h2:decide (e=1099511627776)=true):VD PG 178 [.agg [.i .i64 e,isv n f,isv m g],isv k h] [] (.cal [] (.b mb) [] (ot 3 (of_ 4 (.t (.c .z))))) (.tup [.agg [.i .i64 0,.l0,.l0],.i .i64 2]) [] [] 2 (fun Lf=>Con PG 194 [.agg [.i .i64 e,isv n f,isv m g],.i .i64 3] [] (.b mb) []/\True/\(!!mb)=true/\True/\r2 ((!!mb)=true) ((!mb)=false/\r3 ((!decide (e=1099511627776))=false) (decide (e=1099511627776)=true/\Lf))):=by unfold VD VQ;kernel_rfl
theorem nx2_vq (n m k:Nat) (f g h:Nat->Int) (e:Int) (ar:Nat->(Nat->Int)->Int->Bool) (mb:Bool) (h1:mb=true) (h2:decide (e=1099511627776)=false) (h3:ar k h 3=false):VD PG 178 [.agg [.i .i64 e,isv n f,isv m g],isv k h] [] (.cal [] (.b mb) [] (ot 3 (.f (.t (.t (.cal [] (.b (ar k h 3)) [] (.t (.f (.t .z))))))))) (.tup [.agg [.i .i64 0,.l0,.l0],.i .i64 2]) [] [] 2 (fun Lf=>Con PG 194 [.agg [.i .i64 e,isv n f,isv m g],.i .i64 3] [] (.b mb) []/\True/\(!!mb)=true/\True/\r2 ((!!mb)=true) ((!mb)=false/\r2 ((!decide (e=1099511627776))=true) (Con PG 195 [isv k h,.i .i64 3] [] (.b (ar k h 3)) []/\(!decide (e=1099511627776))=true/\True/\decide (e=1099511627776)=false/\(!ar k h 3)=true/\Lf))):=by unfold VD VQ;kernel_rfl
theorem nx3_vq (n m k:Nat) (f g h:Nat->Int) (e:Int) (ar:Nat->(Nat->Int)->Int->Bool) (mb:Bool) (L:Nat) (F G:Nat->Int) (h1:mb=true) (h2:decide (e=1099511627776)=false) (h3:ar k h 3=true) (h4:decide (ofNat L=0)=true):VD PG 178 [.agg [.i .i64 e,isv n f,isv m g],isv k h] [] (.cal [] (.b mb) [] (ot 3 (.f (.t (.t (.cal [] (.b (ar k h 3)) [] (.t (.f (.f (.lop [0,1,2] [1,2,4,6,29,30,31,32] 3 (.exit 0) [(1,isv k h),(2,.p 0 0),(4,.p 1 0),(6,.p 2 0)] [some (cfO e n m f g),some (AObj.cells 24 3 [.i .i64 0,.l0,.l0] T.e),some (AObj.cells 24 3 [.i .i64 0,.l0,.l0] (T.n (some (.i .i64 (e+1))) (T.n (some (.lr 3 1 0 L false)) T.e T.e) (T.n (some (.lr 4 1 0 L false)) T.e T.e))),some (AObj.rows 3 1 L fun i x=>CV.i .i64 (F i)),some (AObj.rows 3 1 L fun i x=>CV.i .i64 (G i))] (.t .z))))))))))) (.tup [.agg [.i .i64 0,.l0,.l0],.i .i64 23]) [] [] 5 (fun Lf=>Con PG 194 [.agg [.i .i64 e,isv n f,isv m g],.i .i64 3] [] (.b mb) []/\True/\(!!mb)=true/\True/\r2 ((!!mb)=true) ((!mb)=false/\r2 ((!decide (e=1099511627776))=true) (Con PG 195 [isv k h,.i .i64 3] [] (.b (ar k h 3)) []/\(!decide (e=1099511627776))=true/\True/\decide (e=1099511627776)=false/\(!ar k h 3)=false/\True/\rg (e+1)/\True/\LDoes PG (loopAt PG 178 0) 70 3 (mkT [(1,isv k h),(2,.p 0 0),(4,.p 1 0),(6,.p 2 0),(29,.p 0 1),(30,isv n f),(31,.i .i64 (ofNat n)),(32,.i .i64 0)]) [some (cfO e n m f g),some (AObj.cells 24 3 [.i .i64 0,.l0,.l0] T.e),some (AObj.cells 24 3 [.i .i64 0,.l0,.l0] (T.n (some (.i .i64 (e+1))) (T.n (some .l0) T.e T.e) (T.n (some .l0) T.e T.e)))] (.exit 0) (mkT [(1,isv k h),(2,.p 0 0),(4,.p 1 0),(6,.p 2 0)]) [some (cfO e n m f g),some (AObj.cells 24 3 [.i .i64 0,.l0,.l0] T.e),some (AObj.cells 24 3 [.i .i64 0,.l0,.l0] (T.n (some (.i .i64 (e+1))) (T.n (some (.lr 3 1 0 L false)) T.e T.e) (T.n (some (.lr 4 1 0 L false)) T.e T.e))),some (AObj.rows 3 1 L fun i x=>CV.i .i64 (F i)),some (AObj.rows 3 1 L fun i x=>CV.i .i64 (G i))]/\True/\decide (ofNat L=0)=true/\Lf))):=by unfold VD VQ;kernel_rfl
def nxP (M:Nat):Prop:=((True/\(((1:Nat)=1/\0+M<=M)/\(True/\True)))/\(True/\True))/\(((True/\(True/\(((1:Nat)=1/\0+M<=M)/\True)))/\(True/\True))/\True)
theorem nxP_ (M:Nat):nxP M:=by unfold nxP;simp
theorem nx4_fq (n:Nat) (m:Nat) (k:Nat) (f:Nat->Int) (g:Nat->Int) (h:Nat->Int) (e:Int) (L:Nat) (F:Nat->Int) (G:Nat->Int) (mb:Bool) (ar:Nat->(Nat->
 Int)->Int->Bool) (M:Nat) (A:Nat->Int) (B:Nat->Int) (h1:mb=true) (h2:decide (e=1099511627776)=false) (h3:ar k h 3=true) (h4:decide (ofNat L=0)
 =false):VF PG 178 [.agg [.i .i64 e,isv n f,isv m g],isv k h] [] (Orc.cal [] (.b mb) [] (Orc.t (Orc.t (Orc.t (Orc.f (Orc.t (Orc.t (Orc.cal [] (.b (ar k h 3)) []
 (Orc.t (Orc.f (Orc.f (Orc.lop [0,1,2] [1,2,4,6,29,30,31,32] 3 (XO.exit 0) [(1,isv k h),(2,.p 0 0),(4,.p 1 0),(6,.p 2 0)] [some (cfO e n m f g),some
 (AObj.cells 24 3 [.i .i64 0,.l0,.l0] T.e),some (AObj.cells 24 3 [.i .i64 0,.l0,.l0] (T.n (some (.i .i64 (e+1))) (T.n (some (.lr 3 1 0 L false)) T.e T.e) (T.n (some
 (.lr 4 1 0 L false)) T.e T.e))),some (AObj.rows 3 1 L fun i x=>CV.i .i64 (F i)),some (AObj.rows 3 1 L fun i x=>CV.i .i64 (G i))] (Orc.f (Orc.lop [0,1,2,3,4] [2,4,
 6,53,54,55] 3 (XO.exit 2) [(4,.p 1 0),(6,.p 2 0)] [some (cfO e n m f g),some (AObj.cells 24 3 [.i .i64 0,.l0,.l0] T.e),some (AObj.cells 24 3 [.i .i64 0,.l0,.l0]
 (T.n (some (.i .i64 (e+1))) (T.n (some (.lr 3 1 0 M false)) T.e T.e) (T.n (some (.lr 4 1 0 M false)) T.e T.e))),some (AObj.rows 3 1 M fun i x=>CV.i .i64 (A i)),some
 (AObj.rows 3 1 M fun i x=>CV.i .i64 (B i))] Orc.z)))))))))))))) (.tup [.agg [.i .i64 (e+1),.sv 1 M (shiftF 0 fun i _=>.i .i64 (A i)),.sv 1 M (shiftF 0 fun i _=>.i
 .i64 (B i))],.i .i64 0]) [] [5,6] [] (nxP M) 7 (fun Lf=>Con PG 194 [.agg [.i .i64 e,isv n f,isv m g],.i .i64 3] [] (.b mb) []/\True/\(!!mb)=true/\True/\
 (!!mb)=true/\(!!mb)=true/\(!mb)=false/\(!decide (e=1099511627776))=true/\(!decide (e=1099511627776))=true/\Con PG 195 [isv k h,.i .i64 3] [] (.b
 (ar k h 3)) []/\(!decide (e=1099511627776))=true/\True/\decide (e=1099511627776)=false/\(!ar k h 3)=false/\True/\rg (e+1)/\True/\LDoes PG (loopAt
 PG 178 0) 70 3 (mkT [(1,isv k h),(2,.p 0 0),(4,.p 1 0),(6,.p 2 0),(29,.p 0 1),(30,isv n f),(31,.i .i64 (ofNat n)),(32,.i .i64 0)]) [some (cfO e n m
 f g),some (AObj.cells 24 3 [.i .i64 0,.l0,.l0] T.e),some (AObj.cells 24 3 [.i .i64 0,.l0,.l0] (T.n (some (.i .i64 (e+1))) (T.n (some .l0) T.e T.e) (T.n (some .l0) T.e
 T.e)))] (XO.exit 0) (mkT [(1,isv k h),(2,.p 0 0),(4,.p 1 0),(6,.p 2 0)]) [some (cfO e n m f g),some (AObj.cells 24 3 [.i .i64 0,.l0,.l0] T.e),some (AObj.cells 24 3
 [.i .i64 0,.l0,.l0] (T.n (some (.i .i64 (e+1))) (T.n (some (.lr 3 1 0 L false)) T.e T.e) (T.n (some (.lr 4 1 0 L false)) T.e T.e))),some (AObj.rows 3 1 L fun i x=>CV.i
 .i64 (F i)),some (AObj.rows 3 1 L fun i x=>CV.i .i64 (G i))]/\True/\decide (ofNat L=0)=false/\LDoes PG (loopAt PG 178 1) 70 3 (mkT [(2,.p 0 0),
 (4,.p 1 0),(6,.p 2 0),(53,isv k h),(54,.i .i64 (ofNat k)),(55,.i .i64 0)]) [some (cfO e n m f g),some (AObj.cells 24 3 [.i .i64 0,.l0,.l0] T.e),some
 (AObj.cells 24 3 [.i .i64 0,.l0,.l0] (T.n (some (.i .i64 (e+1))) (T.n (some (.lr 3 1 0 L false)) T.e T.e) (T.n (some (.lr 4 1 0 L false)) T.e T.e))),some (AObj.rows 3 1
 L fun i x=>CV.i .i64 (F i)),some (AObj.rows 3 1 L fun i x=>CV.i .i64 (G i))] (XO.exit 2) (mkT [(4,.p 1 0),(6,.p 2 0)]) [some (cfO e n m f g),some (AObj.cells 24 3
 [.i .i64 0,.l0,.l0] T.e),some (AObj.cells 24 3 [.i .i64 0,.l0,.l0] (T.n (some (.i .i64 (e+1))) (T.n (some (.lr 3 1 0 M false)) T.e T.e) (T.n (some (.lr 4 1 0 M false))
 T.e T.e))),some (AObj.rows 3 1 M fun i x=>CV.i .i64 (A i)),some (AObj.rows 3 1 M fun i x=>CV.i .i64 (B i))]/\Lf):=by unfold VF;kernel_rfl
theorem arB_len {n:Nat} {f:Nat->Int} (h:arB n f 3=true):n<=3:=by
 unfold arB at h
 rw [Bool.and_eq_true] at h
 have:=(wi_iff.1 h.1).2
 exact Int.ofNat_le.1 (this:ofNat n<=ofNat 3)
theorem chB_of {e:Int} {n m:Nat} {f g:Nat->Int} (h:chB e n m f g=true):(1<=e/\e<=1099511627776)/\m=n/\n<=3:=by
 unfold chB at h
 simp only [Bool.and_eq_true,decide_eq_true_eq] at h
 exact ⟨wi_iff.1 h.1,h.2.2.1,arB_len h.2.1⟩
theorem pkN_len (p:Int->Bool) (f g:Nat->Int):∀m i,(pkN p f g m i).length<=m
 | 0,_=>Nat.le_refl _
 | m+1,i=>by
   unfold pkN
   have:=pkN_len p f g m (i+1)
   cases p (f i) with
   | true=>simp;omega
   | false=>rw [cond_false];omega
def nxV (r:Rs) (k:Nat) (h:Nat->Int):AV:=bif decide (nxE r k h=0) then .agg [.i .i64 (r.x 2+1),isv (nxL r k h).length (pA (nxL r k h)),isv (nxL r k h).length (pB (nxL r k h))] else .agg [.i .i64 0,.l0,.l0]
theorem next_con (r:Rs) (hn:r.mn<=1152921504606846976) (hm:r.sn<=1152921504606846976) (k:Nat) (hk:k<=1152921504606846976) (h:Nat->Int) :
 Con PG 178 [.agg [.i .i64 (r.x 2),isv r.mn r.mf,isv r.sn r.sf],isv k h] [] (.tup [nxV r k h,.i .i64 (nxE r k h)]) []:=by
 have hmb:=mb_con r.mn r.sn hn hm r.mf r.sf (r.x 2)
 have har:=ar_con k hk h 3 (by decide)
 unfold nxV nxE
 generalize hL:kpL r k h=L
 cases h1:chB (r.x 2) r.mn r.sn r.mf r.sf with
 | false=>
   rw [h1] at hmb
   exact con_d (nx0_vq _ _ _ _ _ _ _ false rfl) (by repeat' first | exact trivial | exact hmb | exact rfl | apply And.intro)
 | true=>
   rw [h1] at hmb
   obtain ⟨he,hmn,hn3⟩:=chB_of h1
   cases h2:decide (r.x 2=1099511627776) with
   | true=>exact con_d (nx1_vq _ _ _ _ _ _ _ true rfl h2) (by repeat' first | exact trivial | exact hmb | exact h2 | (simp only [h2];rfl) | exact rfl | apply And.intro)
   | false=>
     cases h3:arB k h 3 with
     | false=>
       rw [h3] at har
       exact con_d (nx2_vq _ _ _ _ _ _ _ (fun _ _ _=>false) true rfl h2 rfl) (by repeat' first | exact trivial | exact hmb | exact har | exact h2 | (simp only [h2];rfl) | exact rfl | apply And.intro)
     | true=>
       rw [h3] at har
       have hk3:=arB_len h3
       have re:(-9223372036854775808:Int)<=r.x 2+1/\r.x 2+1<=(9223372036854775807:Int):=⟨by omega,by omega⟩
       have p1:=n1_lp0 r.mn k hn3 hk3 r.mf r.sf h (r.x 2) L hL
       have hL3:L.length<=3:=by rw [<-hL];exact Nat.le_trans (pkN_len _ _ _ _ _) hn3
       rw [hmn] at hmb⊢
       cases h4:decide (L.length=0) with
       | true=>
         have h4':decide (ofNat L.length=0)=true:=decide_eq_true (by have:=of_decide_eq_true h4;rw [this];rfl)
         exact con_d (nx3_vq _ _ _ _ _ _ _ (fun _ _ _=>true) true L.length (pA L) (pB L) rfl h2 rfl h4') (by repeat' first | exact trivial | exact hmb | exact har | exact h2 | exact h4' | exact re | exact p1 | (simp only [h2];rfl) | exact rfl | apply And.intro)
       | false=>
         have h4':decide (ofNat L.length=0)=false:=decide_eq_false (fun q=>of_decide_eq_false h4 (Int.ofNat.inj (q:ofNat L.length=ofNat 0)))
         have hT:nxL r k h=L ++ nwL r k h:=by unfold nxL;rw [hL]
         generalize hT':nxL r k h=T at hT⊢
         have p2:=n2_lp r.mn k hn3 hk3 r.mf r.sf h (r.x 2) L hL3 T hT.symm
         refine Con.post (us:=[]) (con_f (nx4_fq _ _ _ _ _ _ _ L.length (pA L) (pB L) true (fun _ _ _=>true) T.length (pA T) (pB T) rfl h2 rfl h4') (nxP_ _) (by repeat' first | exact trivial | exact hmb | exact har | exact h2 | exact h4' | exact re | exact p1 | exact p2 | (simp only [h2];rfl) | exact rfl | apply And.intro)) ?_ trivial
         refine .tup ⟨.agg ⟨.refl _,VW.sv fun i j _ _=>?_,VW.sv fun i j _ _=>?_,trivial⟩,.refl _,trivial⟩<;>rw [shiftF_eq,Nat.zero_add]
def bxO:AObj:=.cells 86 1 [] (.n (some (.p 0 0)) .e .e)
theorem ikE_lq (t:TS) (k:Nat) (h:Nat->Int) (h1:decide (ofNat k<ofNat k)=false):LD PG (loopAt PG 158 0) 19 2 [(0,isv k h),(1,.fn (.func 179) [] [.p 1 0]),(6,isv k h),(7,.i .i64 (ofNat k)),(8,.i .i64 (ofNat k))] [some (tsO t),some (.cells 86 1 [] (.n (some (.p 0 0)) .e .e))] (.f .z) (.exit 0) [0,1] [] [some (tsO t),some bxO] 2 (fun Lf=>decide (ofNat k<ofNat k)=false/\Lf):=by unfold LD LQ;kernel_rfl
theorem ikT_lq (t:TS) (c:Cm) (k:Nat) (h:Nat->Int) (i:Nat) (h1:decide (ofNat i<ofNat k)=true) (h2:decide (t.r.x 0<=h i)=true):LD PG (loopAt PG 158 0) 19 2 [(0,isv k h),(1,.fn (.func 179) [] [.p 1 0]),(6,isv k h),(7,.i .i64 (ofNat k)),(8,.i .i64 (ofNat i))] [some (tsO t),some (.cells 86 1 [] (.n (some (.p 0 0)) .e .e))] (.t (.inl (.t .z))) .ret [0,1] [(4,.i .i64 (ofNat i))] [some (tsO t),some bxO] 2 (fun Lf=>decide (ofNat i<ofNat k)=true/\(0<=ofNat i/\ofNat i<↑k)/\True/\True/\decide (t.r.x 0<=h i)=true/\Lf):=by unfold LD LQ;kernel_rfl
theorem ikN_lq (t:TS) (c:Cm) (k:Nat) (h:Nat->Int) (i:Nat) (h1:decide (ofNat i<ofNat k)=true) (h2:decide (t.r.x 0<=h i)=false):LD PG (loopAt PG 158 0) 19 2 [(0,isv k h),(1,.fn (.func 179) [] [.p 1 0]),(6,isv k h),(7,.i .i64 (ofNat k)),(8,.i .i64 (ofNat i))] [some (tsO t),some (.cells 86 1 [] (.n (some (.p 0 0)) .e .e))] (.t (.inl (.f .z))) .nrm [0,1] [(0,isv k h),(1,.fn (.func 179) [] [.p 1 0]),(6,isv k h),(7,.i .i64 (ofNat k)),(8,.i .i64 (ofNat i+1))] [some (tsO t),some bxO] 2 (fun Lf=>decide (ofNat i<ofNat k)=true/\(0<=ofNat i/\ofNat i<↑k)/\True/\True/\decide (t.r.x 0<=h i)=false/\rg (ofNat i+1)/\Lf):=by unfold LD LQ;kernel_rfl
theorem ikf_vq (t:TS) (k:Nat) (h:Nat->Int) (r:Int):VD PG 158 [isv k h,.fn (.func 179) [] [.p 1 0]] [some (tsO t),some (.cells 86 1 [] (.n (some (.p 0 0)) .e .e))] (.lop [0,1] [0,1,6,7,8] 2 .ret [(4,.i .i64 r)] [some (tsO t),some (AObj.cells 86 1 [] (T.n (some (.p 0 0)) T.e T.e))] .z) (.i .i64 r) [.keep,.keep] [] 2 (fun Lf=>LDoes PG (loopAt PG 158 0) 19 2 (mkT [(0,isv k h),(1,AV.fn (Fn.func 179) [] [.p 1 0]),(6,isv k h),(7,.i .i64 (ofNat k)),(8,.i .i64 0)]) [some (tsO t),some (AObj.cells 86 1 [] (T.n (some (.p 0 0)) T.e T.e))] .ret (mkT [(4,.i .i64 r)]) [some (tsO t),some (AObj.cells 86 1 [] (T.n (some (.p 0 0)) T.e T.e))]/\Lf):=by unfold VD VQ;kernel_rfl
theorem ikg_vq (t:TS) (k:Nat) (h:Nat->Int):VD PG 158 [isv k h,.fn (.func 179) [] [.p 1 0]] [some (tsO t),some (.cells 86 1 [] (.n (some (.p 0 0)) .e .e))] (.lop [0,1] [0,1,6,7,8] 2 (.exit 0) [] [some (tsO t),some (AObj.cells 86 1 [] (T.n (some (.p 0 0)) T.e T.e))] .z) (.i .i64 (-1)) [.keep,.keep] [] 2 (fun Lf=>LDoes PG (loopAt PG 158 0) 19 2 (mkT [(0,isv k h),(1,AV.fn (Fn.func 179) [] [.p 1 0]),(6,isv k h),(7,.i .i64 (ofNat k)),(8,.i .i64 0)]) [some (tsO t),some (AObj.cells 86 1 [] (T.n (some (.p 0 0)) T.e T.e))] (.exit 0) (mkT []) [some (tsO t),some (AObj.cells 86 1 [] (T.n (some (.p 0 0)) T.e T.e))]/\Lf):=by unfold VD VQ;kernel_rfl
theorem ikc_vq (t:TS) (k:Nat) (h:Nat->Int) (r:Int):VD PG 105 [isv k h,.fn (.func 179) [] [.p 1 0]] [some (tsO t),some (.cells 86 1 [] (.n (some (.p 0 0)) .e .e))] (.cal [0,1] (.i .i64 r) [.keep,.keep] .z) (.b (decide (0<=r))) [.keep,.keep] [] 2 (fun Lf=>Con PG 158 [isv k h,AV.fn (Fn.func 179) [] [.p 1 0]] [some (tsO t),some (AObj.cells 86 1 [] (T.n (some (.p 0 0)) T.e T.e))] (.i .i64 r) [.keep,.keep]/\Lf):=by unfold VD VQ;kernel_rfl
abbrev ikL (k:Nat) (h:Nat->Int) (i:Nat):List (Nat×AV):=[(0,isv k h),(1,.fn (.func 179) [] [.p 1 0]),(6,isv k h),(7,.i .i64 (ofNat k)),(8,.i .i64 (ofNat i))]
theorem ik_lp (c0:Cm) (t:TS) (k:Nat) (hk:k<=1152921504606846976) (h:Nat->Int) (r:Int) (x:XO) (l':List (Nat×AV))
 (hx:(r≠-1/\x=.ret/\l'=[(4,.i .i64 r)])\/(r=-1/\x=.exit 0/\l'=[])) (hr:ixP (fun i=>decide (t.r.x 0<=h i)) k 0=r) :
 LDoes PG (loopAt PG 158 0) 19 2 (mkT (ikL k h 0)) [some (tsO t),some bxO] x (mkT l') [some (tsO t),some bxO]:=by
 refine loop_q (fun i=>(ikL k h i,[some (tsO t),some bxO])) (fun i=>k-i) (fun i=>i<=k/\ixP (fun i=>decide (t.r.x 0<=h i)) (k-i) i=r) (fun _=>Nat.le_refl _) ?_ 0 ⟨Nat.zero_le _,hr⟩
 rintro i ⟨hi,hp⟩
 rcases Nat.lt_or_ge i k with hlt | q
 · have h1:decide (ofNat i<ofNat k)=true:=decide_eq_true (by simp;omega)
   have bi:(0:Int)<=ofNat i/\ofNat i<(↑k:Int):=⟨by simp,by simp;omega⟩
   have ri:(-9223372036854775808:Int)<=ofNat i+1/\ofNat i+1<=(9223372036854775807:Int):=⟨by simp<;>omega,by simp<;>omega⟩
   rw [show k-i=(k-(i+1))+1 by omega] at hp
   unfold ixP at hp
   cases h2:decide (t.r.x 0<=h i) with
   | true=>
     rw [h2,cond_true] at hp
     subst hp
     obtain ⟨_,rfl,rfl⟩:(ofNat i≠-1/\x=.ret/\l'=[(4,.i .i64 (ofNat i))]):=by rcases hx with c | c;exact c;exact absurd c.1 (by simp<;>omega)
     exact rd_out (ikT_lq t c0 k h i h1 h2) (by repeat' first | exact trivial | assumption | (simp only [h2];rfl) | exact rfl | apply And.intro) rfl rfl (.refl _) (.refl _)
   | false=>
     rw [h2,cond_false] at hp
     exact rd_nrm (ikN_lq t c0 k h i h1 h2) (by repeat' first | exact trivial | assumption | (simp only [h2];rfl) | exact rfl | apply And.intro) (i+1) ⟨hlt,hp⟩ (by show k-(i+1)<k-i;omega) rfl (.refl _) (.refl _)
 · obtain rfl:i=k:=by omega
   rw [show i-i=0 by omega] at hp
   have hb:r=-1:=hp.symm
   subst hb
   obtain ⟨_,rfl,rfl⟩:((-1:Int)=-1/\x=.exit 0/\l'=[]):=by rcases hx with c | c;exact absurd rfl c.1;exact c
   exact rd_out (ikE_lq t i h (decide_eq_false (by simp))) (by repeat' first | exact trivial | assumption | exact decide_eq_false (by simp) | exact rfl | apply And.intro) rfl rfl (.refl _) (.refl _)
theorem iki_con (c0:Cm) (t:TS) (k:Nat) (hk:k<=1152921504606846976) (h:Nat->Int):Con PG 158 [isv k h,.fn (.func 179) [] [.p 1 0]] [some (tsO t),some bxO] (.i .i64 (ixP (fun i=>decide (t.r.x 0<=h i)) k 0)) [.keep,.keep]:=by
 by_cases c:ixP (fun i=>decide (t.r.x 0<=h i)) k 0=-1
 · rw [c];exact con_d (ikg_vq t k h) (by repeat' first | exact trivial | exact ik_lp c0 t k hk h _ _ _ (.inr ⟨rfl,rfl,rfl⟩) c | exact rfl | apply And.intro)
 · exact con_d (ikf_vq t k h _) (by repeat' first | exact trivial | exact ik_lp c0 t k hk h _ _ _ (.inl ⟨c,rfl,rfl⟩) rfl | exact rfl | apply And.intro)
theorem ik_con (c0:Cm) (t:TS) (k:Nat) (hk:k<=1152921504606846976) (h:Nat->Int):Con PG 105 [isv k h,.fn (.func 179) [] [.p 1 0]] [some (tsO t),some bxO] (.b (anyP (fun i=>decide (t.r.x 0<=h i)) k 0)) [.keep,.keep]:=by
 rw [<-ixP_any]
 exact con_d (ikc_vq t k h _) (by repeat' first | exact trivial | exact iki_con c0 t k hk h | exact rfl | apply And.intro)
def lnT (t:TS) (E:Int) (L:Nat) (F G:Nat->Int):TS:={ t with r:={ t.r with x:=fun k=>bif Nat.beq k 2 then E else t.r.x k,mn:=L,mf:=F,sn:=L,sf:=G}}
theorem lk0_vq (t:TS) (c:Cm) (L:Nat) (F G:Nat->Int) (E er:Int) (h1:decide (er=0)=false):VD PG 137 [.p 0 0,cmV c] [some (tsO t)] (.cal [] (.tup [.agg [.i .i64 E,isv L F,isv L G],.i .i64 er]) [] (.t .z)) (.i .i64 er) [.set (tsO t)] [] 4 (fun Lf=>True/\True/\Con PG 178 [.agg [.i .i64 (t.r.x 2),isv t.r.mn t.r.mf,isv t.r.sn t.r.sf],isv c.mn c.mf] [] (.tup [.agg [.i .i64 E,isv L F,isv L G],.i .i64 er]) []/\(!decide (er=0))=true/\Lf):=by unfold VD VQ;kernel_rfl
theorem lk1_vq (t:TS) (c:Cm) (L:Nat) (F G:Nat->Int) (E er:Int) (an:Bool) (h1:decide (er=0)=true) (h2:an=true):VD PG 137 [.p 0 0,cmV c] [some (tsO t)] (.cal [] (.tup [.agg [.i .i64 E,isv L F,isv L G],.i .i64 er]) [] (.f (.cal [0,1] (.b an) [.keep,.keep] (.t .z)))) (.i .i64 2) [.set (tsO t)] [] 4 (fun Lf=>True/\True/\Con PG 178 [.agg [.i .i64 (t.r.x 2),isv t.r.mn t.r.mf,isv t.r.sn t.r.sf],isv c.mn c.mf] [] (.tup [.agg [.i .i64 E,isv L F,isv L G],.i .i64 er]) []/\(!decide (er=0))=false/\True/\Con PG 105 [isv L F,AV.fn (Fn.func 179) [] [.p 1 0]] [some (tsO t),some (AObj.cells 86 1 [] (T.n (some (.p 0 0)) T.e T.e))] (.b an) [.keep,.keep]/\an=true/\Lf):=by unfold VD VQ;kernel_rfl
theorem lk2_vq (t:TS) (c:Cm) (L:Nat) (F G:Nat->Int) (E er:Int) (an:Bool) (h1:decide (er=0)=true) (h2:an=false):VD PG 137 [.p 0 0,cmV c] [some (tsO t)] (.cal [] (.tup [.agg [.i .i64 E,isv L F,isv L G],.i .i64 er]) [] (.f (.cal [0,1] (.b an) [.keep,.keep] (.f .z)))) (.i .i64 0) [.set (tsO (lnT t E L F G))] [] 4 (fun Lf=>True/\True/\Con PG 178 [.agg [.i .i64 (t.r.x 2),isv t.r.mn t.r.mf,isv t.r.sn t.r.sf],isv c.mn c.mf] [] (.tup [.agg [.i .i64 E,isv L F,isv L G],.i .i64 er]) []/\(!decide (er=0))=false/\True/\Con PG 105 [isv L F,AV.fn (Fn.func 179) [] [.p 1 0]] [some (tsO t),some (AObj.cells 86 1 [] (T.n (some (.p 0 0)) T.e T.e))] (.b an) [.keep,.keep]/\an=false/\True/\Lf):=by unfold VD VQ;kernel_rfl
theorem anyP_list (q:Pq2->Bool):∀(l pre:List Pq2),anyP (fun i=>q ((pre ++ l).getD i (0,0))) l.length pre.length=l.any q
 | [],pre=>rfl
 | x :: l,pre=>by
   show (q ((pre ++ x :: l).getD pre.length (0,0)) || anyP _ l.length (pre.length+1))=(q x || l.any q)
   have e:(pre ++ x :: l).getD pre.length (0,0)=x:=by simp [List.getD_eq_getElem?_getD]
   rw [e]
   have:=anyP_list q l (pre ++ [x])
   rw [List.append_assoc,List.length_append] at this
   exact congrArg _ this
theorem nxE_0 {r:Rs} {k:Nat} {h:Nat->Int} (q:nxE r k h=0):r.mn<=3/\k<=3:=by
 unfold nxE at q
 cases h1:chB (r.x 2) r.mn r.sn r.mf r.sf with
 | false=>rw [h1] at q;cases q
 | true=>
   cases h3:arB k h 3 with
   | false=>rw [h1,h3,Bool.and_false,Bool.and_false] at q;cases q
   | true=>exact ⟨(chB_of h1).2.2,arB_len h3⟩
theorem link_con (s:LS) (hn:s.r.mn<=1152921504606846976) (hm:s.r.sn<=1152921504606846976) (c:Cm) (hc:c.mn<=1152921504606846976) :
 Con PG 137 [.p 0 0,cmV c] [some (tsO s.ts)] (.i .i64 (lnE s c)) [.set (tsO (lnS s c).ts)]:=by
 have hx:=next_con s.r hn hm c.mn hc c.mf
 unfold nxV at hx
 unfold lnS lnE
 cases h1:decide (nxE s.r c.mn c.mf=0) with
 | false=>
   rw [h1,cond_false] at hx
   simp only [cond_false,h1]
   have hx':Con PG 178 [.agg [.i .i64 (s.ts.r.x 2),isv s.ts.r.mn s.ts.r.mf,isv s.ts.r.sn s.ts.r.sf],isv c.mn c.mf] [] (.tup [.agg [.i .i64 0,isv 0 fun _=>0,isv 0 fun _=>0],.i .i64 (nxE s.r c.mn c.mf)]) []:=Con.post (us:=[]) hx (VW.tup ⟨VW.agg ⟨.refl _,VW.nil 1 _,VW.nil 1 _,trivial⟩,.refl _,trivial⟩) trivial
   exact con_d (lk0_vq s.ts c 0 (fun _=>0) (fun _=>0) 0 _ h1) (by repeat' first | exact trivial | exact hx' | (simp only [h1];rfl) | exact rfl | apply And.intro)
 | true=>
   rw [h1,cond_true] at hx
   simp only [cond_true]
   have hl:(nxL s.r c.mn c.mf).length<=1152921504606846976:=by
    have a1:=pkN_len (inB c.mn c.mf) s.r.mf s.r.sf s.r.mn 0
    have a2:=pkN_len (fun v=>!inB s.r.mn s.r.mf v) c.mf (fun _=>s.r.x 2+1) c.mn 0
    obtain ⟨b1,b2⟩:=nxE_0 (of_decide_eq_true h1)
    unfold nxL kpL nwL
    rw [List.length_append]
    omega
   have hik:=ik_con c s.ts _ hl (pA (nxL s.r c.mn c.mf))
   have ha:anyP (fun i=>decide (s.ts.r.x 0<=pA (nxL s.r c.mn c.mf) i)) (nxL s.r c.mn c.mf).length 0=(nxL s.r c.mn c.mf).any fun x=>decide (s.r.x 0<=x.1):=anyP_list (fun x=>decide (s.r.x 0<=x.1)) _ []
   rw [ha] at hik
   cases h2:(nxL s.r c.mn c.mf).any fun x=>decide (s.r.x 0<=x.1) with
   | true=>
     rw [h2] at hik
     exact con_d (lk1_vq s.ts c _ _ (pB (nxL s.r c.mn c.mf)) _ _ true h1 rfl) (by repeat' first | exact trivial | exact hx | exact hik | (simp only [h1];rfl) | exact rfl | apply And.intro)
   | false=>
     rw [h2] at hik
     exact con_d (lk2_vq s.ts c _ _ (pB (nxL s.r c.mn c.mf)) _ _ false h1 rfl) (by repeat' first | exact trivial | exact hx | exact hik | (simp only [h1];rfl) | exact rfl | apply And.intro)
theorem AN0_vq (t:TS) (c:Cm) (va:Bool) (h1:va=false):VD PG 15 [tsV t,cmV c] [] (.c (.cal [] (tsV t) [] (.cal [] (.b va) [] (of_ 3 (.t (.c .z)))))) (.tup [tsV t,.agg [.i .i64 2,.i .i64 0,.i .i64 0,.l0,.l0,.l0,.l0]]) [] [] 5 (fun Lf=>Con PG 40 [tsV t] [] (tsV t) []/\Con PG 21 [tsV t] [] (.b va) []/\True/\r3 ((!!va)=false) ((!va)=true/\Lf)):=by unfold VD VQ;kernel_rfl
theorem AN1_vq (t:TS) (c:Cm) (va vc:Bool) (h1:va=true) (h2:vc=false):VD PG 15 [tsV t,cmV c] [] (.c (.cal [] (tsV t) [] (.cal [] (.b va) [] (.t (.t (.cal [] (.b vc) [] (.t (.f (.t .z))))))))) (.tup [tsV t,.agg [.i .i64 2,.i .i64 0,.i .i64 0,.l0,.l0,.l0,.l0]]) [] [] 5 (fun Lf=>Con PG 40 [tsV t] [] (tsV t) []/\Con PG 21 [tsV t] [] (.b va) []/\True/\r2 ((!!va)=true) (Con PG 23 [cmV c] [] (.b vc) []/\(!!va)=true/\True/\(!va)=false/\(!vc)=true/\Lf)):=by unfold VD VQ;kernel_rfl
theorem AO_vq (t t1:TS) (c:Cm) (v:Mb) (va vc:Bool) (h1:va=true) (h2:vc=true):VD PG 15 [tsV t,cmV c] [] (.c (.cal [] (tsV t) [] (.cal [] (.b va) [] (.t (.t (.cal [] (.b vc) [] (.t (.f (.f (.cal [4] (.agg (vwL v)) [.set (tsO t1)] .z)))))))))) (.tup [tsV t1,.agg (vwL v)]) [] [] 6 (fun Lf=>Con PG 40 [tsV t] [] (tsV t) []/\Con PG 21 [tsV t] [] (.b va) []/\True/\r2 ((!!va)=true) (Con PG 23 [cmV c] [] (.b vc) []/\(!!va)=true/\True/\(!va)=false/\(!vc)=false/\Con PG 41 [.p 0 0,cmV c] [some (tsZ t)] (.agg (vwL v)) [.set (tsO t1)]/\Lf)):=by unfold VD VQ;kernel_rfl
theorem dtt {p:Prop} [Decidable p] (h:p):decide p=true:=decide_eq_true h
theorem cmV_I {c:Cm} {k i:Int} (hk:c.k=k) (hc:c.sv=i):cmV c=cmI c k i c.ot:=by subst hk;subst hc;rfl
theorem staI (s:LS) (c:Cm) (i:Nat) (hr:rg ((s.r.s i).x 5+1)) (hc:c.sv=ofNat i):Con PG 89 [.agg (mbL (s.r.s i)),cmI c c.k (ofNat i) c.ot] [] (.b (staB (s.r.s i) c.bt c.sq)) []:=by
 rw [<-cmV_I rfl hc];exact sta_con (s.r.s i) c hr
theorem vwS_ans (s:LS) (e:Int):∀(i:Nat) (_:i<3),vwS (sL s i (ansM (s.r.s i) (vwS s i e))) i e=vwS s i e
 | 0,_=>rfl
 | 1,_=>rfl
 | 2,_=>rfl
theorem vw_ok {s:LS} (g:Gv s) (i:Nat) (hi:i<3) (e:Int):(vwS s i e).mn<=17592186044416/\(vwS s i e).sn<=17592186044416/\(vwS s i e).hn<=5864062014805/\(vwS s i e).dn<=5864062014805:=by
 refine ⟨g.ok.m.1,g.ok.m.2,?_,?_⟩
 · show (bif decide ((s.r.s i).x 0=1) then hldS s (ofNat i) else []).length<=_
   cases decide ((s.r.s i).x 0=1) with
   | false=>exact Nat.zero_le _
   | true=>
     rw [cond_true]
     unfold hldS
     cases isServerB (ofNat i) && vaS s with
     | false=>exact Nat.zero_le _
     | true=>rw [cond_true];have:=hldN_len s (ofNat i) 19;omega
 · show (ddL s.r).length<=_
   have one:∀b j,(ddR b j).length<=1:=fun b j=>by
    unfold ddR;cases decide (b.x 0=2)<;>simp
   have a:=one (s.r.s 0) 0
   have b:=one (s.r.s 1) 1
   have c:=one (s.r.s 2) 2
   unfold ddL
   simp only [List.length_append]
   omega
theorem vw2_con {s:LS} (g:Gv s) (e:Int) (i:Nat) (hi:i<3):Con PG 91 [.p 0 0,.i .i64 (ofNat i),.i .i64 e] [some (tsO (sL s i (ansM (s.r.s i) (vwS s i e))).ts)] (.agg (vwL (vwS s i e))) [.keep]:=by
 have g2:Gv (sL s i (ansM (s.r.s i) (vwS s i e))):=g.sL i (vw_ok g i hi e) (g.gn i hi)
 have:=vw_con _ g2.ok g2.gn e i hi
 rw [vwS_ans s e i hi] at this
 exact this
theorem gv_de {s:LS} (g:Gd s) (c:Cm) (i:Nat) (hi:i<3) (ho:0<=c.ot/\c.ot<=2) (h7:c.k≠7\/Gv (lnS s c)) (hk:1<=c.k/\c.k<=7):Gv (deS s c i):=by
 unfold deS
 have hj:c.ot.toNat<3:=by omega
 cases h1:decide (c.k=1) with
 | true=>exact gv_mnt g i hi
 | false=>
   cases h56:decide (c.k=5) || decide (c.k=6) with
   | true=>
     simp only [cond_false,cond_true]
     cases !decide (c.ot=c.sv) && !alB (s.r.s i) c.gn with
     | true=>exact g.gv
     | false=>
       cases decide ((s.r.s c.ot.toNat).x 0=2) with
       | false=>exact g.gv
       | true=>cases decide (c.k=5) with
         | true=>exact gv_hp g.gv _ hj _
         | false=>exact gv_dn g.gv _ hj _
   | false=>
     simp only [cond_false]
     cases alB (s.r.s i) c.gn with
     | false=>exact g.gv
     | true=>
       simp only [cond_true]
       cases h2:decide (c.k=2) with
       | true=>exact g.gv.sL i (g.ok.s i) (g.gv.gn i hi)
       | false=>cases h3:decide (c.k=3) with
         | true=>exact gv_lk g.gv c
         | false=>cases h4:decide (c.k=4) with
           | true=>exact gv_ul g.gv c
           | false=>
             simp only [cond_false]
             rcases h7 with h7 | h7
             · simp at h1 h56 h2 h3 h4;omega
             · exact h7
def DeC (g:Nat) (ext:Bool) (cap:Nat) (s:LS) (c:Cm) (k:Int) (i:Nat) (e:Int) (w:LS):Prop:=
 bif ext then Con PG g [.p 0 0,cmI c k (ofNat i) c.ot,.p 1 0] [some (tsO s.ts),some (fnO cap)] (.i .i64 e) [.set (tsO w.ts),.keep]
 else Con PG g [.p 0 0,cmI c k (ofNat i) c.ot] [some (tsO s.ts)] (.i .i64 e) [.set (tsO w.ts)]
theorem de1 {s:LS} (g:Gd s) (c:Cm) (i:Nat) (hi:i<3) (hc:c.sv=ofNat i) (hk:c.k=1):DeC 132 false 0 s c 1 i (deE s c i) (deS s c i):=by
 unfold DeC deE deS
 rw [dtt hk]
 have h1:=g.gn i hi
 have ht:=g.tm
 exact mnt_con s.ts c 1 c.ot i hi ⟨by show _<=(s.r.s i).x 1+1;omega,by show (s.r.s i).x 1+1<=_;omega⟩ ⟨by show _<=s.r.x 1+60;omega,by show s.r.x 1+60<=_;omega⟩
theorem alive_cases {s:LS} (c:Cm) (i:Nat) (hi:i<3) (hc:c.sv=ofNat i) (g:Nat) (e:Int) (w:LS) (k:Int) (hk:c.k=k)
 (hT:alB (s.r.s i) c.gn=true->Con PG 173 [.p 0 0,cmV c,.p 1 0] [some (tsO s.ts),some (fnO g)] (.i .i64 e) [.set (tsO w.ts),.keep]) :
 DeC 173 true g s c k i (bif alB (s.r.s i) c.gn then e else 27) (bif alB (s.r.s i) c.gn then w else s):=by
 unfold DeC
 rw [cond_true,<-cmV_I hk hc]
 cases h:alB (s.r.s i) c.gn with
 | true=>exact hT h
 | false=>exact oaF_con s c g _ h (alvI s c i hi hc)
theorem de2 {s:LS} (g:Gd s) (c:Cm) (i:Nat) (hi:i<3) (hc:c.sv=ofNat i) (hk:c.k=2):DeC 173 true 134 s c 2 i (deE s c i) (deS s c i):=by
 have e1:deE s c i=bif alB (s.r.s i) c.gn then 0 else 27:=by unfold deE;rw [hk];rfl
 have e2:deS s c i=bif alB (s.r.s i) c.gn then sL s i (xM (s.r.s i) 2 (s.r.x 1+60)) else s:=by unfold deS;rw [hk];rfl
 have ht:=g.tm
 rw [e1,e2]
 refine alive_cases c i hi hc 134 0 _ 2 hk fun h=>oa134 s _ c 0 _ h (alvI s c i hi hc) ?_
 rw [cmV_I hk hc]
 exact rnw_con s.ts c 2 c.ot ⟨by show _<=s.r.x 1+60;omega,by show s.r.x 1+60<=_;omega⟩ i hi
theorem de3 {s:LS} (g:Gd s) (c:Cm) (i:Nat) (hi:i<3) (hc:c.sv=ofNat i) (hk:c.k=3):DeC 173 true 135 s c 3 i (deE s c i) (deS s c i):=by
 have e1:deE s c i=bif alB (s.r.s i) c.gn then askE s c.lk c.sv c.md else 27:=by unfold deE;rw [hk];rfl
 have e2:deS s c i=bif alB (s.r.s i) c.gn then lkS s c else s:=by unfold deS;rw [hk];rfl
 rw [e1,e2]
 exact alive_cases c i hi hc 135 _ _ 3 hk fun h=>oa135 s _ c _ _ h (alvI s c i hi hc) (lock_con s g.ok c)
theorem de4 {s:LS} (g:Gd s) (c:Cm) (i:Nat) (hi:i<3) (hc:c.sv=ofNat i) (hk:c.k=4):DeC 173 true 136 s c 4 i (deE s c i) (deS s c i):=by
 have e1:deE s c i=bif alB (s.r.s i) c.gn then freeE s c.lk c.sv else 27:=by unfold deE;rw [hk];rfl
 have e2:deS s c i=bif alB (s.r.s i) c.gn then ulS s c else s:=by unfold deS;rw [hk];rfl
 rw [e1,e2]
 exact alive_cases c i hi hc 136 _ _ 4 hk fun h=>oa136 s _ c _ _ h (alvI s c i hi hc) (unlock_con s g.ok c)
theorem de56 {s:LS} (g:Gd s) (c:Cm) (i:Nat) (hi:i<3) (hc:c.sv=ofNat i) (ho:0<=c.ot/\c.ot<=2) (k:Int) (hk:c.k=k) (cap:Nat) (hcap:(k=5/\cap=139)\/(k=6/\cap=140)):DeC 180 true cap s c k i (deE s c i) (deS s c i):=by
 obtain ⟨j,hj,ej⟩:∃j:Nat,j<3/\c.ot=ofNat j:=⟨c.ot.toNat,by omega,by simp;omega⟩
 have n1:decide (c.k=1)=false:=decide_eq_false (by omega)
 have n56:(decide (c.k=5) || decide (c.k=6))=true:=by simp;omega
 have hpj:=g.hp j hj
 have al:=alv_con s.ts c k (ofNat j) i hi
 have ejn:c.ot.toNat=j:=by rw [ej];rfl
 unfold DeC deE deS
 rw [n1,n56,ejn,hc,ej]
 simp only [cond_true,cond_false]
 cases h0:decide (ofNat j=ofNat i) with
 | false=>
   cases h1:alB (s.r.s i) c.gn with
   | false=>exact ohA s c k (ofNat i) _ cap j hj h0 h1 al
   | true=>
     cases h2:decide ((s.r.s j).x 0=2) with
     | false=>exact ohB s c k (ofNat i) _ cap j hj h0 h1 h2 al
     | true=>
       rcases hcap with ⟨rfl,rfl⟩ | ⟨rfl,rfl⟩
       · rw [dtt hk];exact ohC139 s _ c 5 (ofNat i) _ _ j hj h0 h1 h2 al (hp_con s c 5 _ j hj hpj)
       · rw [show decide (c.k=5)=false from decide_eq_false (by omega)];exact ohC140 s _ c 6 (ofNat i) _ _ j hj h0 h1 h2 al (dn_con s g.ok c 6 _ j hj)
 | true=>
   cases h2:decide ((s.r.s j).x 0=2) with
   | false=>exact ohD s c k (ofNat i) cap j hj h0 h2
   | true=>
     rcases hcap with ⟨rfl,rfl⟩ | ⟨rfl,rfl⟩
     · rw [dtt hk];exact ohE139 s _ c 5 (ofNat i) _ j hj h0 h2 (hp_con s c 5 _ j hj hpj)
     · rw [show decide (c.k=5)=false from decide_eq_false (by omega)];exact ohE140 s _ c 6 (ofNat i) _ j hj h0 h2 (dn_con s g.ok c 6 _ j hj)
def LnC (s:LS) (c:Cm):Prop:=Con PG 137 [.p 0 0,cmV c] [some (tsO s.ts)] (.i .i64 (lnE s c)) [.set (tsO (lnS s c).ts)]/\Gv (lnS s c)
theorem de7 {s:LS} (c:Cm) (i:Nat) (hi:i<3) (hc:c.sv=ofNat i) (hk:c.k=7) (h:LnC s c):DeC 173 true 137 s c 7 i (deE s c i) (deS s c i):=by
 have e1:deE s c i=bif alB (s.r.s i) c.gn then lnE s c else 27:=by unfold deE;rw [hk];rfl
 have e2:deS s c i=bif alB (s.r.s i) c.gn then lnS s c else s:=by unfold deS;rw [hk];rfl
 rw [e1,e2]
 exact alive_cases c i hi hc 137 _ _ 7 hk fun h'=>oa137 s _ c _ _ h' (alvI s c i hi hc) h.1
theorem apply_con {s:LS} (g:Gd s) (c:Cm) (i:Nat) (hi:i<3) (hc:c.sv=ofNat i) (ho:0<=c.ot/\c.ot<=2) (hd:0<=c.d/\c.d<=1048576) (hq:1<=c.sq/\c.sq<=1099511627776) (hk:1<=c.k/\c.k<=7)
 (h7:c.k=7->LnC (s2L s c i) c):Con PG 41 [.p 0 0,cmV c] [some (tsO s.ts)] (.agg (vwL (apV s c i))) [.set (tsO (apS s c i).ts)]:=by
 have h5:=g.sq i hi
 have ht:=g.tm
 have hs:=staI s c i ⟨by show _<=(s.r.s i).x 5+1;omega,by show (s.r.s i).x 5+1<=_;omega⟩ hc
 have k8:decide (c.k=8)=false:=decide_eq_false (by omega)
 have hps:Con PG 88 [.p 0 0,.i .i64 c.d] [some (tsO s.ts)] (.i .i64 (pasE s.ts c.d)) [.set (tsO (pasL s c.d).ts)]:=by
  rw [<-pasL_ts]
  exact pass_con s.ts c.d ⟨by show _<=s.r.x 1+c.d;omega,by show s.r.x 1+c.d<=_;omega⟩
 rw [cmV_I rfl hc]
 unfold apV apS
 cases h1:staB (s.r.s i) c.bt c.sq with
 | true=>exact apS_con s c c.k k8 i hi (h1▸hs)
 | false=>
   rw [h1] at hs
   cases h2:agB (s.r.s i) c with
   | true=>
     have h2':=h2
     unfold agB at h2'
     rw [Bool.and_eq_true] at h2'
     exact apA_con s c c.k k8 i hi hs (cv_con _ (g.ok.s i)) h2'.1 h2'.2
   | false=>
     cases h4:decide (pasE s.ts c.d=0) with
     | false=>exact apE_con s _ c c.k _ k8 h4 hps i hi hs h2
     | true=>
       have g2:=gd_s2 g c i hi hd.1 (by omega)
       have gw:Gv (deS (s2L s c i) c i):=gv_de g2 c i hi ho (by rcases Classical.em (c.k=7) with h | h;exact .inr (h7 h).2;exact .inl h) hk
       have hv:=vw_con _ gw.ok gw.gn (deE (s2L s c i) c i) i hi
       have hv2:=vw2_con gw (deE (s2L s c i) c i) i hi
       have c1:c.k=1\/c.k=2\/c.k=3\/c.k=4\/c.k=5\/c.k=6\/c.k=7:=by omega
       rcases c1 with q | q | q | q | q | q | q
       · have hdc:=de1 g2 c i hi hc q
         rw [q] at hs⊢
         exact apk1 s c (pasL s c.d) _ _ _ _ false rfl h4 hps i hi hs hdc hv hv2 h2
       · have hdc:=de2 g2 c i hi hc q
         rw [q] at hs⊢
         exact apk2 s c (pasL s c.d) _ _ _ _ false rfl h4 hps i hi hs hdc hv hv2 h2
       · have hdc:=de3 g2 c i hi hc q
         rw [q] at hs⊢
         exact apk3 s c (pasL s c.d) _ _ _ _ false rfl h4 hps i hi hs hdc hv hv2 h2
       · have hdc:=de4 g2 c i hi hc q
         rw [q] at hs⊢
         exact apk4 s c (pasL s c.d) _ _ _ _ false rfl h4 hps i hi hs hdc hv hv2 h2
       · have hdc:=de56 g2 c i hi hc ho 5 q 139 (.inl ⟨rfl,rfl⟩)
         rw [q] at hs⊢
         exact apk5 s c (pasL s c.d) _ _ _ _ false rfl h4 hps i hi hs hdc hv hv2 h2
       · have hdc:=de56 g2 c i hi hc ho 6 q 140 (.inr ⟨rfl,rfl⟩)
         rw [q] at hs⊢
         exact apk6 s c (pasL s c.d) _ _ _ _ false rfl h4 hps i hi hs hdc hv hv2 h2
       · have hdc:=de7 c i hi hc q (h7 q)
         rw [q] at hs⊢
         exact apk7 s c (pasL s c.d) _ _ _ _ false rfl h4 hps i hi hs hdc hv hv2 h2
theorem vc_gd {c:Cm} (h:vcB c=true):(1<=c.k/\c.k<=8)/\(0<=c.d/\c.d<=1048576)/\(c.k<=7->(0<=c.sv/\c.sv<=2)/\(1<=c.sq/\c.sq<=1099511627776)/\(0<=c.ot/\c.ot<=2)):=by
 unfold vcB at h
 rw [Bool.and_eq_true] at h
 obtain ⟨hk,hf⟩:=h
 have hk:=wi_iff.1 hk
 have e:∀i,shA c.k i=shA c.k i:=fun _=>rfl
 unfold fitB at hf
 simp only [Bool.and_eq_true,wi_iff] at hf
 obtain ⟨h1,h2,h3,h4,h5,h6,h7,h8,_⟩:=hf
 have c1:c.k=1\/c.k=2\/c.k=3\/c.k=4\/c.k=5\/c.k=6\/c.k=7\/c.k=8:=by omega
 rcases c1 with q | q | q | q | q | q | q | q<;>(rw [q] at h1 h3 h7 h8;simp only [shA,shT] at h1 h3 h7 h8;simp at h1 h3 h7 h8;refine ⟨hk,?_,fun h=>⟨?_,?_,?_⟩⟩<;>omega)
def ApS (s:LS) (c:Cm):LS:=bif vaB s && vcB c then (bif decide (c.k=8) then pasL s c.d else apS s c c.sv.toNat) else s
def ApV (s:LS) (c:Cm):Mb:=bif vaB s && vcB c then (bif decide (c.k=8) then cdM (pasE s.ts c.d) else apV s c c.sv.toNat) else cdM 2
theorem tup_vw (s:LS) {v:AV} {b:Mb} (h:VW v (.agg (vwL b))):VW (.tup [lsV s,v]) (.tup [lsV s,.agg (vwL b)]):=.tup ⟨.refl _,h,trivial⟩
theorem Apply_con (s:LS) (ok:s.ok) (c:Cm) (hm:c.mn<=1152921504606846976) (h7:vaB s=true->vcB c=true->c.k=7->LnC (s2L s c c.sv.toNat) c):Con PG 15 [lsV s,cmV c] [] (.tup [lsV (ApS s c),.agg (vwL (ApV s c))]) []:=by
 have hcp:=cp_con s.ts ok
 have hva:=val_con s ok
 have hvc:=vcm_con c hm
 unfold ApS ApV
 cases h1:vaB s with
 | false=>
   rw [h1] at hva
   refine Con.post (us:=[]) ?_ (tup_vw s (cd_vw 2)) (.refl _)
   exact con_d (AN0_vq s.ts c false rfl) (by repeat' first | exact trivial | exact hcp | exact hva | exact hvc | exact rfl | exact nF rfl | exact nT rfl | apply And.intro)
 | true=>
   rw [h1] at hva
   cases h2:vcB c with
   | false=>
     rw [h2] at hvc
     refine Con.post (us:=[]) ?_ (tup_vw s (cd_vw 2)) (.refl _)
     exact con_d (AN1_vq s.ts c true false rfl rfl) (by repeat' first | exact trivial | exact hcp | exact hva | exact hvc | exact rfl | exact nF rfl | exact nT rfl | apply And.intro)
   | true=>
     rw [h2] at hvc
     have g:=gd_of ok h1
     obtain ⟨hk,hd,hr⟩:=vc_gd h2
     have ap:∃u b,(bif decide (c.k=8) then pasL s c.d else apS s c c.sv.toNat)=u/\(bif decide (c.k=8) then cdM (pasE s.ts c.d) else apV s c c.sv.toNat)=b/\Con PG 41 [.p 0 0,cmV c] [some (tsO s.ts)] (.agg (vwL b)) [.set (tsO u.ts)]:=by
      refine ⟨_,_,rfl,rfl,?_⟩
      cases h8:decide (c.k=8) with
      | true=>
        have q:=of_decide_eq_true h8
        have ht:=g.tm
        rw [cmV_I q rfl]
        refine ap8_con s (pasL s c.d) c c.sv _ ?_
        rw [<-pasL_ts]
        exact pass_con s.ts c.d ⟨by show _<=s.r.x 1+c.d;omega,by show s.r.x 1+c.d<=_;omega⟩
      | false=>
        have q:=of_decide_eq_false h8
        obtain ⟨r1,r2,r3⟩:=hr (by omega)
        exact apply_con g c c.sv.toNat (by omega) (by simp;omega) r3 hd r2 ⟨hk.1,by omega⟩ (h7 h1 h2)
     obtain ⟨u,b,e1,e2,hap⟩:=ap
     show Con PG 15 [lsV s,cmV c] [] (.tup [lsV (bif decide (c.k=8) then pasL s c.d else apS s c c.sv.toNat),.agg (vwL (bif decide (c.k=8) then cdM (pasE s.ts c.d) else apV s c c.sv.toNat))]) []
     rw [e1,e2]
     have hap2:Con PG 41 [.p 0 0,cmV c] [some (tsZ s.ts)] (.agg (vwL b)) [.set (tsO u.ts)]:=hap.ovl ⟨tsD_ov _ _ _,trivial⟩ rfl
     exact con_d (AO_vq s.ts u.ts c b true true rfl rfl) (by repeat' first | exact trivial | exact hcp | exact hva | exact hvc | exact hap2 | exact rfl | exact nF rfl | exact nT rfl | apply And.intro)
end Go.Proofs.Sv
namespace Go.Proofs.Sv
open Go Go.Sim Go.Proofs Go.Proofs.Lk
def sbB (b:Mb) (st:Int):Bool:=mmB b && anB b st
structure Va (s:LS):Prop where
 st:1<=s.r.x 0/\s.r.x 0<=3
 tm:0<=s.r.x 1/\s.r.x 1<=4503599627370496
 cf:cfB (s.r.x 2) s.r.mn s.r.sn s.r.mf s.r.sf (s.r.x 0)=true
 sb:∀i,i<3->sbB (s.r.s i) (s.r.x 0)=true
 lk:vaS s=true
theorem va_iff (s:LS):vaB s=true↔Va s:=by
 constructor
 · intro h
   simp only [vaB,svB,Bool.and_eq_true,wi_iff] at h
   obtain ⟨h1,h2,h3,⟨h4,h5,h6⟩,h7⟩:=h
   refine ⟨h1,h2,h3,fun i hi=>?_,h7⟩
   match i,hi with
   | 0,_=>exact (Bool.and_eq_true _ _).symm▸h4
   | 1,_=>exact (Bool.and_eq_true _ _).symm▸h5
   | 2,_=>exact (Bool.and_eq_true _ _).symm▸h6
 · intro h
   have a0:=h.sb 0 (by decide)
   have a1:=h.sb 1 (by decide)
   have a2:=h.sb 2 (by decide)
   simp only [sbB,Bool.and_eq_true] at a0 a1 a2
   simp only [vaB,svB,Bool.and_eq_true,wi_iff]
   exact ⟨h.st,h.tm,h.cf,⟨a0,a1,a2⟩,h.lk⟩
theorem Va.sL {s:LS} (v:Va s) (i:Nat) {b:Mb} (h:sbB b (s.r.x 0)=true):Va (sL s i b):=
 ⟨v.st,v.tm,v.cf,sL_at (Q:=fun b=>sbB b (s.r.x 0)=true) v.sb h,v.lk⟩
structure Mm (b:Mb):Prop where
 a:0<=b.x 0/\b.x 0<=2
 g:0<=b.x 1/\b.x 1<=1099511627776
 bt:0<=b.x 4/\b.x 4<=1099511627776
 sq:0<=b.x 5/\b.x 5<=1099511627776
 e:0<=b.x 2/\b.x 2<=4503599627370556
 h:-1<=b.x 3/\b.x 3<=2
theorem mm_iff (b:Mb):mmB b=true↔Mm b:=by
 simp only [mmB,isHelpB,Bool.and_eq_true,wi_iff]
 exact ⟨fun ⟨h1,h2,h3,h4,h5,h6⟩=>⟨h1,h2,h3,h4,h5,h6⟩,fun h=>⟨h.a,h.g,h.bt,h.sq,h.e,h.h⟩⟩
theorem sb_mm {b:Mb} {st:Int} (h:sbB b st=true):Mm b:=by
 unfold sbB at h;rw [Bool.and_eq_true] at h;exact (mm_iff b).1 h.1
theorem sb_of {b b':Mb} {st:Int} (h:sbB b st=true) (m:Mm b') (e:anB b' st=anB b st):sbB b' st=true:=by
 unfold sbB at h⊢;rw [Bool.and_eq_true] at h⊢;exact ⟨(mm_iff b').2 m,e▸h.2⟩
theorem sb_dead {b:Mb} {st:Int} (h:sbB b st=true):sbB (deadM b) st=true:=by
 have m:=sb_mm h
 exact sb_of h ⟨by show (0:Int)<=2/\(2:Int)<=2;decide,m.g,m.bt,m.sq,m.e,by show (-1:Int)≤-1/\(-1:Int)<=2;decide⟩ rfl
theorem sb_pas {b:Mb} {st:Int} (T:Int) (h:sbB b st=true):sbB (pasM T b) st=true:=by
 rcases pasM_q T b with e | e<;>rw [e]
 · exact h
 · exact sb_dead h
theorem va_pas {s:LS} (v:Va s) (d:Int) (hd:0<=d):Va (pasL s d):=by
 unfold pasL
 cases h:decide (4503599627370496<s.r.x 1+d) with
 | true=>exact v
 | false=>
   have h:=of_decide_eq_false h
   have ht:=v.tm
   refine ⟨v.st,⟨by show 0<=s.r.x 1+d;omega,by show s.r.x 1+d<=_;omega⟩,v.cf,fun j hj=>?_,v.lk⟩
   show sbB (bif Nat.blt j 3 then pasM (s.r.x 1+d) (s.r.s j) else s.r.s j) (s.r.x 0)=true
   cases Nat.blt j 3 with
   | false=>exact v.sb j hj
   | true=>exact sb_pas _ (v.sb j hj)
theorem sb_bs {b:Mb} {st bt sq:Int} (h:sbB b st=true) (h1:0<=bt/\bt<=1099511627776) (h2:0<=sq/\sq<=1099511627776):sbB (bsM b bt sq) st=true:=by
 have m:=sb_mm h
 exact sb_of h ⟨m.a,m.g,h1,h2,m.e,m.h⟩ rfl
theorem va_s2 {s:LS} (v:Va s) (c:Cm) (i:Nat) (hi:i<3) (hd:0<=c.d) (h1:0<=c.bt/\c.bt<=1099511627776) (h2:0<=c.sq/\c.sq<=1099511627776):Va (s2L s c i):=by
 have p:=va_pas v c.d hd
 exact p.sL i (sb_bs (p.sb i hi) h1 h2)
theorem sb_mnt {b:Mb} {st T:Int} (h:sbB b st=true) (ht:0<=T/\T<=4503599627370496):sbB (mntB b T) st=true:=by
 have m:=sb_mm h
 unfold mntB
 cases h1:decide (b.x 0=1) with
 | true=>exact sb_dead h
 | false=>cases h2:decide (b.x 0=2) with
   | true=>exact h
   | false=>cases h3:decide (b.x 1=1099511627776) with
     | true=>exact h
     | false=>
       have h3:=of_decide_eq_false h3
       have hg:=m.g
       exact sb_of h ⟨by show (0:Int)<=1/\(1:Int)<=2;decide,by show 0<=b.x 1+1/\b.x 1+1<=_;omega,m.bt,m.sq,by show 0<=T+60/\T+60<=_;omega,by show (-1:Int)≤-1/\(-1:Int)<=2;decide⟩ rfl
theorem sb_rnw {b:Mb} {st T:Int} (h:sbB b st=true) (ht:0<=T/\T<=4503599627370496):sbB (xM b 2 (T+60)) st=true:=by
 have m:=sb_mm h
 exact sb_of h ⟨m.a,m.g,m.bt,m.sq,by show 0<=T+60/\T+60<=_;omega,m.h⟩ rfl
theorem sb_hlp {b:Mb} {st sv:Int} (h:sbB b st=true) (ht:0<=sv/\sv<=2):sbB (xM b 3 sv) st=true:=by
 have m:=sb_mm h
 exact sb_of h ⟨m.a,m.g,m.bt,m.sq,m.e,by show -1<=sv/\sv<=2;omega⟩ rfl
theorem sb_abs {b:Mb} {st:Int} (h:sbB b st=true):sbB (absM b) st=true:=by
 have m:=sb_mm h
 exact sb_of h ⟨by show (0:Int)<=0/\(0:Int)<=2;decide,m.g,m.bt,m.sq,m.e,by show (-1:Int)≤-1/\(-1:Int)<=2;decide⟩ rfl
theorem sb_ans {b v:Mb} {st:Int} (h:sbB b st=true) (hv:anB v st=true):sbB (ansM b v) st=true:=by
 have m:=sb_mm h
 unfold sbB;rw [Bool.and_eq_true]
 exact ⟨(mm_iff _).2 ⟨m.a,m.g,m.bt,m.sq,m.e,m.h⟩,hv⟩
theorem anyP_of (p:Nat->Bool):∀(m i:Nat),(∀j,i<=j->j<i+m->p j=false)->anyP p m i=false
 | 0,_,_=>rfl
 | m+1,i,h=>by
   unfold anyP
   rw [h i (Nat.le_refl _) (by omega),Bool.false_or]
   exact anyP_of p m (i+1) fun j a b=>h j (by omega) (by omega)
theorem amH_of {l m w:Int} (h1:0<=l/\l<=18) (h2:0<=m/\m<=2) (h3:0<=w/\w<=2):amH l m w=false:=by
 unfold amH isMdB;rw [wi_iff.2 h1,wi_iff.2 h2,wi_iff.2 h3];rfl
theorem amD_of {s f h:Int} (h1:0<=s/\s<=2) (h2:0<=f/\f<=1099511627777) (h3:-1<=h/\h<=2):amD s f h=false:=by
 unfold amD isHelpB;rw [wi_iff.2 h1,wi_iff.2 h2,wi_iff.2 h3];rfl
theorem ddR_mem {b:Mb} {i:Nat} {x:HQ} (h:x∈ddR b i):x.a=ofNat i/\x.m=b.x 1+1/\x.w=b.x 3:=by
 unfold ddR at h
 cases hd:decide (b.x 0=2) with
 | true=>rw [hd,cond_true] at h;simp at h;subst h;exact ⟨rfl,rfl,rfl⟩
 | false=>rw [hd,cond_false] at h;simp at h
theorem dd_an {s:LS} (v:Va s):∀j,j<(ddL s.r).length->amD (qA (ddL s.r) j) (qM (ddL s.r) j) (qW (ddL s.r) j)=false:=by
 intro j hj
 have hm:(ddL s.r).getD j hz∈ddL s.r:=by
  rw [List.getD_eq_getElem?_getD,List.getElem?_eq_getElem hj];exact List.getElem_mem hj
 generalize hx:(ddL s.r).getD j hz=x at hm
 have key:∃i,i<3/\x.a=ofNat i/\x.m=(s.r.s i).x 1+1/\x.w=(s.r.s i).x 3:=by
  unfold ddL at hm
  rcases List.mem_append.1 hm with h | h
  · exact ⟨0,by decide,ddR_mem h⟩
  · rcases List.mem_append.1 h with h | h
    · exact ⟨1,by decide,ddR_mem h⟩
    · exact ⟨2,by decide,ddR_mem h⟩
 obtain ⟨i,hi,e1,e2,e3⟩:=key
 have m:=sb_mm (v.sb i hi)
 have hg:=m.g
 have hh:=m.h
 unfold qA qM qW
 rw [hx]
 exact amD_of (by rw [e1];simp;omega) (by omega) (by omega)
theorem dd_len (r:Rs):(ddL r).length<=3:=by
 have one:∀b j,(ddR b j).length<=1:=fun b j=>by
  unfold ddR;cases decide (b.x 0=2)<;>simp
 have a:=one (r.s 0) 0
 have b:=one (r.s 1) 1
 have c:=one (r.s 2) 2
 unfold ddL
 simp only [List.length_append]
 omega
theorem an_vw {s:LS} (v:Va s) (i:Nat) (hi:i<3) (e:Int) (he:0<=e/\e<=99) (hl:List HQ) (hn:hl.length<=19) (hh:∀j,j<hl.length->amH (qA hl j) (qM hl j) (qW hl j)=false):anB (vwM s.r i e hl (ddL s.r)) (s.r.x 0)=true:=by
 have m:=sb_mm (v.sb i hi)
 have d:=dd_len s.r
 have h1:wi ((vwM s.r i e hl (ddL s.r)).x 6) 0 99=true:=wi_iff.2 he
 have h2:wi ((vwM s.r i e hl (ddL s.r)).x 7) 0 1099511627776=true:=wi_iff.2 m.g
 have h3:cfB ((vwM s.r i e hl (ddL s.r)).x 8) (vwM s.r i e hl (ddL s.r)).mn (vwM s.r i e hl (ddL s.r)).sn (vwM s.r i e hl (ddL s.r)).mf (vwM s.r i e hl (ddL s.r)).sf (s.r.x 0)=true:=v.cf
 have h4:decide (ofNat (vwM s.r i e hl (ddL s.r)).hn<=19)=true:=decide_eq_true (by show ofNat hl.length<=19;simp;omega)
 have h5:anyP (fun k=>amH ((vwM s.r i e hl (ddL s.r)).hA k) ((vwM s.r i e hl (ddL s.r)).hM k) ((vwM s.r i e hl (ddL s.r)).hW k)) (vwM s.r i e hl (ddL s.r)).hn 0=false:=anyP_of _ _ _ fun j _ hj=>hh j (by rw [Nat.zero_add] at hj;exact hj)
 have h6:decide (ofNat (vwM s.r i e hl (ddL s.r)).dn<=3)=true:=decide_eq_true (by show ofNat (ddL s.r).length<=3;simp;omega)
 have h7:anyP (fun k=>amD ((vwM s.r i e hl (ddL s.r)).dA k) ((vwM s.r i e hl (ddL s.r)).dM k) ((vwM s.r i e hl (ddL s.r)).dW k)) (vwM s.r i e hl (ddL s.r)).dn 0=false:=anyP_of _ _ _ fun j _ hj=>dd_an v j (by rw [Nat.zero_add] at hj;exact hj)
 unfold anB
 rw [h1,h2,h3,h4,h5,h6,h7]
 simp
theorem may_h {r:Rw} (h:mayB r=true):∀i,i<3->0<=r.h i/\r.h i<=2:=by
 unfold mayB mayBeB hmB at h
 simp only [Bool.and_eq_true] at h
 obtain ⟨⟨⟨h0,h1,_⟩,h2,_⟩,_⟩:=h
 have m:∀k:Int,isModeB k=true->0<=k/\k<=2:=fun k hk=>by
  simp [isModeB,isWishB] at hk;omega
 intro i hi
 match i,hi with
 | 0,_=>exact m _ h0
 | 1,_=>exact m _ h1
 | 2,_=>exact m _ h2
theorem may_hx {r:Rw} (h:mayB r=true) (k:Int) (hk:0<=k/\k<3):0<=hx r.h k/\hx r.h k<=2:=by
 have a:=may_h h
 have c:k=0\/k=1\/k=2:=by omega
 rcases c with rfl | rfl | rfl
 · exact a 0 (by decide)
 · exact a 1 (by decide)
 · exact a 2 (by decide)
theorem may_want {r:Rw} (h:mayB r=true) (k:Int):0<=wantR r k/\wantR r k<=2:=by
 unfold wantR wantB
 by_cases hn:r.q.length=0
 · rw [if_pos hn];decide
 · rw [if_neg hn]
   by_cases h1:qA r.q 0=k
   · rw [if_pos h1];decide
   · rw [if_neg h1]
     cases h2:goesB (qM r.q 0) (hx r.h k) with
     | true=>simp
     | false=>
       unfold mayB mayBeB at h
       simp only [Bool.and_eq_true] at h
       obtain ⟨_,hq,_⟩:=h
       obtain ⟨m,hm⟩:∃m,r.q.length=m+1:=⟨r.q.length-1,by omega⟩
       have hq:qmB r.h r.q.length (qA r.q) (qM r.q) (qW r.q) (m+1) 0=true:=hm▸hq
       unfold qmB mayWaitB isWishB at hq
       simp only [Bool.and_eq_true,Bool.or_eq_true,decide_eq_true_eq] at hq
       simp only [Bool.false_eq_true,if_false]
       obtain ⟨⟨_,hw,_⟩,_⟩:=hq
       omega
theorem hld_mem (s:LS) (h:vaS s=true) (k:Int) (hk:0<=k/\k<3):∀l,l<=19->∀x∈hldN s k l,(0<=x.a/\x.a<=18)/\(0<=x.m/\x.m<=2)/\(0<=x.w/\x.w<=2)
 | 0,_,x,hx=>by simp [hldN] at hx
 | l+1,hl,x,hx0=>by
   rw [hldN_s] at hx0
   rcases List.mem_append.1 hx0 with q | q
   · exact hld_mem s h k hk l (by omega) x q
   · have hm:=va_row h (l:=l) (by omega)
     split at q
     · simp at q
     · simp at q
       subst q
       exact ⟨⟨by simp,by simp;omega⟩,may_hx hm k hk,may_want hm k⟩
theorem an_vwS {s:LS} (v:Va s) (i:Nat) (hi:i<3) (e:Int) (he:0<=e/\e<=99):anB (vwS s i e) (s.r.x 0)=true:=by
 unfold vwS
 cases decide ((s.r.s i).x 0=1) with
 | false=>exact an_vw v i hi e he [] (by simp) (fun j hj=>by simp at hj)
 | true=>
   rw [cond_true]
   unfold hldS
   cases isServerB (ofNat i) && vaS s with
   | false=>exact an_vw v i hi e he [] (by simp) (fun j hj=>by simp at hj)
   | true=>
     rw [cond_true]
     refine an_vw v i hi e he _ (hldN_len s _ 19) fun j hj=>?_
     have hm:(hldN s (ofNat i) 19).getD j hz∈hldN s (ofNat i) 19:=by
      rw [List.getD_eq_getElem?_getD,List.getElem?_eq_getElem hj];exact List.getElem_mem hj
     obtain ⟨a,b,c⟩:=hld_mem s v.lk (ofNat i) ⟨by simp,by simp;omega⟩ 19 (Nat.le_refl _) _ hm
     exact amH_of a b c
theorem Va.row {s u:LS} (v:Va s) (hr:u.r=s.r) (h:vaS u=true):Va u:=⟨hr▸v.st,hr▸v.tm,by rw [hr];exact v.cf,by rw [hr];exact v.sb,h⟩
theorem va_lk {s:LS} (v:Va s) (c:Cm):Va (lkS s c):=by
 unfold lkS
 cases h:decide (askE s c.lk c.sv c.md=0) with
 | true=>exact v.row (askS_r s _ _ _ (of_decide_eq_true h)) (askS_va v.lk _ _ _)
 | false=>exact v
theorem va_ul {s:LS} (v:Va s) (c:Cm):Va (ulS s c):=by
 unfold ulS
 cases h:decide (freeE s c.lk c.sv=0) with
 | true=>exact v.row (freeS_r s _ _ (of_decide_eq_true h)) (freeS_va v.lk _ _)
 | false=>exact v
theorem va_hp {s:LS} (v:Va s) (j:Nat) (hj:j<3) (sv:Int) (hs:0<=sv/\sv<=2):Va (hpS s j sv):=by
 have a:Va (sL s j (xM (s.r.s j) 3 sv)):=v.sL j (sb_hlp (v.sb j hj) hs)
 unfold hpS
 cases decide ((s.r.s j).x 3=sv) with
 | true=>exact a
 | false=>cases hasHB s.r j with | true=>exact v | false=>exact a
theorem va_dn {s:LS} (v:Va s) (j:Nat) (hj:j<3) (sv:Int):Va (dnS s j sv):=by
 have a:Va (dropS s (ofNat j)):=v.row (dropS_r s _) (dropS_va v.lk _)
 unfold dnS
 cases decide ((s.r.s j).x 3=sv) with
 | true=>exact a.sL j (sb_abs (a.sb j hj))
 | false=>exact v
theorem va_de {s:LS} (v:Va s) (c:Cm) (i:Nat) (hi:i<3) (hc:c.sv=ofNat i) (ho:0<=c.ot/\c.ot<=2) (hk:1<=c.k/\c.k<=7) (h7:c.k=7->Va (lnS s c)):Va (deS s c i):=by
 unfold deS
 have hj:c.ot.toNat<3:=by omega
 have hs:0<=c.sv/\c.sv<=2:=by rw [hc];simp;omega
 cases h1:decide (c.k=1) with
 | true=>exact v.sL i (sb_mnt (v.sb i hi) v.tm)
 | false=>
   cases h56:decide (c.k=5) || decide (c.k=6) with
   | true=>
     simp only [cond_false,cond_true]
     cases !decide (c.ot=c.sv) && !alB (s.r.s i) c.gn with
     | true=>exact v
     | false=>
       cases decide ((s.r.s c.ot.toNat).x 0=2) with
       | false=>exact v
       | true=>cases decide (c.k=5) with
         | true=>exact va_hp v _ hj _ hs
         | false=>exact va_dn v _ hj _
   | false=>
     simp only [cond_false]
     cases alB (s.r.s i) c.gn with
     | false=>exact v
     | true=>
       simp only [cond_true]
       cases h2:decide (c.k=2) with
       | true=>exact v.sL i (sb_rnw (v.sb i hi) v.tm)
       | false=>cases h3:decide (c.k=3) with
         | true=>exact va_lk v c
         | false=>cases h4:decide (c.k=4) with
           | true=>exact va_ul v c
           | false=>
             simp only [cond_false]
             exact h7 (by simp at h1 h56 h2 h3 h4;omega)
theorem bif_r {b:Bool} {x y:Int} (h1:0<=x/\x<=99) (h2:0<=y/\y<=99):0<=(bif b then x else y)/\(bif b then x else y)<=99:=by cases b<;>assumption
theorem lnE_r (s:LS) (c:Cm):0<=lnE s c/\lnE s c<=99:=by
 have n:0<=nxE s.r c.mn c.mf/\nxE s.r c.mn c.mf<=99:=by
  unfold nxE;exact bif_r (bif_r (by decide) (by decide)) (by decide)
 unfold lnE
 exact bif_r (bif_r (by decide) (by decide)) n
theorem deE_r (s:LS) (c:Cm) (i:Nat):0<=deE s c i/\deE s c i<=99:=by
 unfold deE mntE hpE dnE askE freeE
 refine bif_r (bif_r (by decide) (bif_r (by decide) (bif_r (by decide) (by decide)))) (bif_r (bif_r (by decide) (bif_r (bif_r (bif_r (by decide) (bif_r (by decide) (by decide))) (bif_r (by decide) (by decide))) (by decide))) (bif_r (bif_r (by decide) (bif_r (bif_r (by decide) (by decide)) (bif_r (bif_r (by decide) (by decide)) (lnE_r s c)))) (by decide)))
theorem va_apS {s:LS} (v:Va s) (c:Cm) (i:Nat) (hi:i<3) (hc:c.sv=ofNat i) (ho:0<=c.ot/\c.ot<=2) (hk:1<=c.k/\c.k<=7) (hd:0<=c.d) (h1:0<=c.bt/\c.bt<=1099511627776) (h2:0<=c.sq/\c.sq<=1099511627776) (h7:c.k=7->Va (lnS (s2L s c i) c)):Va (apS s c i):=by
 unfold apS
 cases staB (s.r.s i) c.bt c.sq with
 | true=>exact v
 | false=>
   cases agB (s.r.s i) c with
   | true=>exact v
   | false=>
     cases decide (pasE s.ts c.d=0) with
     | false=>exact va_pas v c.d hd
     | true=>
       have w:=va_de (va_s2 v c i hi hd h1 h2) c i hi hc ho hk h7
       exact w.sL i (sb_ans (w.sb i hi) (an_vwS w i hi _ (deE_r _ _ _)))
theorem vc_bt {c:Cm} (h:vcB c=true):c.k<=7->1<=c.bt/\c.bt<=1099511627776:=by
 unfold vcB at h
 rw [Bool.and_eq_true] at h
 obtain ⟨hk,hf⟩:=h
 have hk:=wi_iff.1 hk
 unfold fitB at hf
 simp only [Bool.and_eq_true,wi_iff] at hf
 obtain ⟨_,h2,_⟩:=hf
 intro h7
 have c1:c.k=1\/c.k=2\/c.k=3\/c.k=4\/c.k=5\/c.k=6\/c.k=7:=by omega
 rcases c1 with q | q | q | q | q | q | q<;>(rw [q] at h2;simp only [shA,shT] at h2;simp at h2;omega)
theorem va_ApS {s:LS} (v:Va s) (c:Cm) (h7:vcB c=true->c.k=7->Va (lnS (s2L s c c.sv.toNat) c)):Va (ApS s c):=by
 unfold ApS
 cases hs:vaB s && vcB c with
 | false=>exact v
 | true=>
   rw [Bool.and_eq_true] at hs
   obtain ⟨hk,hd,hr⟩:=vc_gd hs.2
   rw [cond_true]
   cases h8:decide (c.k=8) with
   | true=>exact va_pas v c.d hd.1
   | false=>
     have q:=of_decide_eq_false h8
     obtain ⟨r1,r2,r3⟩:=hr (by omega)
     have rb:=vc_bt hs.2 (by omega)
     exact va_apS v c c.sv.toNat (by omega) (by simp;omega) r3 ⟨hk.1,by omega⟩ hd.1 (by omega) (by omega) (h7 hs.2)
theorem lnE_0 {s:LS} {c:Cm} (h:lnE s c=0):nxE s.r c.mn c.mf=0/\((nxL s.r c.mn c.mf).any fun x=>decide (s.r.x 0<=x.1))=false:=by
 unfold lnE at h
 cases h1:decide (nxE s.r c.mn c.mf=0) with
 | false=>rw [h1,cond_false] at h;exact absurd h (of_decide_eq_false h1)
 | true=>
   rw [h1,cond_true] at h
   cases h2:(nxL s.r c.mn c.mf).any fun x=>decide (s.r.x 0<=x.1) with
   | true=>rw [h2] at h;cases h
   | false=>exact ⟨of_decide_eq_true h1,rfl⟩
theorem nxL_len {r:Rs} {k:Nat} {h:Nat->Int} (q:nxE r k h=0):(nxL r k h).length<=6:=by
 have a1:=pkN_len (inB k h) r.mf r.sf r.mn 0
 have a2:=pkN_len (fun v=>!inB r.mn r.mf v) h (fun _=>r.x 2+1) k 0
 obtain ⟨b1,b2⟩:=nxE_0 q
 unfold nxL kpL nwL
 rw [List.length_append]
 omega
theorem gv_ln {s:LS} (g:Gv s) (c:Cm):Gv (lnS s c):=by
 unfold lnS
 cases h:decide (lnE s c=0) with
 | false=>exact g
 | true=>
   have hl:=nxL_len (lnE_0 (of_decide_eq_true h)).1
   exact ⟨⟨⟨by show (nxL s.r c.mn c.mf).length<=_;omega,by show (nxL s.r c.mn c.mf).length<=_;omega⟩,g.ok.s,g.ok.q⟩,g.gn⟩
theorem lnC_all {s:LS} (g:Gv s) (c:Cm) (hc:c.mn<=1152921504606846976):LnC s c:=by
 have h:=g.ok.m
 exact ⟨link_con s (by have:s.r.mn<=_:=h.1;omega) (by have:s.r.sn<=_:=h.2;omega) c hc,gv_ln g c⟩
theorem Apply_all (s:LS) (ok:s.ok) (c:Cm) (hm:c.mn<=1152921504606846976):Con PG 15 [lsV s,cmV c] [] (.tup [lsV (ApS s c),.agg (vwL (ApV s c))]) []:=
 Apply_con s ok c hm fun h1 h2 h7=>by
  have g:=gd_of ok h1
  obtain ⟨hk,hd,hr⟩:=vc_gd h2
  obtain ⟨r1,r2,r3⟩:=hr (by omega)
  exact lnC_all (gd_s2 g c c.sv.toNat (by omega) hd.1 (by omega)).gv c hm
theorem anyP_false {p:Nat->Bool}:∀{m i:Nat},anyP p m i=false->∀j,i<=j->j<i+m->p j=false
 | 0,i,_,j,h1,h2=>absurd h2 (by omega)
 | m+1,i,h,j,h1,h2=>by
   unfold anyP at h
   rw [Bool.or_eq_false_iff] at h
   rcases Nat.eq_or_lt_of_le h1 with e | e
   · subst e;exact h.1
   · exact anyP_false h.2 j e (by omega)
theorem arN_ne {f:Nat->Int} {s:Int}:∀{m i:Nat},arN f s m i=true->∀j,i<=j->j<i+m->∀k,k<j->f j≠f k
 | 0,i,_,j,h1,h2=>absurd h2 (by omega)
 | m+1,i,h,j,h1,h2=>by
   unfold arN at h
   simp only [Bool.and_eq_true,Bool.not_eq_true'] at h
   rcases Nat.eq_or_lt_of_le h1 with e | e
   · subst e
     intro k hk q
     have:=anyP_false h.1.2 k (Nat.zero_le _) (by omega)
     exact absurd q (of_decide_eq_false this)
   · exact arN_ne h.2 j e (by omega)
theorem arB_ne {n:Nat} {f:Nat->Int} {s:Int} (h:arB n f s=true):∀j k,j<n->k<j->f j≠f k:=by
 unfold arB at h
 rw [Bool.and_eq_true] at h
 exact fun j k hj hk=>arN_ne h.2 j (Nat.zero_le _) (by omega) k hk
theorem pkN_mem {p:Int->Bool} {f g:Nat->Int} {x:Pq2}:∀{m i:Nat},x∈pkN p f g m i->∃j,i<=j/\j<i+m/\x=(f j,g j)/\p (f j)=true
 | 0,i,h=>by simp [pkN] at h
 | m+1,i,h=>by
   unfold pkN at h
   cases hp:p (f i) with
   | false=>
     rw [hp,cond_false] at h
     obtain ⟨j,a,b,c⟩:=pkN_mem h
     exact ⟨j,by omega,by omega,c⟩
   | true=>
     rw [hp,cond_true] at h
     rcases List.mem_cons.1 h with e | e
     · exact ⟨i,Nat.le_refl _,by omega,e,hp⟩
     · obtain ⟨j,a,b,c⟩:=pkN_mem e
       exact ⟨j,by omega,by omega,c⟩
theorem pkN_pw {p:Int->Bool} {f g:Nat->Int} {n:Nat} (hf:∀j k,j<n->k<j->f j≠f k):∀(m i:Nat),i+m<=n->(pkN p f g m i).Pairwise fun x y=>x.1≠y.1
 | 0,i,_=>List.Pairwise.nil
 | m+1,i,h=>by
   unfold pkN
   have r:=pkN_pw (p:=p) (g:=g) hf m (i+1) (by omega)
   cases p (f i) with
   | false=>exact r
   | true=>
     refine List.Pairwise.cons (fun y hy=>?_) r
     obtain ⟨j,a,b,e,_⟩:=pkN_mem hy
     rw [e]
     exact fun q=>hf j i (by omega) (by omega) q.symm
theorem nxL_pw {r:Rs} {k:Nat} {h:Nat->Int} (q:nxE r k h=0):(nxL r k h).Pairwise fun x y=>x.1≠y.1:=by
 unfold nxE at q
 cases h1:chB (r.x 2) r.mn r.sn r.mf r.sf with
 | false=>rw [h1] at q;cases q
 | true=>
   cases h3:arB k h 3 with
   | false=>rw [h1,h3,Bool.and_false,Bool.and_false] at q;cases q
   | true=>
     have hf:arB r.mn r.mf 3=true:=by unfold chB at h1;simp only [Bool.and_eq_true] at h1;exact h1.2.1
     unfold nxL
     refine List.pairwise_append.2 ⟨pkN_pw (arB_ne hf) _ _ (by omega),pkN_pw (arB_ne h3) _ _ (by omega),?_⟩
     intro x hx y hy e
     obtain ⟨j,a,b,e1,_⟩:=pkN_mem hx
     obtain ⟨i,a',b',e2,p2⟩:=pkN_mem hy
     rw [e1,e2] at e
     have e:r.mf j=h i:=e
     have p2:(!inB r.mn r.mf (h i))=true:=p2
     rw [Bool.not_eq_true'] at p2
     have:=anyP_false p2 j (Nat.zero_le _) (by omega)
     exact absurd e.symm (of_decide_eq_false this)
theorem chB_sf {e:Int} {n m:Nat} {f g:Nat->Int} (h:chB e n m f g=true):∀j,j<n->1<=g j/\g j<=e:=by
 obtain ⟨_,hm,_⟩:=chB_of h
 unfold chB at h
 simp only [Bool.and_eq_true,Bool.not_eq_true'] at h
 intro j hj
 have:=anyP_false h.2.2.2 j (Nat.zero_le _) (by omega)
 rw [Bool.not_eq_false'] at this
 exact wi_iff.1 this
theorem nxL_since {r:Rs} {k:Nat} {h:Nat->Int} (q:nxE r k h=0):(1<=r.x 2/\r.x 2<1099511627776)/\0<(nxL r k h).length/\∀x∈nxL r k h,(1<=x.2/\x.2<=r.x 2+1)/\0<=x.1:=by
 unfold nxE at q
 cases h1:chB (r.x 2) r.mn r.sn r.mf r.sf with
 | false=>rw [h1] at q;cases q
 | true=>
   cases h3:arB k h 3 with
   | false=>rw [h1,h3,Bool.and_false,Bool.and_false] at q;cases q
   | true=>
     rw [h1,h3,Bool.true_and,Bool.and_true] at q
     cases h2:decide (r.x 2=1099511627776) with
     | true=>rw [h2] at q;cases q
     | false=>
       rw [h2,Bool.not_false,cond_true] at q
       cases h4:decide ((kpL r k h).length=0) with
       | true=>rw [h4] at q;cases q
       | false=>
         have he:=(chB_of h1).1
         have hf:arB r.mn r.mf 3=true:=by unfold chB at h1;simp only [Bool.and_eq_true] at h1;exact h1.2.1
         have h4:=of_decide_eq_false h4
         have h2:=of_decide_eq_false h2
         refine ⟨⟨he.1,by omega⟩,by unfold nxL;rw [List.length_append];omega,fun x hx=>?_⟩
         have rg0:∀{n:Nat} {f:Nat->Int},arB n f 3=true->∀j,j<n->0<=f j:=by
          intro n f ha j hj
          unfold arB at ha
          rw [Bool.and_eq_true] at ha
          have key:∀m i,arN f 3 m i=true->∀j,i<=j->j<i+m->0<=f j:=by
           intro m
           induction m with
           | zero=>intro i _ j a b;omega
           | succ m ih=>
             intro i ha j a b
             unfold arN at ha
             simp only [Bool.and_eq_true] at ha
             rcases Nat.eq_or_lt_of_le a with e | e
             · subst e;exact (wi_iff.1 ha.1.1).1
             · exact ih (i+1) ha.2 j e (by omega)
          exact key n 0 ha.2 j (Nat.zero_le _) (by omega)
         unfold nxL at hx
         rcases List.mem_append.1 hx with hx | hx
         · obtain ⟨j,a,b,e,_⟩:=pkN_mem hx
           have:=chB_sf h1 j (by omega)
           rw [e]
           exact ⟨⟨this.1,by show r.sf j<=_;omega⟩,rg0 hf j (by omega)⟩
         · obtain ⟨j,a,b,e,_⟩:=pkN_mem hx
           rw [e]
           exact ⟨⟨by show 1<=r.x 2+1;omega,by show r.x 2+1<=_;omega⟩,rg0 h3 j (by omega)⟩
theorem pigeon:∀(s:Nat) (l:List Pq2),l.Pairwise (fun x y=>x.1≠y.1)->(∀x∈l,0<=x.1/\x.1<ofNat s)->l.length<=s
 | 0,[],_,_=>Nat.le_refl _
 | 0,x :: l,_,h=>by have:=h x (List.mem_cons_self ..);have h2:x.1<0:=this.2;omega
 | s+1,l,hp,h=>by
   have a:=pigeon s (l.filter fun x=>!decide (x.1=ofNat s)) (hp.filter _) (fun x hx=>by
    rw [List.mem_filter] at hx
    have b:=h x hx.1
    have c:¬x.1=ofNat s:=by simpa using hx.2
    have d:x.1<ofNat s+1:=b.2
    exact ⟨b.1,by omega⟩)
   have key:∀l:List Pq2,l.Pairwise (fun x y=>x.1≠y.1)->l.length<=(l.filter fun x=>!decide (x.1=ofNat s)).length+1:=by
    intro l
    induction l with
    | nil=>intro _;simp
    | cons x l ih=>
      intro hp
      rw [List.pairwise_cons] at hp
      by_cases e:x.1=ofNat s
      · have all:l.filter (fun x=>!decide (x.1=ofNat s))=l:=by
         rw [List.filter_eq_self]
         intro y hy
         have:=hp.1 y hy
         simp
         intro q
         exact this (by rw [e,q];rfl)
        rw [List.filter_cons_of_neg (by simp [e]),all]
        simp
      · rw [List.filter_cons_of_pos (by rw [decide_eq_false e];rfl)]
        have:=ih hp.2
        simp only [List.length_cons]
        omega
   have:=key l hp
   omega
theorem cfN_of {E st:Int} {T:List Pq2} (hp:T.Pairwise fun x y=>x.1≠y.1) (hr:∀x∈T,(1<=x.2/\x.2<=E)/\0<=x.1/\x.1<st):∀m i,i+m=T.length->cfN E (pA T) (pB T) st m i=true
 | 0,_,_=>rfl
 | m+1,i,h=>by
   have hi:i<T.length:=by omega
   have at_:∀{j},j<T.length->T.getD j (0,0)∈T:=fun {j} hj=>by
    rw [List.getD_eq_getElem?_getD,List.getElem?_eq_getElem hj];exact List.getElem_mem hj
   have q:=hr _ (at_ hi)
   unfold cfN
   have h1:wi (pA T i) 0 (st-1)=true:=wi_iff.2 ⟨q.2.1,by have:pA T i<st:=q.2.2;omega⟩
   have h3:wi (pB T i) 1 E=true:=wi_iff.2 q.1
   have h2:anyP (fun j=>decide (pA T i=pA T j)) i 0=false:=anyP_of _ _ _ fun j _ hj=>decide_eq_false fun e=>by
    rw [List.pairwise_iff_getElem] at hp
    have hj:j<i:=by omega
    have:=hp j i (by omega) hi hj
    unfold pA at e
    rw [List.getD_eq_getElem?_getD,List.getD_eq_getElem?_getD,List.getElem?_eq_getElem hi,List.getElem?_eq_getElem (by omega:j<T.length)] at e
    exact this e.symm
   rw [h1,h2,h3,cfN_of hp hr m (i+1) (by omega)]
   rfl
theorem va_ln {s:LS} (v:Va s) (c:Cm):Va (lnS s c):=by
 unfold lnS
 cases h:decide (lnE s c=0) with
 | false=>exact v
 | true=>
   obtain ⟨h0,ha⟩:=lnE_0 (of_decide_eq_true h)
   obtain ⟨he,hl,hs⟩:=nxL_since h0
   have hp:=nxL_pw h0
   have hst:=v.st
   have hr:∀x∈nxL s.r c.mn c.mf,(1<=x.2/\x.2<=s.r.x 2+1)/\0<=x.1/\x.1<s.r.x 0:=fun x hx=>by
    have a:=hs x hx
    refine ⟨a.1,a.2,?_⟩
    have b:¬s.r.x 0<=x.1:=by
     intro q
     rw [List.any_eq_false] at ha
     exact ha x hx (decide_eq_true q)
    omega
   have hpg:=pigeon (s.r.x 0).toNat _ hp fun x hx=>⟨(hr x hx).2.1,by have:=(hr x hx).2.2;simp;omega⟩
   refine ⟨v.st,v.tm,?_,v.sb,v.lk⟩
   show cfB (s.r.x 2+1) (nxL s.r c.mn c.mf).length (nxL s.r c.mn c.mf).length (pA (nxL s.r c.mn c.mf)) (pB (nxL s.r c.mn c.mf)) (s.r.x 0)=true
   unfold cfB
   rw [wi_iff.2 ⟨by omega,by omega⟩,wi_iff.2 ⟨by simp;omega,by simp;omega⟩,decide_eq_true rfl,cfN_of hp hr _ 0 (by omega)]
   rfl
theorem va_all {s:LS} (v:Va s) (c:Cm):Va (ApS s c):=va_ApS v c fun h2 h7=>by
 obtain ⟨hk,hd,hr⟩:=vc_gd h2
 obtain ⟨r1,r2,r3⟩:=hr (by omega)
 have rb:=vc_bt h2 (by omega)
 exact va_ln (va_s2 v c c.sv.toNat (by omega) hd.1 (by omega) (by omega)) c
end Go.Proofs.Sv
