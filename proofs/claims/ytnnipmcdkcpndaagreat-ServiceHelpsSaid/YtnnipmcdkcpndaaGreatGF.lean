/- Runs over unknown values, told by the kernel: part GF. -/
import Derived.Test.YtnnipmcdkcpndaaGreatGE
noncomputable section
open Int (ofNat)
set_option linter.unusedSimpArgs false
set_option linter.unusedVariables false
set_option maxRecDepth 20000
namespace Go.Proofs.Sv
open Go Go.Sim Go.Proofs Go.Proofs.Lk Go.Proofs.YtnnipmcdkcpndaaGreat
theorem cfE_lq (n m:Nat) (f g:Nat->Int) (e s:Int) (h1:decide (ofNat n<ofNat n)=false):LD PG (loopAt PG 51 0) 61 1 [(1,.i .i64 s),(2,.p 0 0),(29,isv n f),(30,.i .i64 (ofNat n)),(31,.i .i64 (ofNat n))] [some (.cells 24 3 [] (setAll .e 0 [.i .i64 e,isv n f,isv m g]))] (.f .z) (.exit 0) [0] [] [some (cfO e n m f g)] 1 (fun Lf=>decide (ofNat n<ofNat n)=false/\Lf):=by unfold LD LQ;kernel_rfl
theorem cf1_lq (n m:Nat) (f g:Nat->Int) (w:Int->Int->Int->Bool) (e s:Int) (i:Nat) (h1:decide (ofNat i<ofNat n)=true) (h2:w (f i) 0 (s-1)=false):LD PG (loopAt PG 51 0) 61 1 [(1,.i .i64 s),(2,.p 0 0),(29,isv n f),(30,.i .i64 (ofNat n)),(31,.i .i64 (ofNat i))] [some (.cells 24 3 [] (setAll .e 0 [.i .i64 e,isv n f,isv m g]))] (.t (.cal [] (.b (w (f i) 0 (s-1))) [] (of_ 6 (.t (oc 11 .z))))) .ret [0] [(4,.b false)] [some (cfO e n m f g)] 1 (fun Lf=>decide (ofNat i<ofNat n)=true/\(0<=ofNat i/\ofNat i<↑n)/\True/\rg (s-1)/\Con PG 50 [.i .i64 (f i),.i .i64 0,.i .i64 (s-1)] [] (.b (w (f i) 0 (s-1))) []/\True/\r6 ((!!w (f i) 0 (s-1))=false) ((!w (f i) 0 (s-1))=true/\Lf)):=by unfold LD LQ;kernel_rfl
theorem cf2_lq (n m:Nat) (f g:Nat->Int) (w:Int->Int->Int->Bool) (ct:Nat->Int->Bool) (e s:Int) (i:Nat) (h1:decide (ofNat i<ofNat n)=true) (h2:w (f i) 0 (s-1)=true) (h3:ct i (f i)=true):LD PG (loopAt PG 51 0) 61 1 [(1,.i .i64 s),(2,.p 0 0),(29,isv n f),(30,.i .i64 (ofNat n)),(31,.i .i64 (ofNat i))] [some (.cells 24 3 [] (setAll .e 0 [.i .i64 e,isv n f,isv m g]))] (.t (.cal [] (.b (w (f i) 0 (s-1))) [] (ot 6 (.cal [] (.b (ct i (f i))) [] (of_ 10 (.t (.c .z))))))) .ret [0] [(4,.b false)] [some (cfO e n m f g)] 1 (fun Lf=>decide (ofNat i<ofNat n)=true/\(0<=ofNat i/\ofNat i<↑n)/\True/\rg (s-1)/\Con PG 50 [.i .i64 (f i),.i .i64 0,.i .i64 (s-1)] [] (.b (w (f i) 0 (s-1))) []/\True/\(!!w (f i) 0 (s-1))=true/\True/\r3 ((!!w (f i) 0 (s-1))=true) ((True/\0<=ofNat i/\0<=i/\i<=n)/\r2 ((!!w (f i) 0 (s-1))=true) (Con PG 98 [isv i f,.i .i64 (f i)] [] (.b (ct i (f i))) []/\(!w (f i) 0 (s-1))=false/\r3 ((!ct i (f i))=false) (r6 ((!ct i (f i))=false) (ct i (f i)=true/\Lf))))):=by unfold LD LQ;kernel_rfl
theorem cf3_lq (n m:Nat) (f g:Nat->Int) (w:Int->Int->Int->Bool) (ct:Nat->Int->Bool) (e s:Int) (i:Nat) (h1:decide (ofNat i<ofNat n)=true) (h2:w (f i) 0 (s-1)=true) (h3:ct i (f i)=false) (h4:w (g i) 1 e=false):LD PG (loopAt PG 51 0) 61 1 [(1,.i .i64 s),(2,.p 0 0),(29,isv n f),(30,.i .i64 (ofNat n)),(31,.i .i64 (ofNat i))] [some (.cells 24 3 [] (setAll .e 0 [.i .i64 e,isv n f,isv m g]))] (.t (.cal [] (.b (w (f i) 0 (s-1))) [] (ot 6 (.cal [] (.b (ct i (f i))) [] (.f (ot 8 (.cal [] (.b (w (g i) 1 e)) [] (.t (.f (.t .z)))))))))) .ret [0] [(4,.b false)] [some (cfO e n m f g)] 1 (fun Lf=>decide (ofNat i<ofNat n)=true/\(0<=ofNat i/\ofNat i<↑n)/\True/\rg (s-1)/\Con PG 50 [.i .i64 (f i),.i .i64 0,.i .i64 (s-1)] [] (.b (w (f i) 0 (s-1))) []/\True/\(!!w (f i) 0 (s-1))=true/\True/\r3 ((!!w (f i) 0 (s-1))=true) ((True/\0<=ofNat i/\0<=i/\i<=n)/\r2 ((!!w (f i) 0 (s-1))=true) (Con PG 98 [isv i f,.i .i64 (f i)] [] (.b (ct i (f i))) []/\(!w (f i) 0 (s-1))=false/\(!ct i (f i))=true/\True/\r3 ((!ct i (f i))=true) ((0<=ofNat i/\ofNat i<↑m)/\(!ct i (f i))=true/\True/\(!ct i (f i))=true/\True/\r2 ((!ct i (f i))=true) (Con PG 50 [.i .i64 (g i),.i .i64 1,.i .i64 e] [] (.b (w (g i) 1 e)) []/\(!ct i (f i))=true/\True/\ct i (f i)=false/\(!w (g i) 1 e)=true/\Lf))))):=by unfold LD LQ;kernel_rfl
theorem cf4_lq (n m:Nat) (f g:Nat->Int) (w:Int->Int->Int->Bool) (ct:Nat->Int->Bool) (e s:Int) (i:Nat) (h1:decide (ofNat i<ofNat n)=true) (h2:w (f i) 0 (s-1)=true) (h3:ct i (f i)=false) (h4:w (g i) 1 e=true):LD PG (loopAt PG 51 0) 61 1 [(1,.i .i64 s),(2,.p 0 0),(29,isv n f),(30,.i .i64 (ofNat n)),(31,.i .i64 (ofNat i))] [some (.cells 24 3 [] (setAll .e 0 [.i .i64 e,isv n f,isv m g]))] (.t (.cal [] (.b (w (f i) 0 (s-1))) [] (ot 6 (.cal [] (.b (ct i (f i))) [] (.f (ot 8 (.cal [] (.b (w (g i) 1 e)) [] (.t (.f (.f .z)))))))))) .nrm [0] [(1,.i .i64 s),(2,.p 0 0),(29,isv n f),(30,.i .i64 (ofNat n)),(31,.i .i64 (ofNat i+1))] [some (cfO e n m f g)] 1 (fun Lf=>decide (ofNat i<ofNat n)=true/\(0<=ofNat i/\ofNat i<↑n)/\True/\rg (s-1)/\Con PG 50 [.i .i64 (f i),.i .i64 0,.i .i64 (s-1)] [] (.b (w (f i) 0 (s-1))) []/\True/\(!!w (f i) 0 (s-1))=true/\True/\r3 ((!!w (f i) 0 (s-1))=true) ((True/\0<=ofNat i/\0<=i/\i<=n)/\r2 ((!!w (f i) 0 (s-1))=true) (Con PG 98 [isv i f,.i .i64 (f i)] [] (.b (ct i (f i))) []/\(!w (f i) 0 (s-1))=false/\(!ct i (f i))=true/\True/\r3 ((!ct i (f i))=true) ((0<=ofNat i/\ofNat i<↑m)/\(!ct i (f i))=true/\True/\(!ct i (f i))=true/\True/\r2 ((!ct i (f i))=true) (Con PG 50 [.i .i64 (g i),.i .i64 1,.i .i64 e] [] (.b (w (g i) 1 e)) []/\(!ct i (f i))=true/\True/\ct i (f i)=false/\(!w (g i) 1 e)=false/\rg (ofNat i+1)/\Lf))))):=by unfold LD LQ;kernel_rfl
theorem cmA_vq (n m:Nat) (f g:Nat->Int) (e s:Int) (w:Int->Int->Int->Bool) (h1:w e 1 1099511627776=false):VD PG 51 [.agg [.i .i64 e,isv n f,isv m g],.i .i64 s] [] (.cal [] (.b (w e 1 1099511627776)) [] (of_ 6 (.t (oc 9 .z)))) (.b false) [] [] 1 (fun Lf=>True/\Con PG 50 [.i .i64 e,.i .i64 1,.i .i64 1099511627776] [] (.b (w e 1 1099511627776)) []/\True/\r6 ((!!w e 1 1099511627776)=false) ((!w e 1 1099511627776)=true/\Lf)):=by unfold VD VQ;kernel_rfl
theorem cmB_vq (n m:Nat) (f g:Nat->Int) (e s:Int) (w:Int->Int->Int->Bool) (h1:w e 1 1099511627776=true) (h2:w (ofNat n) 1 s=false):VD PG 51 [.agg [.i .i64 e,isv n f,isv m g],.i .i64 s] [] (.cal [] (.b (w e 1 1099511627776)) [] (ot 5 (.cal [] (.b (w (ofNat n) 1 s)) [] (.t (of_ 8 (.t (.c .z))))))) (.b false) [] [] 1 (fun Lf=>True/\Con PG 50 [.i .i64 e,.i .i64 1,.i .i64 1099511627776] [] (.b (w e 1 1099511627776)) []/\True/\(!!w e 1 1099511627776)=true/\True/\r4 ((!!w e 1 1099511627776)=true) (Con PG 50 [.i .i64 (ofNat n),.i .i64 1,.i .i64 s] [] (.b (w (ofNat n) 1 s)) []/\(!!w e 1 1099511627776)=true/\True/\(!w e 1 1099511627776)=false/\(!!w (ofNat n) 1 s)=false/\r6 ((!!w (ofNat n) 1 s)=false) ((!w (ofNat n) 1 s)=true/\Lf))):=by unfold VD VQ;kernel_rfl
theorem cmC_vq (n m:Nat) (f g:Nat->Int) (e s:Int) (w:Int->Int->Int->Bool) (h1:w e 1 1099511627776=true) (h2:w (ofNat n) 1 s=true) (h3:decide (ofNat m=ofNat n)=false):VD PG 51 [.agg [.i .i64 e,isv n f,isv m g],.i .i64 s] [] (.cal [] (.b (w e 1 1099511627776)) [] (ot 5 (.cal [] (.b (w (ofNat n) 1 s)) [] (.t (.f (ot 7 (.f (.t .z)))))))) (.b false) [] [] 1 (fun Lf=>True/\Con PG 50 [.i .i64 e,.i .i64 1,.i .i64 1099511627776] [] (.b (w e 1 1099511627776)) []/\True/\(!!w e 1 1099511627776)=true/\True/\r4 ((!!w e 1 1099511627776)=true) (Con PG 50 [.i .i64 (ofNat n),.i .i64 1,.i .i64 s] [] (.b (w (ofNat n) 1 s)) []/\(!!w e 1 1099511627776)=true/\True/\(!w e 1 1099511627776)=false/\(!!w (ofNat n) 1 s)=true/\True/\r3 ((!!w (ofNat n) 1 s)=true) (True/\r3 ((!!w (ofNat n) 1 s)=true) ((!w (ofNat n) 1 s)=false/\(!decide (ofNat m=ofNat n))=true/\Lf)))):=by unfold VD VQ;kernel_rfl
theorem cmF_vq (n m:Nat) (f g:Nat->Int) (e s:Int) (w:Int->Int->Int->Bool) (h1:w e 1 1099511627776=true) (h2:w (ofNat n) 1 s=true) (h3:decide (ofNat m=ofNat n)=true):VD PG 51 [.agg [.i .i64 e,isv n f,isv m g],.i .i64 s] [] (.cal [] (.b (w e 1 1099511627776)) [] (ot 5 (.cal [] (.b (w (ofNat n) 1 s)) [] (.t (.f (ot 7 (.f (.f (.lop [0] [1,2,29,30,31] 1 .ret [(4,.b false)] [some (cfO e n m f g)] .z))))))))) (.b false) [] [] 1 (fun Lf=>True/\Con PG 50 [.i .i64 e,.i .i64 1,.i .i64 1099511627776] [] (.b (w e 1 1099511627776)) []/\True/\(!!w e 1 1099511627776)=true/\True/\r4 ((!!w e 1 1099511627776)=true) (Con PG 50 [.i .i64 (ofNat n),.i .i64 1,.i .i64 s] [] (.b (w (ofNat n) 1 s)) []/\(!!w e 1 1099511627776)=true/\True/\(!w e 1 1099511627776)=false/\(!!w (ofNat n) 1 s)=true/\True/\r3 ((!!w (ofNat n) 1 s)=true) (True/\r3 ((!!w (ofNat n) 1 s)=true) ((!w (ofNat n) 1 s)=false/\(!decide (ofNat m=ofNat n))=false/\True/\LDoes PG (loopAt PG 51 0) 61 1 (mkT [(1,.i .i64 s),(2,.p 0 0),(29,isv n f),(30,.i .i64 (ofNat n)),(31,.i .i64 0)]) [some (cfO e n m f g)] .ret (mkT [(4,.b false)]) [some (cfO e n m f g)]/\Lf)))):=by unfold VD VQ;kernel_rfl
theorem cmT_vq (n m:Nat) (f g:Nat->Int) (e s:Int) (w:Int->Int->Int->Bool) (h1:w e 1 1099511627776=true) (h2:w (ofNat n) 1 s=true) (h3:decide (ofNat m=ofNat n)=true):VD PG 51 [.agg [.i .i64 e,isv n f,isv m g],.i .i64 s] [] (.cal [] (.b (w e 1 1099511627776)) [] (ot 5 (.cal [] (.b (w (ofNat n) 1 s)) [] (.t (.f (ot 7 (.f (.f (.lop [0] [1,2,29,30,31] 1 (.exit 0) [] [some (cfO e n m f g)] .z))))))))) (.b true) [] [] 1 (fun Lf=>True/\Con PG 50 [.i .i64 e,.i .i64 1,.i .i64 1099511627776] [] (.b (w e 1 1099511627776)) []/\True/\(!!w e 1 1099511627776)=true/\True/\r4 ((!!w e 1 1099511627776)=true) (Con PG 50 [.i .i64 (ofNat n),.i .i64 1,.i .i64 s] [] (.b (w (ofNat n) 1 s)) []/\(!!w e 1 1099511627776)=true/\True/\(!w e 1 1099511627776)=false/\(!!w (ofNat n) 1 s)=true/\True/\r3 ((!!w (ofNat n) 1 s)=true) (True/\r3 ((!!w (ofNat n) 1 s)=true) ((!w (ofNat n) 1 s)=false/\(!decide (ofNat m=ofNat n))=false/\True/\LDoes PG (loopAt PG 51 0) 61 1 (mkT [(1,.i .i64 s),(2,.p 0 0),(29,isv n f),(30,.i .i64 (ofNat n)),(31,.i .i64 0)]) [some (cfO e n m f g)] (.exit 0) (mkT []) [some (cfO e n m f g)]/\Lf)))):=by unfold VD VQ;kernel_rfl
abbrev cfL (n:Nat) (f:Nat->Int) (s:Int) (i:Nat):List (Nat×AV):=[(1,.i .i64 s),(2,.p 0 0),(29,isv n f),(30,.i .i64 (ofNat n)),(31,.i .i64 (ofNat i))]
def ctB (f:Nat->Int) (i:Nat) (v:Int):Bool:=anyP (fun j=>decide (v=f j)) i 0
theorem cf_lp (n:Nat) (hn:n<=1152921504606846976) (e s:Int) (hs:1<=s/\s<=9223372036854775807) (f g:Nat->Int) (x:XO) (l':List (Nat×AV)) (b:Bool)
 (hx:(b=false/\x=.ret/\l'=[(4,.b false)])\/(b=true/\x=.exit 0/\l'=[])) (h:cfN e f g s n 0=b) :
 LDoes PG (loopAt PG 51 0) 61 1 (mkT (cfL n f s 0)) [some (cfO e n n f g)] x (mkT l') [some (cfO e n n f g)]:=by
 refine loop_q (fun i=>(cfL n f s i,[some (cfO e n n f g)])) (fun i=>n-i) (fun i=>i<=n/\cfN e f g s (n-i) i=b) (fun _=>Nat.le_refl _) ?_ 0 ⟨Nat.zero_le _,h⟩
 rintro i ⟨hi,hp⟩
 rcases Nat.lt_or_ge i n with hlt | q
 · have h1:decide (ofNat i<ofNat n)=true:=decide_eq_true (by simp;omega)
   have bi:(0:Int)<=ofNat i/\ofNat i<(↑n:Int):=⟨by simp,by simp;omega⟩
   have ri:(-9223372036854775808:Int)<=ofNat i+1/\ofNat i+1<=(9223372036854775807:Int):=⟨by simp<;>omega,by simp<;>omega⟩
   have rs:(-9223372036854775808:Int)<=s-1/\s-1<=(9223372036854775807:Int):=⟨by omega,by omega⟩
   have bs:True/\(0:Int)<=ofNat i/\(0:Nat)<=i/\i<=n:=⟨trivial,by simp,Nat.zero_le _,hi⟩
   rw [show n-i=(n-(i+1))+1 by omega] at hp
   unfold cfN at hp
   have out:∀{y:Bool},y=false->b=y->b=false:=fun h1 h2=>h2.trans h1
   cases h2:wi (f i) 0 (s-1) with
   | false=>
     rw [h2,Bool.false_and,Bool.false_and] at hp
     subst hp
     obtain ⟨_,rfl,rfl⟩:(false=false/\x=.ret/\l'=[(4,.b false)]):=by rcases hx with c | c;exact c;exact absurd c.1 (by decide)
     exact rd_out (cf1_lq n n f g wi e s i h1 h2) (by repeat' first | exact trivial | assumption | exact w50_con _ _ _ | (simp only [h2];rfl) | exact rfl | apply And.intro) rfl rfl (.refl _) (.refl _)
   | true=>
     rw [h2,Bool.true_and] at hp
     cases h3:ctB f i (f i) with
     | true=>
       rw [show anyP (fun j=>decide (f i=f j)) i 0=true from h3,Bool.not_true,Bool.false_and,Bool.false_and] at hp
       subst hp
       obtain ⟨_,rfl,rfl⟩:(false=false/\x=.ret/\l'=[(4,.b false)]):=by rcases hx with c | c;exact c;exact absurd c.1 (by decide)
       exact rd_out (cf2_lq n n f g wi (ctB f) e s i h1 h2 h3) (by repeat' first | exact trivial | assumption | exact w50_con _ _ _ | exact ixc_con i (by omega) f (f i) | (simp only [h2,h3];rfl) | exact rfl | apply And.intro) rfl rfl (.refl _) (.refl _)
     | false=>
       rw [show anyP (fun j=>decide (f i=f j)) i 0=false from h3,Bool.not_false,Bool.true_and] at hp
       cases h4:wi (g i) 1 e with
       | false=>
         rw [h4,Bool.false_and] at hp
         subst hp
         obtain ⟨_,rfl,rfl⟩:(false=false/\x=.ret/\l'=[(4,.b false)]):=by rcases hx with c | c;exact c;exact absurd c.1 (by decide)
         exact rd_out (cf3_lq n n f g wi (ctB f) e s i h1 h2 h3 h4) (by repeat' first | exact trivial | assumption | exact w50_con _ _ _ | exact ixc_con i (by omega) f (f i) | (simp only [h2,h3,h4];rfl) | exact rfl | apply And.intro) rfl rfl (.refl _) (.refl _)
       | true=>
         rw [h4,Bool.true_and] at hp
         exact rd_nrm (cf4_lq n n f g wi (ctB f) e s i h1 h2 h3 h4) (by repeat' first | exact trivial | assumption | exact w50_con _ _ _ | exact ixc_con i (by omega) f (f i) | (simp only [h2,h3,h4];rfl) | exact rfl | apply And.intro) (i+1) ⟨hlt,hp⟩ (by show n-(i+1)<n-i;omega) rfl (.refl _) (.refl _)
 · obtain rfl:i=n:=by omega
   rw [show i-i=0 by omega] at hp
   have hb:b=true:=hp.symm
   subst hb
   obtain ⟨_,rfl,rfl⟩:(true=true/\x=.exit 0/\l'=[]):=by rcases hx with c | c;exact absurd c.1 (by decide);exact c
   have h1:decide (ofNat i<ofNat i)=false:=decide_eq_false (by simp)
   exact rd_out (cfE_lq i i f g e s h1) (by repeat' first | exact trivial | assumption | exact rfl | apply And.intro) rfl rfl (.refl _) (.refl _)
theorem cfm_con (e s:Int) (n m:Nat) (f g:Nat->Int) (hn:n<=1152921504606846976) (hs:s<=9223372036854775807):Con PG 51 [.agg [.i .i64 e,isv n f,isv m g],.i .i64 s] [] (.b (cfB e n m f g s)) []:=by
 unfold cfB
 cases h1:wi e 1 1099511627776 with
 | false=>exact con_d (cmA_vq n m f g e s wi h1) (by repeat' first | exact trivial | assumption | exact w50_con _ _ _ | (simp only [h1];rfl) | exact rfl | apply And.intro)
 | true=>
   cases h2:wi (ofNat n) 1 s with
   | false=>exact con_d (cmB_vq n m f g e s wi h1 h2) (by repeat' first | exact trivial | assumption | exact w50_con _ _ _ | (simp only [h1,h2];rfl) | exact rfl | apply And.intro)
   | true=>
     have hs1:1<=s:=by
      unfold wi at h2
      simp only [Bool.and_eq_true,decide_eq_true_eq] at h2
      omega
     by_cases c:m=n
     · subst c
       have h3:decide (ofNat m=ofNat m)=true:=decide_eq_true rfl
       cases h4:cfN e f g s m 0 with
       | false=>
         rw [show decide (m=m)=true from decide_eq_true rfl]
         exact con_d (cmF_vq m m f g e s wi h1 h2 h3) (by repeat' first | exact trivial | assumption | exact w50_con _ _ _ | exact cf_lp m hn e s ⟨hs1,hs⟩ f g _ _ false (.inl ⟨rfl,rfl,rfl⟩) h4 | (simp only [h1,h2,h3];rfl) | exact rfl | apply And.intro)
       | true=>
         rw [show decide (m=m)=true from decide_eq_true rfl]
         exact con_d (cmT_vq m m f g e s wi h1 h2 h3) (by repeat' first | exact trivial | assumption | exact w50_con _ _ _ | exact cf_lp m hn e s ⟨hs1,hs⟩ f g _ _ true (.inr ⟨rfl,rfl,rfl⟩) h4 | (simp only [h1,h2,h3];rfl) | exact rfl | apply And.intro)
     · have h3:decide (ofNat m=ofNat n)=false:=decide_eq_false (fun q=>c (Int.ofNat.inj q))
       rw [show decide (m=n)=false from decide_eq_false c]
       exact con_d (cmC_vq n m f g e s wi h1 h2 h3) (by repeat' first | exact trivial | assumption | exact w50_con _ _ _ | (simp only [h1,h2,h3];rfl) | exact rfl | apply And.intro)
theorem anm_vc (w:Int->Int->Int->Bool) (no:Int->Nat->Nat->Bool) (cf:Int->Nat->Nat->(Nat->Int)->(Nat->Int)->Int->Bool) (ha da:Nat->(Nat->Int)->(Nat->Int)->(Nat->Int)->Bool) (b:Mb) (st:Int) (V:AV):runK PG 1000000 (.call 100 [.agg (vwL b),.i .i64 st] (mkH [])) (.cal [] (AV.b (w (Mb.x b 6) 0 99)) [] (.s (.t (.t (.cal [] (AV.b (w (Mb.x b 7) 0 1099511627776)) [] (.t (.s (.t (.t (.cal [] (AV.b (no (Mb.x b 8) (Mb.mn b) (Mb.sn b))) [] (.t (.s (ot 3 (.cal [] (AV.b (cf (Mb.x b 8) (Mb.mn b) (Mb.sn b) (Mb.mf b) (Mb.sf b) st)) [] (.t (.f (.t (.s (ot 4 (.s (.t (.t (.cal [] (AV.b (ha (Mb.hn b) (Mb.hA b) (Mb.hM b) (Mb.hW b))) [] (.t (.t (.s (ot 4 (.s (.t (.t (.cal [] (AV.b (da (Mb.dn b) (Mb.dA b) (Mb.dM b) (Mb.dW b))) [] (.t (.t .z))))) (of_ 4 .z))) (of_ 4 (.c (.c (.c (.c (.c .z)))))))))))) (of_ 4 (.c (.c (.c (.c (.c (.c (.c (.c (.c (.c .z))))))))))))) (of_ 4 (.c (.c (.c (.c (.c (.c (.c (.c (.c (.c (.c (.c (.c (.c (.c .z)))))))))))))))))))))) (of_ 3 (ot 3 (.c (.c (.c (.c (.c (.s (.t (.t (.cal [] (AV.b (ha (Mb.hn b) (Mb.hA b) (Mb.hM b) (Mb.hW b))) [] (.t (.t (.s (ot 4 (.s (.t (.t (.cal [] (AV.b (da (Mb.dn b) (Mb.dA b) (Mb.dM b) (Mb.dW b))) [] (.t (.t .z))))) (of_ 4 .z))) (of_ 4 (.c (.c (.c (.c (.c .z)))))))))))) (of_ 4 (.c (.c (.c (.c (.c (.c (.c (.c (.c (.c .z)))))))))))))))))))))))) (of_ 5 (.c (.c (.c (.c (.c (.c (.c (.c (.c (.c (.c (.c (.c (.c (.c (.c (.c (.c (.c (.c .z)))))))))))))))))))))))))) (of_ 3 (.c (.c (.c (.c (.c (.c (.c (.c (.c (.c (.c (.c (.c
 (.c (.c (.c (.c (.c (.c (.c (.c (.c (.c (.c (.c (.c .z))))))))))))))))))))))))))))) (fun r _=>rvIs V r)=(True/\Con PG 151 [AV.i .i64 (Mb.x b 6),AV.i .i64 0,AV.i .i64 99] [] (AV.b (w (Mb.x b 6) 0 99)) []/\(w (Mb.x b 6) 0 99=true->True/\w (Mb.x b 6) 0 99=true/\w (Mb.x b 6) 0 99=true/\Con PG 50 [AV.i .i64 (Mb.x b 7),AV.i .i64 0,AV.i .i64 1099511627776] [] (AV.b (w (Mb.x b 7) 0 1099511627776)) []/\w (Mb.x b 6) 0 99=true/\(w (Mb.x b 7) 0 1099511627776=true->True/\w (Mb.x b 7) 0 1099511627776=true/\w (Mb.x b 7) 0 1099511627776=true/\Con PG 152 [AV.agg [AV.i .i64 (Mb.x b 8),isv (Mb.mn b) (Mb.mf b),isv (Mb.sn b) (Mb.sf b)]] [] (AV.b (no (Mb.x b 8) (Mb.mn b) (Mb.sn b))) []/\w (Mb.x b 7) 0 1099511627776=true/\((!no (Mb.x b 8) (Mb.mn b) (Mb.sn b))=true->True/\(!no (Mb.x b 8) (Mb.mn b) (Mb.sn b))=true/\(!no (Mb.x b 8) (Mb.mn b) (Mb.sn b))=true/\(!no (Mb.x b 8) (Mb.mn b) (Mb.sn b))=true/\Con PG 51 [AV.agg [AV.i .i64 (Mb.x b 8),isv (Mb.mn b) (Mb.mf b),isv (Mb.sn b) (Mb.sf b)],AV.i .i64 st] [] (AV.b (cf (Mb.x b 8) (Mb.mn b) (Mb.sn b) (Mb.mf b) (Mb.sf b) st)) []/\w (Mb.x b 7) 0 1099511627776=true/\no (Mb.x b 8) (Mb.mn b) (Mb.sn b)=false/\w (Mb.x b 7) 0 1099511627776=true/\(cf (Mb.x b 8) (Mb.mn b) (Mb.sn b) (Mb.mf b) (Mb.sf b) st=true->True/\cf (Mb.x b 8) (Mb.mn b) (Mb.sn b) (Mb.mf b) (Mb.sf b) st=true/\cf (Mb.x b 8) (Mb.mn b) (Mb.sn b) (Mb.mf b) (Mb.sf b) st=true/\cf (Mb.x b 8) (Mb.mn b) (Mb.sn b) (Mb.mf b) (Mb.sf b)
 st=true/\cf (Mb.x b 8) (Mb.mn b) (Mb.sn b) (Mb.mf b) (Mb.sf b) st=true/\(decide (ofNat (Mb.hn b)<=19)=true->True/\decide (ofNat (Mb.hn b)<=19)=true/\decide (ofNat (Mb.hn b)<=19)=true/\Con PG 153 [svN (Mb.hn b) (Mb.hA b) (Mb.hM b) (Mb.hW b),AV.fn (Fn.func 154) [] []] [] (AV.b (ha (Mb.hn b) (Mb.hA b) (Mb.hM b) (Mb.hW b))) []/\decide (ofNat (Mb.hn b)<=19)=true/\True/\decide (ofNat (Mb.hn b)<=19)=true/\((!ha (Mb.hn b) (Mb.hA b) (Mb.hM b) (Mb.hW b))=true->True/\(!ha (Mb.hn b) (Mb.hA b) (Mb.hM b) (Mb.hW b))=true/\(!ha (Mb.hn b) (Mb.hA b) (Mb.hM b) (Mb.hW b))=true/\(!ha (Mb.hn b) (Mb.hA b) (Mb.hM b) (Mb.hW b))=true/\(!ha (Mb.hn b) (Mb.hA b) (Mb.hM b) (Mb.hW b))=true/\(decide (ofNat (Mb.dn b)<=3)=true->True/\decide (ofNat (Mb.dn b)<=3)=true/\decide (ofNat (Mb.dn b)<=3)=true/\Con PG 155 [svN (Mb.dn b) (Mb.dA b) (Mb.dM b) (Mb.dW b),AV.fn (Fn.func 156) [] []] [] (AV.b (da (Mb.dn b) (Mb.dA b) (Mb.dM b) (Mb.dW b))) []/\decide (ofNat (Mb.dn b)<=3)=true/\True/\decide (ofNat (Mb.dn b)<=3)=true/\(AV.b !da (Mb.dn b) (Mb.dA b) (Mb.dM b) (Mb.dW b))=V)/\(decide (ofNat (Mb.dn b)<=3)=false->decide (ofNat (Mb.dn b)<=3)=false/\decide (ofNat (Mb.dn b)<=3)=false/\decide (ofNat (Mb.dn b)<=3)=false/\decide (ofNat (Mb.dn b)<=3)=false/\(AV.b false)=V))/\((!ha (Mb.hn b) (Mb.hA b) (Mb.hM b) (Mb.hW b))=false->(!ha (Mb.hn b) (Mb.hA b) (Mb.hM b) (Mb.hW
 b))=false/\(!ha (Mb.hn b) (Mb.hA b) (Mb.hM b) (Mb.hW b))=false/\(!ha (Mb.hn b) (Mb.hA b) (Mb.hM b) (Mb.hW b))=false/\(!ha (Mb.hn b) (Mb.hA b) (Mb.hM b) (Mb.hW b))=false/\(AV.b false)=V))/\(decide (ofNat (Mb.hn b)<=19)=false->decide (ofNat (Mb.hn b)<=19)=false/\decide (ofNat (Mb.hn b)<=19)=false/\decide (ofNat (Mb.hn b)<=19)=false/\decide (ofNat (Mb.hn b)<=19)=false/\(AV.b false)=V))/\(cf (Mb.x b 8) (Mb.mn b) (Mb.sn b) (Mb.mf b) (Mb.sf b) st=false->cf (Mb.x b 8) (Mb.mn b) (Mb.sn b) (Mb.mf b) (Mb.sf b) st=false/\cf (Mb.x b 8) (Mb.mn b) (Mb.sn b) (Mb.mf b) (Mb.sf b) st=false/\cf (Mb.x b 8) (Mb.mn b) (Mb.sn b) (Mb.mf b) (Mb.sf b) st=false/\cf (Mb.x b 8) (Mb.mn b) (Mb.sn b) (Mb.mf b) (Mb.sf b) st=false/\(AV.b false)=V))/\((!no (Mb.x b 8) (Mb.mn b) (Mb.sn b))=false->(!no (Mb.x b 8) (Mb.mn b) (Mb.sn b))=false/\(!no (Mb.x b 8) (Mb.mn b) (Mb.sn b))=false/\(!no (Mb.x b 8) (Mb.mn b) (Mb.sn b))=false/\w (Mb.x b 7) 0 1099511627776=true/\no (Mb.x b 8) (Mb.mn b) (Mb.sn b)=true/\w (Mb.x b 7) 0 1099511627776=true/\True/\(decide (ofNat (Mb.hn b)<=19)=true->True/\decide (ofNat (Mb.hn b)<=19)=true/\decide (ofNat (Mb.hn b)<=19)=true/\Con PG 153 [svN (Mb.hn b) (Mb.hA b) (Mb.hM b) (Mb.hW b),AV.fn (Fn.func 154) [] []] [] (AV.b (ha (Mb.hn b) (Mb.hA b) (Mb.hM b) (Mb.hW b))) []/\decide (ofNat (Mb.hn b)<=19)=true/\True/\decide (ofNat (Mb.hn b)<=19)=true/\((!ha
 (Mb.hn b) (Mb.hA b) (Mb.hM b) (Mb.hW b))=true->True/\(!ha (Mb.hn b) (Mb.hA b) (Mb.hM b) (Mb.hW b))=true/\(!ha (Mb.hn b) (Mb.hA b) (Mb.hM b) (Mb.hW b))=true/\(!ha (Mb.hn b) (Mb.hA b) (Mb.hM b) (Mb.hW b))=true/\(!ha (Mb.hn b) (Mb.hA b) (Mb.hM b) (Mb.hW b))=true/\(decide (ofNat (Mb.dn b)<=3)=true->True/\decide (ofNat (Mb.dn b)<=3)=true/\decide (ofNat (Mb.dn b)<=3)=true/\Con PG 155 [svN (Mb.dn b) (Mb.dA b) (Mb.dM b) (Mb.dW b),AV.fn (Fn.func 156) [] []] [] (AV.b (da (Mb.dn b) (Mb.dA b) (Mb.dM b) (Mb.dW b))) []/\decide (ofNat (Mb.dn b)<=3)=true/\True/\decide (ofNat (Mb.dn b)<=3)=true/\(AV.b !da (Mb.dn b) (Mb.dA b) (Mb.dM b) (Mb.dW b))=V)/\(decide (ofNat (Mb.dn b)<=3)=false->decide (ofNat (Mb.dn b)<=3)=false/\decide (ofNat (Mb.dn b)<=3)=false/\decide (ofNat (Mb.dn b)<=3)=false/\decide (ofNat (Mb.dn b)<=3)=false/\(AV.b false)=V))/\((!ha (Mb.hn b) (Mb.hA b) (Mb.hM b) (Mb.hW b))=false->(!ha (Mb.hn b) (Mb.hA b) (Mb.hM b) (Mb.hW b))=false/\(!ha (Mb.hn b) (Mb.hA b) (Mb.hM b) (Mb.hW b))=false/\(!ha (Mb.hn b) (Mb.hA b) (Mb.hM b) (Mb.hW b))=false/\(!ha (Mb.hn b) (Mb.hA b) (Mb.hM b) (Mb.hW b))=false/\(AV.b false)=V))/\(decide (ofNat (Mb.hn b)<=19)=false->decide (ofNat (Mb.hn b)<=19)=false/\decide (ofNat (Mb.hn b)<=19)=false/\decide (ofNat (Mb.hn b)<=19)=false/\decide (ofNat (Mb.hn b)<=19)=false/\(AV.b false)=V)))/\(w (Mb.x b 7)
 0 1099511627776=false->w (Mb.x b 7) 0 1099511627776=false/\w (Mb.x b 7) 0 1099511627776=false/\w (Mb.x b 7) 0 1099511627776=false/\w (Mb.x b 7) 0 1099511627776=false/\w (Mb.x b 7) 0 1099511627776=false/\(AV.b false)=V))/\(w (Mb.x b 6) 0 99=false->w (Mb.x b 6) 0 99=false/\w (Mb.x b 6) 0 99=false/\w (Mb.x b 6) 0 99=false/\(AV.b false)=V)):=by kernel_rfl
theorem smb_vc (t:TS) (mm:Mb->Bool) (an:Mb->Int->Bool) (V:AV):runK PG 1000000 (.call 52 [tsV t] (mkH [])) (.c (.inl (.c (.c (.cal [] (AV.b (mm (Rs.s (TS.r t) 0))) [] (.s (ot 4 (.cal [] (AV.b (an (Rs.s (TS.r t) 0) (Rs.x (TS.r t) 0))) [] (.t (.f (.s .z (.inl (.c (.c (.cal [] (AV.b (mm (Rs.s (TS.r t) 1))) [] (.s (ot 4 (.cal [] (AV.b (an (Rs.s (TS.r t) 1) (Rs.x (TS.r t) 0))) [] (.t (.f (.s .z (.inl (.c (.c (.cal [] (AV.b (mm (Rs.s (TS.r t) 2))) [] (.s (ot 4 (.cal [] (AV.b (an (Rs.s (TS.r t) 2) (Rs.x (TS.r t) 0))) [] (.t (.f (.s .z (.inl (.c .z))))))) (of_ 5 (.t (.c .z))))))))))))) (of_ 5 (.t (.c .z))))))))))))) (of_ 5 (.t (.c .z))))))))) (fun r _=>rvIs V r)=(True/\Con PG 99 [AV.agg (mbL (Rs.s (TS.r t) 0))] [] (AV.b (mm (Rs.s (TS.r t) 0))) []/\True/\((!!mm (Rs.s (TS.r t) 0))=true->True/\(!!mm (Rs.s (TS.r t) 0))=true/\(!!mm (Rs.s (TS.r t) 0))=true/\True/\(!!mm (Rs.s (TS.r t) 0))=true/\(!!mm (Rs.s (TS.r t) 0))=true/\Con PG 100 [AV.agg (vwL (Rs.s (TS.r t) 0)),AV.i .i64 (Rs.x (TS.r t) 0)] [] (AV.b (an (Rs.s (TS.r t) 0) (Rs.x (TS.r t) 0))) []/\(!!mm (Rs.s (TS.r t) 0))=true/\True/\(!mm (Rs.s (TS.r t) 0))=false/\((!an (Rs.s (TS.r t) 0) (Rs.x (TS.r t) 0))=true->(AV.b false)=V)/\((!an (Rs.s (TS.r t) 0) (Rs.x (TS.r t) 0))=false->rg (1)/\Con PG 99 [AV.agg (mbL (Rs.s (TS.r t) 1))] [] (AV.b (mm (Rs.s (TS.r t) 1))) []/\True/\((!!mm (Rs.s (TS.r t) 1))=true->True/\(!!mm (Rs.s (TS.r t) 1))=true/\(!!mm (Rs.s (TS.r t) 1))=true/\True
 /\(!!mm (Rs.s (TS.r t) 1))=true/\(!!mm (Rs.s (TS.r t) 1))=true/\Con PG 100 [AV.agg (vwL (Rs.s (TS.r t) 1)),AV.i .i64 (Rs.x (TS.r t) 0)] [] (AV.b (an (Rs.s (TS.r t) 1) (Rs.x (TS.r t) 0))) []/\(!!mm (Rs.s (TS.r t) 1))=true/\True/\(!mm (Rs.s (TS.r t) 1))=false/\((!an (Rs.s (TS.r t) 1) (Rs.x (TS.r t) 0))=true->(AV.b false)=V)/\((!an (Rs.s (TS.r t) 1) (Rs.x (TS.r t) 0))=false->rg (2)/\Con PG 99 [AV.agg (mbL (Rs.s (TS.r t) 2))] [] (AV.b (mm (Rs.s (TS.r t) 2))) []/\True/\((!!mm (Rs.s (TS.r t) 2))=true->True/\(!!mm (Rs.s (TS.r t) 2))=true/\(!!mm (Rs.s (TS.r t) 2))=true/\True/\(!!mm (Rs.s (TS.r t) 2))=true/\(!!mm (Rs.s (TS.r t) 2))=true/\Con PG 100 [AV.agg (vwL (Rs.s (TS.r t) 2)),AV.i .i64 (Rs.x (TS.r t) 0)] [] (AV.b (an (Rs.s (TS.r t) 2) (Rs.x (TS.r t) 0))) []/\(!!mm (Rs.s (TS.r t) 2))=true/\True/\(!mm (Rs.s (TS.r t) 2))=false/\((!an (Rs.s (TS.r t) 2) (Rs.x (TS.r t) 0))=true->(AV.b false)=V)/\((!an (Rs.s (TS.r t) 2) (Rs.x (TS.r t) 0))=false->rg (3)/\(AV.b true)=V))/\((!!mm (Rs.s (TS.r t) 2))=false->(!!mm (Rs.s (TS.r t) 2))=false/\(!!mm (Rs.s (TS.r t) 2))=false/\(!!mm (Rs.s (TS.r t) 2))=false/\(!!mm (Rs.s (TS.r t) 2))=false/\(!!mm (Rs.s (TS.r t) 2))=false/\(!mm (Rs.s (TS.r t) 2))=true/\(AV.b false)=V)))/\((!!mm (Rs.s (TS.r t) 1))=false->(!!mm (Rs.s (TS.r t) 1))=false/\(!!mm (Rs.s (TS.r t) 1))=false/\(!!mm (Rs.s (TS.r t) 1))=false/\(!!mm (Rs.s (TS.r t) 1))=false/\(!!mm (Rs.s (TS.r
 t) 1))=false/\(!mm (Rs.s (TS.r t) 1))=true/\(AV.b false)=V)))/\((!!mm (Rs.s (TS.r t) 0))=false->(!!mm (Rs.s (TS.r t) 0))=false/\(!!mm (Rs.s (TS.r t) 0))=false/\(!!mm (Rs.s (TS.r t) 0))=false/\(!!mm (Rs.s (TS.r t) 0))=false/\(!!mm (Rs.s (TS.r t) 0))=false/\(!mm (Rs.s (TS.r t) 0))=true/\(AV.b false)=V)):=by kernel_rfl
theorem val_vc (w:Int->Int->Int->Bool) (cf:Int->Nat->Nat->(Nat->Int)->(Nat->Int)->Int->Bool) (t:TS) (sm lv:Bool) (V:AV):runK PG 1000000 (.call 21 [tsV t] (mkH [])) (.c (.cal [] (AV.b (w (Rs.x (TS.r t) 0) 1 3)) [] (.s (.t (.t (.cal [] (AV.b (w (Rs.x (TS.r t) 1) 0 4503599627370496)) [] (.t (.s (ot 4 (.cal [] (AV.b (cf (Rs.x (TS.r t) 2) (Rs.mn (TS.r t)) (Rs.sn (TS.r t)) (Rs.mf (TS.r t)) (Rs.sf (TS.r t)) (Rs.x (TS.r t) 0))) [] (.t (.s (.t (.cal [] (AV.b sm) [] (.t (.s (.t (.cal [] (AV.b lv) [] (.t .z))) (.f (.f .z)))))) (.f (.f (.c (.c (.c .z))))))))) (of_ 5 (.c (.c (.c (.c (.c (.c .z)))))))))))) (of_ 3 (.c (.c (.c (.c (.c (.c (.c (.c (.c (.c (.c (.c .z)))))))))))))))) (fun r _=>rvIs V r)=(True/\Con PG 50 [AV.i .i64 (Rs.x (TS.r t) 0),AV.i .i64 1,AV.i .i64 3] [] (AV.b (w (Rs.x (TS.r t) 0) 1 3)) []/\(w (Rs.x (TS.r t) 0) 1 3=true->True/\w (Rs.x (TS.r t) 0) 1 3=true/\w (Rs.x (TS.r t) 0) 1 3=true/\Con PG 50 [AV.i .i64 (Rs.x (TS.r t) 1),AV.i .i64 0,AV.i .i64 4503599627370496] [] (AV.b (w (Rs.x (TS.r t) 1) 0 4503599627370496)) []/\w (Rs.x (TS.r t) 0) 1 3=true/\(w (Rs.x (TS.r t) 1) 0 4503599627370496=true->True/\w (Rs.x (TS.r t) 1) 0 4503599627370496=true/\w (Rs.x (TS.r t) 1) 0 4503599627370496=true/\True/\w (Rs.x (TS.r t) 1) 0 4503599627370496=true/\w (Rs.x (TS.r t) 1) 0 4503599627370496=true/\Con PG 51 [AV.agg [AV.i .i64 (Rs.x (TS.r t) 2),isv (Rs.mn (TS.r t)) (Rs.mf (TS.r t)),isv (Rs.sn (TS.r t)) (Rs.sf (TS.r t))],AV.i
 .i64 (Rs.x (TS.r t) 0)] [] (AV.b (cf (Rs.x (TS.r t) 2) (Rs.mn (TS.r t)) (Rs.sn (TS.r t)) (Rs.mf (TS.r t)) (Rs.sf (TS.r t)) (Rs.x (TS.r t) 0))) []/\w (Rs.x (TS.r t) 1) 0 4503599627370496=true/\(cf (Rs.x (TS.r t) 2) (Rs.mn (TS.r t)) (Rs.sn (TS.r t)) (Rs.mf (TS.r t)) (Rs.sf (TS.r t)) (Rs.x (TS.r t) 0)=true->cf (Rs.x (TS.r t) 2) (Rs.mn (TS.r t)) (Rs.sn (TS.r t)) (Rs.mf (TS.r t)) (Rs.sf (TS.r t)) (Rs.x (TS.r t) 0)=true/\Con PG 52 [tsV t] [] (AV.b sm) []/\cf (Rs.x (TS.r t) 2) (Rs.mn (TS.r t)) (Rs.sn (TS.r t)) (Rs.mf (TS.r t)) (Rs.sf (TS.r t)) (Rs.x (TS.r t) 0)=true/\(sm=true->sm=true/\Con PG 35 [tsV t] [] (AV.b lv) []/\sm=true/\(AV.b lv)=V)/\(sm=false->sm=false/\sm=false/\(AV.b false)=V))/\(cf (Rs.x (TS.r t) 2) (Rs.mn (TS.r t)) (Rs.sn (TS.r t)) (Rs.mf (TS.r t)) (Rs.sf (TS.r t)) (Rs.x (TS.r t) 0)=false->cf (Rs.x (TS.r t) 2) (Rs.mn (TS.r t)) (Rs.sn (TS.r t)) (Rs.mf (TS.r t)) (Rs.sf (TS.r t)) (Rs.x (TS.r t) 0)=false/\cf (Rs.x (TS.r t) 2) (Rs.mn (TS.r t)) (Rs.sn (TS.r t)) (Rs.mf (TS.r t)) (Rs.sf (TS.r t)) (Rs.x (TS.r t) 0)=false/\(AV.b false)=V))/\(w (Rs.x (TS.r t) 1) 0 4503599627370496=false->w (Rs.x (TS.r t) 1) 0 4503599627370496=false/\w (Rs.x (TS.r t) 1) 0 4503599627370496=false/\w (Rs.x (TS.r t) 1) 0 4503599627370496=false/\w (Rs.x (TS.r t) 1) 0 4503599627370496=false/\w (Rs.x (TS.r t) 1) 0 4503599627370496=false/\(AV.b false)=V))/\(w (Rs.x (TS.r t) 0) 1 3=false->w (Rs.x (TS.r t) 0) 1 3=false/\w (Rs.x
 (TS.r t) 0) 1 3=false/\w (Rs.x (TS.r t) 0) 1 3=false/\(AV.b false)=V)):=by kernel_rfl
def haB (n:Nat) (A M W:Nat->Int):Bool:=anyP (fun i=>amH (A i) (M i) (W i)) n 0
def daB (n:Nat) (A M W:Nat->Int):Bool:=anyP (fun i=>amD (A i) (M i) (W i)) n 0
theorem anm_con (b:Mb) (s:Int) (hs:s<=9223372036854775807) (h1:b.mn<=1152921504606846976) (h2:b.hn<=1152921504606846976) (h3:b.dn<=1152921504606846976):Con PG 100 [.agg (vwL b),.i .i64 s] [] (.b (anB b s)) []:=by
 refine con_pureX (anm_vc wi noCf cfB haB daB b s _) rfl ?_
 repeat' first | exact trivial | assumption | exact w50_con _ _ _ | exact w151_con _ _ _ | exact noc_con _ _ _ _ _ | exact cfm_con _ _ _ _ _ _ h1 hs | exact ihc_con _ h2 _ _ _ | exact idc_con _ h3 _ _ _ | apply And.intro | intro _
 all_goals (simp_all [anB,haB,daB]<;>(intros;omega))
theorem smb_con (t:TS) (ok:t.ok) (hs:t.r.x 0<=9223372036854775807):Con PG 52 [tsV t] [] (.b (svB t.r)) []:=by
 have a:∀i,Con PG 100 [.agg (vwL (t.r.s i)),.i .i64 (t.r.x 0)] [] (.b (anB (t.r.s i) (t.r.x 0))) []:=fun i=>anm_con _ _ hs (by have:=ok.s i;omega) (by have:=ok.s i;omega) (by have:=ok.s i;omega)
 refine con_pureX (smb_vc t mmB anB _) rfl ?_
 repeat' first | exact trivial | assumption | exact mm_con _ | exact a _ | apply And.intro | intro _
 all_goals (simp_all [svB])
theorem val_con (s:LS) (ok:s.ok):Con PG 21 [lsV s] [] (.b (vaB s)) []:=by
 by_cases hs:s.r.x 0<=9223372036854775807
 · refine con_pureX (val_vc wi cfB s.ts (svB s.r) (vaS s) _) rfl ?_
   repeat' first | exact trivial | assumption | exact w50_con _ _ _ | exact cfm_con _ _ _ _ _ _ (by have:=ok.m;have h:s.ts.r.mn=s.r.mn:=rfl;omega) hs | exact smb_con s.ts ok hs | exact valid_con s ok | apply And.intro | intro _
   all_goals (simp_all [vaB,LS.ts])
 · have hf:wi (s.r.x 0) 1 3=false:=by unfold wi;rw [show decide (s.r.x 0<=3)=false from decide_eq_false (by omega)];simp
   refine con_pureX (val_vc wi cfB s.ts (svB s.r) (vaS s) _) rfl ?_
   have hf':wi (s.ts.r.x 0) 1 3=false:=hf
   repeat' first | exact trivial | assumption | exact w50_con _ _ _ | (intro h;exact absurd (hf'.symm.trans h) (by decide)) | apply And.intro | intro _
   all_goals (simp_all [vaB,LS.ts])
theorem fit_vc (a:Nat->Int) (c:Cm) (w:Int->Int->Int->Bool) (an:Nat->(Nat->Int)->Bool) (V:AV):runK PG 1000000 (.call 59 [shL a,cmV c] (mkH [])) (.cal [] (AV.b (w (Cm.sv c) (a 0) (a 1))) [] (.s (ot 4 (.cal [] (AV.b (w (Cm.bt c) (a 2) (a 3))) [] (.t (.s (ot 4 (.cal [] (AV.b (w (Cm.sq c) (a 4) (a 5))) [] (.t (.s (ot 4 (.cal [] (AV.b (w (Cm.gn c) (a 6) (a 7))) [] (.t (.s (ot 4 (.cal [] (AV.b (w (Cm.lk c) (a 8) (a 9))) [] (.t (.s (ot 4 (.cal [] (AV.b (w (Cm.md c) (a 10) (a 11))) [] (.t (.s (ot 4 (.cal [] (AV.b (w (Cm.ot c) (a 12) (a 13))) [] (.t (.s (ot 4 (.cal [] (AV.b (w (Cm.d c) (a 16) (a 17))) [] (.t (.s (ot 5 (.cal [] (AV.b (w (ofNat (Cm.mn c)) (a 14) (a 15))) [] (.t (.s (.t (.t (.cal [] (AV.b (an (Cm.mn c) (Cm.mf c))) [] (.t (.t .z))))) (of_ 4 .z))))) (of_ 6 (.c (.c (.c (.c (.c .z)))))))))) (of_ 5 (.c (.c (.c (.c (.c (.c (.c (.c (.c (.c (.c (.c .z))))))))))))))))) (of_ 5 (.c (.c (.c (.c (.c (.c (.c (.c (.c (.c (.c (.c (.c (.c (.c (.c (.c (.c .z))))))))))))))))))))))) (of_ 5 (.c (.c (.c (.c (.c (.c (.c (.c (.c (.c (.c (.c (.c (.c (.c (.c (.c (.c (.c (.c (.c (.c (.c (.c .z))))))))))))))))))))))))))))) (of_ 5 (.c (.c (.c (.c (.c (.c (.c (.c (.c (.c (.c (.c (.c (.c (.c (.c (.c (.c (.c (.c (.c (.c (.c (.c (.c (.c (.c (.c (.c (.c .z))))))))))))))))))))))))))))))))))) (of_ 5 (.c (.c (.c (.c (.c (.c (.c (.c (.c (.c (.c (.c (.c (.c (.c (.c (.c (.c (.c (.c (.c (.c (.c (.c (.c (.c (.c (.c (.c (.c (.c (.c (.c (.c (.c (.c .z)))))))))))))))))))))))))))))))))))))))))
 (of_ 5 (.c (.c (.c (.c (.c (.c (.c (.c (.c (.c (.c (.c (.c (.c (.c (.c (.c (.c (.c (.c (.c (.c (.c (.c (.c (.c (.c (.c (.c (.c (.c (.c (.c (.c (.c (.c (.c (.c (.c (.c (.c (.c .z))))))))))))))))))))))))))))))))))))))))))))))) (of_ 5 (.c (.c (.c (.c (.c (.c (.c (.c (.c (.c (.c (.c (.c (.c (.c (.c (.c (.c (.c (.c (.c (.c (.c (.c (.c (.c (.c (.c (.c (.c (.c (.c (.c (.c (.c (.c (.c (.c (.c (.c (.c (.c (.c (.c (.c (.c (.c (.c .z))))))))))))))))))))))))))))))))))))))))))))))))))) (fun r _=>rvIs V r)=((fun (q0:Int)=>(True/\True/\Con PG 104 [AV.agg [AV.i .i64 (a 0),AV.i .i64 (a 1)],AV.i .i64 (Cm.sv c)] [] (AV.b (w (Cm.sv c) (a 0) (a 1))) []/\(w (Cm.sv c) (a 0) (a 1)=true->True/\w (Cm.sv c) (a 0) (a 1)=true/\w (Cm.sv c) (a 0) (a 1)=true/\True/\w (Cm.sv c) (a 0) (a 1)=true/\w (Cm.sv c) (a 0) (a 1)=true/\Con PG 104 [AV.agg [AV.i .i64 (a 2),AV.i .i64 (a 3)],AV.i .i64 (Cm.bt c)] [] (AV.b (w (Cm.bt c) (a 2) (a 3))) []/\w (Cm.sv c) (a 0) (a 1)=true/\(w (Cm.bt c) (a 2) (a 3)=true->True/\w (Cm.bt c) (a 2) (a 3)=true/\w (Cm.bt c) (a 2) (a 3)=true/\True/\w (Cm.bt c) (a 2) (a 3)=true/\w (Cm.bt c) (a 2) (a 3)=true/\Con PG 104 [AV.agg [AV.i .i64 (a 4),AV.i .i64 (a 5)],AV.i .i64 (Cm.sq c)] [] (AV.b (w (Cm.sq c) (a 4) (a 5))) []/\w (Cm.bt c) (a 2) (a 3)=true/\(w (Cm.sq c) (a 4) (a 5)=true->True/\w (Cm.sq c) (a 4) (a 5)=true/\w (Cm.sq c) (a 4) (a 5)=true/\True/\w (Cm.sq c) (a 4) (a 5)=true/\w (Cm.sq c) (a 4) (a 5)=true/\Con PG
 104 [AV.agg [AV.i .i64 (a 6),AV.i .i64 (a 7)],AV.i .i64 (Cm.gn c)] [] (AV.b (w (Cm.gn c) (a 6) (a 7))) []/\w (Cm.sq c) (a 4) (a 5)=true/\(w (Cm.gn c) (a 6) (a 7)=true->True/\w (Cm.gn c) (a 6) (a 7)=true/\w (Cm.gn c) (a 6) (a 7)=true/\True/\w (Cm.gn c) (a 6) (a 7)=true/\w (Cm.gn c) (a 6) (a 7)=true/\Con PG 104 [AV.agg [AV.i .i64 (a 8),AV.i .i64 (a 9)],AV.i .i64 (Cm.lk c)] [] (AV.b (w (Cm.lk c) (a 8) (a 9))) []/\w (Cm.gn c) (a 6) (a 7)=true/\(w (Cm.lk c) (a 8) (a 9)=true->True/\w (Cm.lk c) (a 8) (a 9)=true/\w (Cm.lk c) (a 8) (a 9)=true/\True/\w (Cm.lk c) (a 8) (a 9)=true/\w (Cm.lk c) (a 8) (a 9)=true/\Con PG 104 [AV.agg [AV.i .i64 (a 10),AV.i .i64 (a 11)],AV.i .i64 (Cm.md c)] [] (AV.b (w (Cm.md c) (a 10) (a 11))) []/\w (Cm.lk c) (a 8) (a 9)=true/\(w (Cm.md c) (a 10) (a 11)=true->True/\w (Cm.md c) (a 10) (a 11)=true/\w (Cm.md c) (a 10) (a 11)=true/\True/\w (Cm.md c) (a 10) (a 11)=true/\w (Cm.md c) (a 10) (a 11)=true/\Con PG 104 [AV.agg [AV.i .i64 (a 12),AV.i .i64 (a 13)],AV.i .i64 (Cm.ot c)] [] (AV.b (w (Cm.ot c) (a 12) (a 13))) []/\w (Cm.md c) (a 10) (a 11)=true/\(w (Cm.ot c) (a 12) (a 13)=true->True/\w (Cm.ot c) (a 12) (a 13)=true/\w (Cm.ot c) (a 12) (a 13)=true/\True/\w (Cm.ot c) (a 12) (a 13)=true/\w (Cm.ot c) (a 12) (a 13)=true/\Con PG 104 [AV.agg [AV.i .i64 (a 16),AV.i .i64 (a 17)],AV.i .i64 (Cm.d c)] [] (AV.b (w (Cm.d c) (a 16) (a 17))) []/\w (Cm.ot c) (a 12) (a 13)=true/\(w
 (Cm.d c) (a 16) (a 17)=true->True/\w (Cm.d c) (a 16) (a 17)=true/\w (Cm.d c) (a 16) (a 17)=true/\True/\w (Cm.d c) (a 16) (a 17)=true/\w (Cm.d c) (a 16) (a 17)=true/\w (Cm.d c) (a 16) (a 17)=true/\Con PG 104 [AV.agg [AV.i .i64 (a 14),AV.i .i64 (a 15)],AV.i .i64 q0] [] (AV.b (w q0 (a 14) (a 15))) []/\w (Cm.d c) (a 16) (a 17)=true/\(w q0 (a 14) (a 15)=true->True/\w q0 (a 14) (a 15)=true/\w q0 (a 14) (a 15)=true/\Con PG 105 [isv (Cm.mn c) (Cm.mf c),AV.fn (Fn.func 106) [] []] [] (AV.b (an (Cm.mn c) (Cm.mf c))) []/\w q0 (a 14) (a 15)=true/\True/\w q0 (a 14) (a 15)=true/\(AV.b !an (Cm.mn c) (Cm.mf c))=V)/\(w q0 (a 14) (a 15)=false->w q0 (a 14) (a 15)=false/\w q0 (a 14) (a 15)=false/\w q0 (a 14) (a 15)=false/\w q0 (a 14) (a 15)=false/\(AV.b false)=V))/\(w (Cm.d c) (a 16) (a 17)=false->w (Cm.d c) (a 16) (a 17)=false/\w (Cm.d c) (a 16) (a 17)=false/\w (Cm.d c) (a 16) (a 17)=false/\w (Cm.d c) (a 16) (a 17)=false/\w (Cm.d c) (a 16) (a 17)=false/\w (Cm.d c) (a 16) (a 17)=false/\(AV.b false)=V))/\(w (Cm.ot c) (a 12) (a 13)=false->w (Cm.ot c) (a 12) (a 13)=false/\w (Cm.ot c) (a 12) (a 13)=false/\w (Cm.ot c) (a 12) (a 13)=false/\w (Cm.ot c) (a 12) (a 13)=false/\w (Cm.ot c) (a 12) (a 13)=false/\(AV.b false)=V))/\(w (Cm.md c) (a 10) (a 11)=false->w (Cm.md c) (a 10) (a 11)=false/\w (Cm.md c) (a 10) (a 11)=false/\w (Cm.md c) (a 10) (a 11)=false/\w (Cm.md c) (a 10) (a 11) =
 false/\w (Cm.md c) (a 10) (a 11)=false/\(AV.b false)=V))/\(w (Cm.lk c) (a 8) (a 9)=false->w (Cm.lk c) (a 8) (a 9)=false/\w (Cm.lk c) (a 8) (a 9)=false/\w (Cm.lk c) (a 8) (a 9)=false/\w (Cm.lk c) (a 8) (a 9)=false/\w (Cm.lk c) (a 8) (a 9)=false/\(AV.b false)=V))/\(w (Cm.gn c) (a 6) (a 7)=false->w (Cm.gn c) (a 6) (a 7)=false/\w (Cm.gn c) (a 6) (a 7)=false/\w (Cm.gn c) (a 6) (a 7)=false/\w (Cm.gn c) (a 6) (a 7)=false/\w (Cm.gn c) (a 6) (a 7)=false/\(AV.b false)=V))/\(w (Cm.sq c) (a 4) (a 5)=false->w (Cm.sq c) (a 4) (a 5)=false/\w (Cm.sq c) (a 4) (a 5)=false/\w (Cm.sq c) (a 4) (a 5)=false/\w (Cm.sq c) (a 4) (a 5)=false/\w (Cm.sq c) (a 4) (a 5)=false/\(AV.b false)=V))/\(w (Cm.bt c) (a 2) (a 3)=false->w (Cm.bt c) (a 2) (a 3)=false/\w (Cm.bt c) (a 2) (a 3)=false/\w (Cm.bt c) (a 2) (a 3)=false/\w (Cm.bt c) (a 2) (a 3)=false/\w (Cm.bt c) (a 2) (a 3)=false/\(AV.b false)=V))/\(w (Cm.sv c) (a 0) (a 1)=false->w (Cm.sv c) (a 0) (a 1)=false/\w (Cm.sv c) (a 0) (a 1)=false/\w (Cm.sv c) (a 0) (a 1)=false/\w (Cm.sv c) (a 0) (a 1)=false/\w (Cm.sv c) (a 0) (a 1)=false/\(AV.b false)=V))) (ofNat (Cm.mn c))):=by kernel_rfl
theorem vcm_vc (a:Nat->Int) (kd:Bool) (c:Cm) (ft:Bool) (V:AV):runK PG 1000000 (.call 23 [cmV c] (mkH [])) (.cal [] (AV.tup [shL a,AV.b kd]) [] (.s (.t (.t (.cal [] (AV.b ft) [] (.t .z)))) (of_ 3 .z))) (fun r _=>rvIs V r)=(True/\Con PG 58 [AV.i .i64 (Cm.k c)] [] (AV.tup [shL a,AV.b kd]) []/\(kd=true->kd=true/\kd=true/\Con PG 59 [shL a,cmV c] [] (AV.b ft) []/\kd=true/\(AV.b ft)=V)/\(kd=false->kd=false/\kd=false/\kd=false/\(AV.b false)=V)):=by kernel_rfl
theorem shA_vc (k:Int) (h1:decide (k=1)=false) (h2:decide (k=2)=false) (h3:decide (k=3)=false) (h4:decide (k=4)=false) (h5:decide (k=5)=false) (h6:decide (k=6)=false) (h7:decide (k=7)=false) (h8:decide (k=8)=false) (V:AV):runK PG 1000000 (.call 58 [.i .i64 k] (mkH [])) (of_ 8 .z) (fun r _=>rvIs V r)=(decide (k=1)=false/\decide (k=2)=false/\decide (k=3)=false/\decide (k=4)=false/\decide (k=5)=false/\decide (k=6)=false/\decide (k=7)=false/\decide (k=8)=false/\(AV.tup [AV.agg [AV.i .i64 0,AV.i .i64 0,AV.i .i64 0,AV.i .i64 0,AV.i .i64 0,AV.i .i64 0,AV.i .i64 0,AV.i .i64 0,AV.i .i64 0,AV.i .i64 0,AV.i .i64 0,AV.i .i64 0,AV.i .i64 0,AV.i .i64 0,AV.i .i64 0,AV.i .i64 0,AV.i .i64 0,AV.i .i64 0],AV.b false])=V):=by kernel_rfl
theorem sh1_vc (V:AV):runK PG 1000000 (.call 58 [.i .i64 1] (mkH [])) (Orc.c Orc.z) (fun r _=>rvIs V r)=(True/\(AV.tup [AV.agg [AV.i IntKind.i64 (0:Int),AV.i
 IntKind.i64 (2:Int),AV.i IntKind.i64 (1:Int),AV.i IntKind.i64 (1099511627776:Int),AV.i IntKind.i64 (1:Int),AV.i IntKind.i64 (1099511627776:Int),AV.i IntKind.i64 (0
 :Int),AV.i IntKind.i64 (0:Int),AV.i IntKind.i64 (0:Int),AV.i IntKind.i64 (0:Int),AV.i IntKind.i64 (0:Int),AV.i IntKind.i64 (0:Int),AV.i IntKind.i64 (0:Int),
 AV.i IntKind.i64 (0:Int),AV.i IntKind.i64 (0:Int),AV.i IntKind.i64 (0:Int),AV.i IntKind.i64 (0:Int),AV.i IntKind.i64 (1048576:Int)],AV.b true])=V):=by
 kernel_rfl
theorem sh2_vc (V:AV):runK PG 1000000 (.call 58 [.i .i64 2] (mkH [])) (Orc.c (Orc.c Orc.z)) (fun r _=>rvIs V r)=((AV.tup [AV.agg [AV.i IntKind.i64 (0:Int),AV.i
 IntKind.i64 (2:Int),AV.i IntKind.i64 (1:Int),AV.i IntKind.i64 (1099511627776:Int),AV.i IntKind.i64 (1:Int),AV.i IntKind.i64 (1099511627776:Int),AV.i IntKind.i64 (0
 :Int),AV.i IntKind.i64 (1099511627776:Int),AV.i IntKind.i64 (0:Int),AV.i IntKind.i64 (0:Int),AV.i IntKind.i64 (0:Int),AV.i IntKind.i64 (0:Int),AV.i IntKind.i64 (0
 :Int),AV.i IntKind.i64 (0:Int),AV.i IntKind.i64 (0:Int),AV.i IntKind.i64 (0:Int),AV.i IntKind.i64 (0:Int),AV.i IntKind.i64 (1048576:Int)],AV.b true])=V):=by
 kernel_rfl
theorem sh3_vc (V:AV):runK PG 1000000 (.call 58 [.i .i64 3] (mkH [])) (.c (.c (.c .z))) (fun r _=>rvIs V r)=(True/\True/\(AV.tup [AV.agg [AV.i .i64 0,AV.i .i64 2,AV.i .i64 1,AV.i .i64 1099511627776,AV.i .i64 1,AV.i .i64 1099511627776,AV.i .i64 0,AV.i .i64 1099511627776,AV.i .i64 0,AV.i .i64 18,AV.i .i64 1,AV.i .i64 2,AV.i .i64 0,AV.i .i64 0,AV.i .i64 0,AV.i .i64 0,AV.i .i64 0,AV.i .i64 1048576],AV.b true])=V):=by kernel_rfl
theorem sh4_vc (V:AV):runK PG 1000000 (.call 58 [.i .i64 4] (mkH [])) (.c (.c (.c (.c .z)))) (fun r _=>rvIs V r)=(True/\(AV.tup [AV.agg [AV.i .i64 0,AV.i .i64 2,AV.i .i64 1,AV.i .i64 1099511627776,AV.i .i64 1,AV.i .i64 1099511627776,AV.i .i64 0,AV.i .i64 1099511627776,AV.i .i64 0,AV.i .i64 18,AV.i .i64 0,AV.i .i64 0,AV.i .i64 0,AV.i .i64 0,AV.i .i64 0,AV.i .i64 0,AV.i .i64 0,AV.i .i64 1048576],AV.b true])=V):=by kernel_rfl
theorem sh5_vc (V:AV):runK PG 1000000 (.call 58 [.i .i64 5] (mkH [])) (.c (.c (.c (.c (.c (.c .z)))))) (fun r _=>rvIs V r)=(True/\(AV.tup [AV.agg [AV.i .i64 0,AV.i .i64 2,AV.i .i64 1,AV.i .i64 1099511627776,AV.i .i64 1,AV.i .i64 1099511627776,AV.i .i64 0,AV.i .i64 1099511627776,AV.i .i64 0,AV.i .i64 0,AV.i .i64 0,AV.i .i64 0,AV.i .i64 0,AV.i .i64 2,AV.i .i64 0,AV.i .i64 0,AV.i .i64 0,AV.i .i64 1048576],AV.b true])=V):=by kernel_rfl
theorem sh6_vc (V:AV):runK PG 1000000 (.call 58 [.i .i64 6] (mkH [])) (.c (.c (.c (.c (.c (.c .z)))))) (fun r _=>rvIs V r)=(True/\(AV.tup [AV.agg [AV.i .i64 0,AV.i .i64 2,AV.i .i64 1,AV.i .i64 1099511627776,AV.i .i64 1,AV.i .i64 1099511627776,AV.i .i64 0,AV.i .i64 1099511627776,AV.i .i64 0,AV.i .i64 0,AV.i .i64 0,AV.i .i64 0,AV.i .i64 0,AV.i .i64 2,AV.i .i64 0,AV.i .i64 0,AV.i .i64 0,AV.i .i64 1048576],AV.b true])=V):=by kernel_rfl
theorem sh7_vc (V:AV):runK PG 1000000 (.call 58 [.i .i64 7] (mkH [])) (.c (.c (.c (.c (.c (.c (.c .z))))))) (fun r _=>rvIs V r)=(True/\(AV.tup [AV.agg [AV.i .i64 0,AV.i .i64 2,AV.i .i64 1,AV.i .i64 1099511627776,AV.i .i64 1,AV.i .i64 1099511627776,AV.i .i64 0,AV.i .i64 1099511627776,AV.i .i64 0,AV.i .i64 0,AV.i .i64 0,AV.i .i64 0,AV.i .i64 0,AV.i .i64 0,AV.i .i64 1,AV.i .i64 3,AV.i .i64 0,AV.i .i64 1048576],AV.b true])=V):=by kernel_rfl
theorem sh8_vc (V:AV):runK PG 1000000 (.call 58 [.i .i64 8] (mkH [])) (.c (.c (.c (.c (.c (.c (.c (.c .z)))))))) (fun r _=>rvIs V r)=((AV.tup [AV.agg [AV.i .i64 0,AV.i .i64 0,AV.i .i64 0,AV.i .i64 0,AV.i .i64 0,AV.i .i64 0,AV.i .i64 0,AV.i .i64 0,AV.i .i64 0,AV.i .i64 0,AV.i .i64 0,AV.i .i64 0,AV.i .i64 0,AV.i .i64 0,AV.i .i64 0,AV.i .i64 0,AV.i .i64 1,AV.i .i64 1048576],AV.b true])=V):=by kernel_rfl
def anM (n:Nat) (f:Nat->Int):Bool:=anyP (fun i=>!wi (f i) 0 2) n 0
theorem fit_con (a:Nat->Int) (c:Cm) (h:c.mn<=1152921504606846976):Con PG 59 [shL a,cmV c] [] (.b (fitB a c)) []:=by
 refine con_pureX (fit_vc a c wi anM _) rfl ?_
 repeat' first | exact trivial | assumption | exact has_con _ _ _ | exact ifc_con _ h _ | apply And.intro | intro _
 all_goals (simp_all [fitB,anM])
theorem sh_con (k:Int):Con PG 58 [.i .i64 k] [] (.tup [shL (shA k),.b (kdB k)]) []:=by
 by_cases h1:k=1
 · subst h1;exact con_pureX (sh1_vc _) (by kernel_rfl) (by repeat' first | exact trivial | kernel_rfl | apply And.intro)
 by_cases h2:k=2
 · subst h2;exact con_pureX (sh2_vc _) (by kernel_rfl) (by repeat' first | exact trivial | kernel_rfl | apply And.intro)
 by_cases h3:k=3
 · subst h3;exact con_pureX (sh3_vc _) (by kernel_rfl) (by repeat' first | exact trivial | kernel_rfl | apply And.intro)
 by_cases h4:k=4
 · subst h4;exact con_pureX (sh4_vc _) (by kernel_rfl) (by repeat' first | exact trivial | kernel_rfl | apply And.intro)
 by_cases h5:k=5
 · subst h5;exact con_pureX (sh5_vc _) (by kernel_rfl) (by repeat' first | exact trivial | kernel_rfl | apply And.intro)
 by_cases h6:k=6
 · subst h6;exact con_pureX (sh6_vc _) (by kernel_rfl) (by repeat' first | exact trivial | kernel_rfl | apply And.intro)
 by_cases h7:k=7
 · subst h7;exact con_pureX (sh7_vc _) (by kernel_rfl) (by repeat' first | exact trivial | kernel_rfl | apply And.intro)
 by_cases h8:k=8
 · subst h8;exact con_pureX (sh8_vc _) (by kernel_rfl) (by repeat' first | exact trivial | kernel_rfl | apply And.intro)
 have d1:=decide_eq_false h1
 have d2:=decide_eq_false h2
 have d3:=decide_eq_false h3
 have d4:=decide_eq_false h4
 have d5:=decide_eq_false h5
 have d6:=decide_eq_false h6
 have d7:=decide_eq_false h7
 have d8:=decide_eq_false h8
 refine con_pureX (shA_vc k d1 d2 d3 d4 d5 d6 d7 d8 _) rfl ?_
 have hk:kdB k=false:=by
  unfold kdB wi
  by_cases q:1<=k
  · rw [show decide (k<=8)=false from decide_eq_false (by omega)];simp
  · rw [show decide (1<=k)=false from decide_eq_false q];rfl
 have hs:shT k=[0,0,0,0,0,0,0,0,0,0,0,0,0,0,0,0,0,0]:=by
  unfold shT;rw [if_neg h1,if_neg h2,if_neg h3,if_neg h4,if_neg h5,if_neg h6,if_neg h7,if_neg h8]
 repeat' first | exact trivial | assumption | (unfold shL shA;rw [hs,hk];rfl) | apply And.intro
theorem vcm_con (c:Cm) (h:c.mn<=1152921504606846976):Con PG 23 [cmV c] [] (.b (vcB c)) []:=by
 refine con_pureX (vcm_vc (shA c.k) (kdB c.k) c (fitB (shA c.k) c) _) rfl ?_
 repeat' first | exact trivial | assumption | exact sh_con _ | exact fit_con _ _ h | apply And.intro | intro _
 all_goals (simp_all [vcB])
theorem cc_vc (e:Int) (n m:Nat) (f g:Nat->Int) (V:AV):runK PG 1000000 (.call 85 [.agg [.i .i64 e,isv n f,isv m g]] (mkH [])) (.cal [] (isv n f) [] (.cal [] (isv m g) [] .z)) (fun r _=>rvIs V r)=(True/\Con PG 129 [isv n f] [] (isv n f) []/\True/\True/\Con PG 129 [isv m g] [] (isv m g) []/\True/\(AV.agg [AV.i .i64 e,AV.sv 1 n fun i x=>CV.i .i64 (f i),AV.sv 1 m fun i x=>CV.i .i64 (g i)])=V):=by kernel_rfl
theorem cv_vc (b:Mb) (V:AV):runK PG 1000000 (.call 86 [.agg (vwL b)] (mkH [])) (.cal [] (AV.agg [AV.i .i64 (Mb.x b 8),isv (Mb.mn b) (Mb.mf b),isv (Mb.sn b) (Mb.sf b)]) [] (.cal [] (svN (Mb.hn b) (Mb.hA b) (Mb.hM b) (Mb.hW b)) [] (.cal [] (svN (Mb.dn b) (Mb.dA b) (Mb.dM b) (Mb.dW b)) [] .z))) (fun r _=>rvIs V r)=(True/\Con PG 85 [AV.agg [AV.i .i64 (Mb.x b 8),isv (Mb.mn b) (Mb.mf b),isv (Mb.sn b) (Mb.sf b)]] [] (AV.agg [AV.i .i64 (Mb.x b 8),isv (Mb.mn b) (Mb.mf b),isv (Mb.sn b) (Mb.sf b)]) []/\True/\True/\Con PG 87 [svN (Mb.hn b) (Mb.hA b) (Mb.hM b) (Mb.hW b)] [] (svN (Mb.hn b) (Mb.hA b) (Mb.hM b) (Mb.hW b)) []/\True/\True/\Con PG 130 [svN (Mb.dn b) (Mb.dA b) (Mb.dM b) (Mb.dW b)] [] (svN (Mb.dn b) (Mb.dA b) (Mb.dM b) (Mb.dW b)) []/\True/\(AV.agg [AV.i .i64 (Mb.x b 6),AV.i .i64 (Mb.x b 7),AV.i .i64 (Mb.x b 8),AV.sv 1 (Mb.mn b) fun i x=>CV.i .i64 (Mb.mf b i),AV.sv 1 (Mb.sn b) fun i x=>CV.i .i64 (Mb.sf b i),AV.sv 3 (Mb.hn b) (qF (Mb.hA b) (Mb.hM b) (Mb.hW b)),AV.sv 3 (Mb.dn b) (qF (Mb.dA b) (Mb.dM b) (Mb.dW b))])=V):=by kernel_rfl
theorem cp_vc (t:TS) (V:AV):runK PG 1000000 (.call 40 [tsV t] (mkH [])) (.c (.cal [] (AV.agg [AV.i .i64 (Rs.x (TS.r t) 2),isv (Rs.mn (TS.r t)) (Rs.mf (TS.r t)),isv (Rs.sn (TS.r t)) (Rs.sf (TS.r t))]) [] (.inl (.c (.c (.cal [] (AV.agg (vwL (Rs.s (TS.r t) 0))) [] (.c (.inl (.c (.c (.cal [] (AV.agg (vwL (Rs.s (TS.r t) 1))) [] (.c (.inl (.c (.c (.cal [] (AV.agg (vwL (Rs.s (TS.r t) 2))) [] (.c (.inl (.c (.inl (.c (.c (.cal [] (svN (TS.n t 0) (TS.A t (nat_lit 0)) (TS.M t (nat_lit 0)) (TS.W t (nat_lit 0))) [] (.c (.inl (.c (.c (.cal [] (svN (TS.n t 1) (TS.A t (nat_lit 1)) (TS.M t (nat_lit 1)) (TS.W t (nat_lit 1))) [] (.c (.inl (.c (.c (.cal [] (svN (TS.n t 2) (TS.A t (nat_lit 2)) (TS.M t (nat_lit 2)) (TS.W t (nat_lit 2))) [] (.c (.inl (.c (.c (.cal [] (svN (TS.n t 3) (TS.A t (nat_lit 3)) (TS.M t (nat_lit 3)) (TS.W t (nat_lit 3))) [] (.c (.inl (.c (.c (.cal [] (svN (TS.n t 4) (TS.A t (nat_lit 4)) (TS.M t (nat_lit 4)) (TS.W t (nat_lit 4))) [] (.c (.inl (.c (.c (.cal [] (svN (TS.n t 5) (TS.A t (nat_lit 5)) (TS.M t (nat_lit 5)) (TS.W t (nat_lit 5))) [] (.c (.inl (.c (.c (.cal [] (svN (TS.n t 6) (TS.A t (nat_lit 6)) (TS.M t (nat_lit 6)) (TS.W t (nat_lit 6))) [] (.c (.inl (.c (.c (.cal [] (svN (TS.n t 7) (TS.A t (nat_lit 7)) (TS.M t (nat_lit 7)) (TS.W t (nat_lit 7))) [] (.c (.inl (.c (.c (.cal [] (svN (TS.n t 8) (TS.A t (nat_lit 8)) (TS.M t (nat_lit 8)) (TS.W t (nat_lit 8))) [] (.c (.inl (.c (.c (.cal [] (svN (TS.n t 9) (TS.A t (nat_lit 9)) (TS.M t (nat_lit 9)) (TS.W t (nat_lit
 9))) [] (.c (.inl (.c (.c (.cal [] (svN (TS.n t 10) (TS.A t (nat_lit 10)) (TS.M t (nat_lit 10)) (TS.W t (nat_lit 10))) [] (.c (.inl (.c (.c (.cal [] (svN (TS.n t 11) (TS.A t (nat_lit 11)) (TS.M t (nat_lit 11)) (TS.W t (nat_lit 11))) [] (.c (.inl (.c (.c (.cal [] (svN (TS.n t 12) (TS.A t (nat_lit 12)) (TS.M t (nat_lit 12)) (TS.W t (nat_lit 12))) [] (.c (.inl (.c (.c (.cal [] (svN (TS.n t 13) (TS.A t (nat_lit 13)) (TS.M t (nat_lit 13)) (TS.W t (nat_lit 13))) [] (.c (.inl (.c (.c (.cal [] (svN (TS.n t 14) (TS.A t (nat_lit 14)) (TS.M t (nat_lit 14)) (TS.W t (nat_lit 14))) [] (.c (.inl (.c (.c (.cal [] (svN (TS.n t 15) (TS.A t (nat_lit 15)) (TS.M t (nat_lit 15)) (TS.W t (nat_lit 15))) [] (.c (.inl (.c (.c (.cal [] (svN (TS.n t 16) (TS.A t (nat_lit 16)) (TS.M t (nat_lit 16)) (TS.W t (nat_lit 16))) [] (.c (.inl (.c (.c (.cal [] (svN (TS.n t 17) (TS.A t (nat_lit 17)) (TS.M t (nat_lit 17)) (TS.W t (nat_lit 17))) [] (.c (.inl (.c (.c (.cal [] (svN (TS.n t 18) (TS.A t (nat_lit 18)) (TS.M t (nat_lit 18)) (TS.W t (nat_lit 18))) [] (.c (.inl (.c .z)))))))))))))))))))))))))))))))))))))))))))))))))))))))))))))))))))))))))))))))))))))))))))))))))))))))))))))))))))) (fun r _=>rvIs V r)=(True/\Con PG 85 [AV.agg [AV.i .i64 (Rs.x (TS.r t) 2),isv (Rs.mn (TS.r t)) (Rs.mf (TS.r t)),isv (Rs.sn (TS.r t)) (Rs.sf (TS.r t))]] [] (AV.agg [AV.i .i64 (Rs.x (TS.r t) 2),isv (Rs.mn (TS.r t)) (Rs.mf (TS.r t)),isv (Rs.sn (TS.r t)) (Rs.sf (TS.r t))]) []/\True/\True/\True/\Con PG 86 [AV.agg (vwL (Rs.s
 (TS.r t) 0))] [] (AV.agg (vwL (Rs.s (TS.r t) 0))) []/\True/\True/\rg (1)/\True/\True/\Con PG 86 [AV.agg (vwL (Rs.s (TS.r t) 1))] [] (AV.agg (vwL (Rs.s (TS.r t) 1))) []/\True/\True/\rg (2)/\True/\True/\Con PG 86 [AV.agg (vwL (Rs.s (TS.r t) 2))] [] (AV.agg (vwL (Rs.s (TS.r t) 2))) []/\True/\True/\rg (3)/\True/\Con PG 87 [svN (TS.n t 0) (TS.A t (nat_lit 0)) (TS.M t (nat_lit 0)) (TS.W t (nat_lit 0))] [] (svN (TS.n t 0) (TS.A t (nat_lit 0)) (TS.M t (nat_lit 0)) (TS.W t (nat_lit 0))) []/\True/\rg (1)/\Con PG 87 [svN (TS.n t 1) (TS.A t (nat_lit 1)) (TS.M t (nat_lit 1)) (TS.W t (nat_lit 1))] [] (svN (TS.n t 1) (TS.A t (nat_lit 1)) (TS.M t (nat_lit 1)) (TS.W t (nat_lit 1))) []/\True/\rg (2)/\Con PG 87 [svN (TS.n t 2) (TS.A t (nat_lit 2)) (TS.M t (nat_lit 2)) (TS.W t (nat_lit 2))] [] (svN (TS.n t 2) (TS.A t (nat_lit 2)) (TS.M t (nat_lit 2)) (TS.W t (nat_lit 2))) []/\True/\rg (3)/\Con PG 87 [svN (TS.n t 3) (TS.A t (nat_lit 3)) (TS.M t (nat_lit 3)) (TS.W t (nat_lit 3))] [] (svN (TS.n t 3) (TS.A t (nat_lit 3)) (TS.M t (nat_lit 3)) (TS.W t (nat_lit 3))) []/\True/\rg (4)/\Con PG 87 [svN (TS.n t 4) (TS.A t (nat_lit 4)) (TS.M t (nat_lit 4)) (TS.W t (nat_lit 4))] [] (svN (TS.n t 4) (TS.A t (nat_lit 4)) (TS.M t (nat_lit 4)) (TS.W t (nat_lit 4))) []/\True/\rg (5)/\Con PG 87 [svN (TS.n t 5) (TS.A t (nat_lit 5)) (TS.M t (nat_lit 5)) (TS.W t (nat_lit 5))] [] (svN (TS.n t 5) (TS.A t (nat_lit 5)) (TS.M t (nat_lit 5)) (TS.W t (nat_lit 5))) []/\True/\rg (6)/\Con PG 87
 [svN (TS.n t 6) (TS.A t (nat_lit 6)) (TS.M t (nat_lit 6)) (TS.W t (nat_lit 6))] [] (svN (TS.n t 6) (TS.A t (nat_lit 6)) (TS.M t (nat_lit 6)) (TS.W t (nat_lit 6))) []/\True/\rg (7)/\Con PG 87 [svN (TS.n t 7) (TS.A t (nat_lit 7)) (TS.M t (nat_lit 7)) (TS.W t (nat_lit 7))] [] (svN (TS.n t 7) (TS.A t (nat_lit 7)) (TS.M t (nat_lit 7)) (TS.W t (nat_lit 7))) []/\True/\rg (8)/\Con PG 87 [svN (TS.n t 8) (TS.A t (nat_lit 8)) (TS.M t (nat_lit 8)) (TS.W t (nat_lit 8))] [] (svN (TS.n t 8) (TS.A t (nat_lit 8)) (TS.M t (nat_lit 8)) (TS.W t (nat_lit 8))) []/\True/\rg (9)/\Con PG 87 [svN (TS.n t 9) (TS.A t (nat_lit 9)) (TS.M t (nat_lit 9)) (TS.W t (nat_lit 9))] [] (svN (TS.n t 9) (TS.A t (nat_lit 9)) (TS.M t (nat_lit 9)) (TS.W t (nat_lit 9))) []/\True/\rg (10)/\Con PG 87 [svN (TS.n t 10) (TS.A t (nat_lit 10)) (TS.M t (nat_lit 10)) (TS.W t (nat_lit 10))] [] (svN (TS.n t 10) (TS.A t (nat_lit 10)) (TS.M t (nat_lit 10)) (TS.W t (nat_lit 10))) []/\True/\rg (11)/\Con PG 87 [svN (TS.n t 11) (TS.A t (nat_lit 11)) (TS.M t (nat_lit 11)) (TS.W t (nat_lit 11))] [] (svN (TS.n t 11) (TS.A t (nat_lit 11)) (TS.M t (nat_lit 11)) (TS.W t (nat_lit 11))) []/\True/\rg (12)/\Con PG 87 [svN (TS.n t 12) (TS.A t (nat_lit 12)) (TS.M t (nat_lit 12)) (TS.W t (nat_lit 12))] [] (svN (TS.n t 12) (TS.A t (nat_lit 12)) (TS.M t (nat_lit 12)) (TS.W t (nat_lit 12))) []/\True/\rg (13)/\Con PG 87 [svN (TS.n t 13) (TS.A t (nat_lit 13)) (TS.M t (nat_lit 13)) (TS.W t (nat_lit 13))] [] (svN (TS.n t 13) (TS.A t
 (nat_lit 13)) (TS.M t (nat_lit 13)) (TS.W t (nat_lit 13))) []/\True/\rg (14)/\Con PG 87 [svN (TS.n t 14) (TS.A t (nat_lit 14)) (TS.M t (nat_lit 14)) (TS.W t (nat_lit 14))] [] (svN (TS.n t 14) (TS.A t (nat_lit 14)) (TS.M t (nat_lit 14)) (TS.W t (nat_lit 14))) []/\True/\rg (15)/\Con PG 87 [svN (TS.n t 15) (TS.A t (nat_lit 15)) (TS.M t (nat_lit 15)) (TS.W t (nat_lit 15))] [] (svN (TS.n t 15) (TS.A t (nat_lit 15)) (TS.M t (nat_lit 15)) (TS.W t (nat_lit 15))) []/\True/\rg (16)/\Con PG 87 [svN (TS.n t 16) (TS.A t (nat_lit 16)) (TS.M t (nat_lit 16)) (TS.W t (nat_lit 16))] [] (svN (TS.n t 16) (TS.A t (nat_lit 16)) (TS.M t (nat_lit 16)) (TS.W t (nat_lit 16))) []/\True/\rg (17)/\Con PG 87 [svN (TS.n t 17) (TS.A t (nat_lit 17)) (TS.M t (nat_lit 17)) (TS.W t (nat_lit 17))] [] (svN (TS.n t 17) (TS.A t (nat_lit 17)) (TS.M t (nat_lit 17)) (TS.W t (nat_lit 17))) []/\True/\rg (18)/\Con PG 87 [svN (TS.n t 18) (TS.A t (nat_lit 18)) (TS.M t (nat_lit 18)) (TS.W t (nat_lit 18))] [] (svN (TS.n t 18) (TS.A t (nat_lit 18)) (TS.M t (nat_lit 18)) (TS.W t (nat_lit 18))) []/\True/\rg (19)/\(tsV t)=V):=by kernel_rfl
theorem cc_con (e:Int) (n m:Nat) (f g:Nat->Int) (hn:n<=17592186044416) (hm:m<=17592186044416):Con PG 85 [.agg [.i .i64 e,isv n f,isv m g]] [] (.agg [.i .i64 e,isv n f,isv m g]) []:=
 con_pureX (cc_vc e n m f g _) rfl (by repeat' first | exact trivial | exact cl53_con _ _ hn | exact cl53_con _ _ hm | exact rfl | apply And.intro)
theorem cv_con (b:Mb) (h:b.mn<=17592186044416/\b.sn<=17592186044416/\b.hn<=5864062014805/\b.dn<=5864062014805):Con PG 86 [.agg (vwL b)] [] (.agg (vwL b)) []:=
 con_pureX (cv_vc b _) rfl (by repeat' first | exact trivial | exact cc_con _ _ _ _ _ h.1 h.2.1 | exact cl42_con _ _ _ _ h.2.2.1 | exact cl43_con _ _ _ _ h.2.2.2 | exact rfl | apply And.intro)
theorem cp_con (t:TS) (ok:t.ok):Con PG 40 [tsV t] [] (tsV t) []:=
 con_pureX (cp_vc t _) (tsV_below t) (by repeat' first | exact trivial | exact cc_con _ _ _ _ _ ok.m.1 ok.m.2 | exact cv_con _ (ok.s _) | exact cl42_con _ _ _ _ (ok.q _) | exact rfl | decide | apply And.intro)
theorem dd0_vq (t:TS) (h0:decide ((t.r.s 0).x 0=2)=false) (h1:decide ((t.r.s 1).x 0=2)=false) (h2:decide ((t.r.s 2).x 0=2)=false):VD PG 141 [.p 0 0] [some (tsO t)] (.inl (oc 2 (.f (.inl (oc 2 (.f (.inl (oc 2 (.f (.inl (.c .z))))))))))) .l0 [.keep] [] 4 (fun Lf=>True/\True/\decide ((t.r.s 0).x 0=2)=false/\rg (1)/\True/\decide ((t.r.s 1).x 0=2)=false/\rg (2)/\True/\decide ((t.r.s 2).x 0=2)=false/\rg (3)/\Lf):=by unfold VD VQ;kernel_rfl
theorem dd1_fq (t:TS) (h0:decide ((t.r.s 0).x 0=2)=true) (h1:decide ((t.r.s 1).x 0=2)=false) (h2:decide ((t.r.s 2).x 0=2)=false):VF PG 141 [.p 0 0]
 [some (tsO t)] (Orc.inl (oc 2 (Orc.t (Orc.inl (oc 2 (Orc.f (Orc.inl (oc 2 (Orc.f (Orc.inl (Orc.c Orc.z))))))))))) (.sv 3 1 (listF 3 [.i .i64 0,.i .i64 ((t.r.s 0).x 1+1),
 .i .i64 ((t.r.s 0).x 3)] 1)) [.keep] [3] [] (0+1*3<=3/\True) 6 (fun Lf=>True/\True/\decide (Mb.x (Rs.s (TS.r t) 0) 0=2)=true/\True/\rg (Mb.x (Rs.s (TS.r t) 0)
 1+1)/\True/\rg (1)/\True/\decide (Mb.x (Rs.s (TS.r t) 1) 0=2)=false/\rg (2)/\True/\decide (Mb.x (Rs.s (TS.r t) 2) 0=2)=false/\rg (3)/\Lf)
 :=by unfold VF;kernel_rfl
theorem dd2_fq (t:TS) (h0:decide ((t.r.s 0).x 0=2)=false) (h1:decide ((t.r.s 1).x 0=2)=true) (h2:decide ((t.r.s 2).x 0=2)=false):VF PG 141 [.p 0 0]
 [some (tsO t)] (Orc.inl (oc 2 (Orc.f (Orc.inl (oc 2 (Orc.t (Orc.inl (oc 2 (Orc.f (Orc.inl (Orc.c Orc.z))))))))))) (.sv 3 1 (listF 3 [.i .i64 1,.i .i64 ((t.r.s 1).x 1+1),
 .i .i64 ((t.r.s 1).x 3)] 1)) [.keep] [4] [] (0+1*3<=3/\True) 6 (fun Lf=>True/\True/\decide (Mb.x (Rs.s (TS.r t) 0) 0=2)=false/\rg (1)/\True/\decide (Mb.x
 (Rs.s (TS.r t) 1) 0=2)=true/\True/\rg (Mb.x (Rs.s (TS.r t) 1) 1+1)/\True/\rg (2)/\True/\decide (Mb.x (Rs.s (TS.r t) 2) 0=2)=false/\rg (3)/\Lf)
 :=by unfold VF;kernel_rfl
theorem dd3_fq (t:TS) (h0:decide ((t.r.s 0).x 0=2)=true) (h1:decide ((t.r.s 1).x 0=2)=true) (h2:decide ((t.r.s 2).x 0=2)=false):VF PG 141 [.p 0 0]
 [some (tsO t)] (Orc.inl (oc 2 (Orc.t (Orc.inl (oc 2 (Orc.t (Orc.inl (oc 2 (Orc.f (Orc.inl (Orc.c Orc.z))))))))))) (.sv 3 2 (listF 3 [.i .i64 0,.i .i64 ((t.r.s 0).x 1+1),
 .i .i64 ((t.r.s 0).x 3),.i .i64 1,.i .i64 ((t.r.s 1).x 1+1),.i .i64 ((t.r.s 1).x 3)] 2)) [.keep] [6] [] (0+2*3<=6/\True) 8 (fun Lf=>True/\True/\decide (Mb.x
 (Rs.s (TS.r t) 0) 0=2)=true/\True/\rg (Mb.x (Rs.s (TS.r t) 0) 1+1)/\True/\rg (1)/\True/\decide (Mb.x (Rs.s (TS.r t) 1) 0=2)=true/\True/\rg (Mb.x (Rs.s (TS.r
 t) 1) 1+1)/\True/\rg (2)/\True/\decide (Mb.x (Rs.s (TS.r t) 2) 0=2)=false/\rg (3)/\Lf):=by unfold VF;kernel_rfl
theorem dd4_fq (t:TS) (h0:decide ((t.r.s 0).x 0=2)=false) (h1:decide ((t.r.s 1).x 0=2)=false) (h2:decide ((t.r.s 2).x 0=2)=true):VF PG 141 [.p 0 0]
 [some (tsO t)] (Orc.inl (oc 2 (Orc.f (Orc.inl (oc 2 (Orc.f (Orc.inl (oc 2 (Orc.t (Orc.inl (Orc.c Orc.z))))))))))) (.sv 3 1 (listF 3 [.i .i64 2,.i .i64 ((t.r.s 2).x 1+1),
 .i .i64 ((t.r.s 2).x 3)] 1)) [.keep] [5] [] (0+1*3<=3/\True) 6 (fun Lf=>True/\True/\decide (Mb.x (Rs.s (TS.r t) 0) 0=2)=false/\rg (1)/\True/\decide (Mb.x
 (Rs.s (TS.r t) 1) 0=2)=false/\rg (2)/\True/\decide (Mb.x (Rs.s (TS.r t) 2) 0=2)=true/\True/\rg (Mb.x (Rs.s (TS.r t) 2) 1+1)/\True/\rg (3)/\Lf)
 :=by unfold VF;kernel_rfl
theorem dd5_fq (t:TS) (h0:decide ((t.r.s 0).x 0=2)=true) (h1:decide ((t.r.s 1).x 0=2)=false) (h2:decide ((t.r.s 2).x 0=2)=true):VF PG 141 [.p 0 0]
 [some (tsO t)] (Orc.inl (oc 2 (Orc.t (Orc.inl (oc 2 (Orc.f (Orc.inl (oc 2 (Orc.t (Orc.inl (Orc.c Orc.z))))))))))) (.sv 3 2 (listF 3 [.i .i64 0,.i .i64 ((t.r.s 0).x 1+1),
 .i .i64 ((t.r.s 0).x 3),.i .i64 2,.i .i64 ((t.r.s 2).x 1+1),.i .i64 ((t.r.s 2).x 3)] 2)) [.keep] [7] [] (0+2*3<=6/\True) 8 (fun Lf=>True/\True/\decide (Mb.x
 (Rs.s (TS.r t) 0) 0=2)=true/\True/\rg (Mb.x (Rs.s (TS.r t) 0) 1+1)/\True/\rg (1)/\True/\decide (Mb.x (Rs.s (TS.r t) 1) 0=2)=false/\rg (2)/\True/\decide
 (Mb.x (Rs.s (TS.r t) 2) 0=2)=true/\True/\rg (Mb.x (Rs.s (TS.r t) 2) 1+1)/\True/\rg (3)/\Lf):=by unfold VF;kernel_rfl
theorem dd6_fq (t:TS) (h0:decide ((t.r.s 0).x 0=2)=false) (h1:decide ((t.r.s 1).x 0=2)=true) (h2:decide ((t.r.s 2).x 0=2)=true):VF PG 141 [.p 0 0]
 [some (tsO t)] (Orc.inl (oc 2 (Orc.f (Orc.inl (oc 2 (Orc.t (Orc.inl (oc 2 (Orc.t (Orc.inl (Orc.c Orc.z))))))))))) (.sv 3 2 (listF 3 [.i .i64 1,.i .i64 ((t.r.s 1).x 1+1),
 .i .i64 ((t.r.s 1).x 3),.i .i64 2,.i .i64 ((t.r.s 2).x 1+1),.i .i64 ((t.r.s 2).x 3)] 2)) [.keep] [7] [] (0+2*3<=6/\True) 8 (fun Lf=>True/\True/\decide (Mb.x
 (Rs.s (TS.r t) 0) 0=2)=false/\rg (1)/\True/\decide (Mb.x (Rs.s (TS.r t) 1) 0=2)=true/\True/\rg (Mb.x (Rs.s (TS.r t) 1) 1+1)/\True/\rg (2)/\True/\decide
 (Mb.x (Rs.s (TS.r t) 2) 0=2)=true/\True/\rg (Mb.x (Rs.s (TS.r t) 2) 1+1)/\True/\rg (3)/\Lf):=by unfold VF;kernel_rfl
theorem dd7_fq (t:TS) (h0:decide ((t.r.s 0).x 0=2)=true) (h1:decide ((t.r.s 1).x 0=2)=true) (h2:decide ((t.r.s 2).x 0=2)=true):VF PG 141 [.p 0 0]
 [some (tsO t)] (Orc.inl (oc 2 (Orc.t (Orc.inl (oc 2 (Orc.t (Orc.inl (oc 2 (Orc.t (Orc.inl (Orc.c Orc.z))))))))))) (.sv 3 3 (listF 3 [.i .i64 0,.i .i64 ((t.r.s 0).x 1+1),
 .i .i64 ((t.r.s 0).x 3),.i .i64 1,.i .i64 ((t.r.s 1).x 1+1),.i .i64 ((t.r.s 1).x 3),.i .i64 2,.i .i64 ((t.r.s 2).x 1+1),.i .i64 ((t.r.s 2).x 3)] 3)) [.keep] [9] []
 (0+3*3<=9/\True) 10 (fun Lf=>True/\True/\decide (Mb.x (Rs.s (TS.r t) 0) 0=2)=true/\True/\rg (Mb.x (Rs.s (TS.r t) 0) 1+1)/\True/\rg (1)/\True/\decide
 (Mb.x (Rs.s (TS.r t) 1) 0=2)=true/\True/\rg (Mb.x (Rs.s (TS.r t) 1) 1+1)/\True/\rg (2)/\True/\decide (Mb.x (Rs.s (TS.r t) 2) 0=2)=true/\True/\rg (Mb.x (Rs.s
 (TS.r t) 2) 1+1)/\True/\rg (3)/\Lf):=by unfold VF;kernel_rfl
theorem dd_con (t:TS) (hg:∀i,i<3→-1<=(t.r.s i).x 1/\(t.r.s i).x 1<=1099511627776):Con PG 141 [.p 0 0] [some (tsO t)] (svQ (ddL t.r)) [.keep]:=by
 have r:∀i,i<3->(-9223372036854775808:Int)<=(t.r.s i).x 1+1/\(t.r.s i).x 1+1<=(9223372036854775807:Int):=fun i hi=>by have:=hg i hi;omega
 have three:∀{P:Nat->Prop},P 0->P 1->P 2->∀j,j<3->P j:=fun a b c j h=>match j,h with | 0,_=>a | 1,_=>b | 2,_=>c
 unfold ddL ddR
 cases h0:decide ((t.r.s 0).x 0=2) with
 | false=>
   cases h1:decide ((t.r.s 1).x 0=2) with
   | false=>
     cases h2:decide ((t.r.s 2).x 0=2) with
     | false=>
       show Con PG 141 [.p 0 0] [some (tsO t)] (svQ []) [.keep]
       exact (con_d (dd0_vq t h0 h1 h2) (by repeat' first | exact trivial | assumption | exact r _ (by decide) | decide | exact rfl | apply And.intro)).post (VW.nil _ _) (OVL.refl _)
     | true=>
       show Con PG 141 [.p 0 0] [some (tsO t)] (svQ [⟨ofNat 2,(t.r.s 2).x 1+1,(t.r.s 2).x 3⟩]) [.keep]
       refine (con_f (dd4_fq t h0 h1 h2) ⟨by decide,trivial⟩ (by repeat' first | exact trivial | assumption | exact r _ (by decide) | decide | exact rfl | apply And.intro)).post (VW.sv fun i j hi hj=>?_) (OVL.refl _)
       obtain rfl:i=0:=by omega
       revert j
       exact three (by kernel_rfl) (by kernel_rfl) (by kernel_rfl)
   | true=>
     cases h2:decide ((t.r.s 2).x 0=2) with
     | false=>
       show Con PG 141 [.p 0 0] [some (tsO t)] (svQ [⟨ofNat 1,(t.r.s 1).x 1+1,(t.r.s 1).x 3⟩]) [.keep]
       refine (con_f (dd2_fq t h0 h1 h2) ⟨by decide,trivial⟩ (by repeat' first | exact trivial | assumption | exact r _ (by decide) | decide | exact rfl | apply And.intro)).post (VW.sv fun i j hi hj=>?_) (OVL.refl _)
       obtain rfl:i=0:=by omega
       revert j
       exact three (by kernel_rfl) (by kernel_rfl) (by kernel_rfl)
     | true=>
       show Con PG 141 [.p 0 0] [some (tsO t)] (svQ [⟨ofNat 1,(t.r.s 1).x 1+1,(t.r.s 1).x 3⟩,⟨ofNat 2,(t.r.s 2).x 1+1,(t.r.s 2).x 3⟩]) [.keep]
       refine (con_f (dd6_fq t h0 h1 h2) ⟨by decide,trivial⟩ (by repeat' first | exact trivial | assumption | exact r _ (by decide) | decide | exact rfl | apply And.intro)).post (VW.sv fun i j hi hj=>?_) (OVL.refl _)
       revert j
       rcases (show i=0\/i=1 by omega) with rfl | rfl<;>exact three (by kernel_rfl) (by kernel_rfl) (by kernel_rfl)
 | true=>
   cases h1:decide ((t.r.s 1).x 0=2) with
   | false=>
     cases h2:decide ((t.r.s 2).x 0=2) with
     | false=>
       show Con PG 141 [.p 0 0] [some (tsO t)] (svQ [⟨ofNat 0,(t.r.s 0).x 1+1,(t.r.s 0).x 3⟩]) [.keep]
       refine (con_f (dd1_fq t h0 h1 h2) ⟨by decide,trivial⟩ (by repeat' first | exact trivial | assumption | exact r _ (by decide) | decide | exact rfl | apply And.intro)).post (VW.sv fun i j hi hj=>?_) (OVL.refl _)
       obtain rfl:i=0:=by omega
       revert j
       exact three (by kernel_rfl) (by kernel_rfl) (by kernel_rfl)
     | true=>
       show Con PG 141 [.p 0 0] [some (tsO t)] (svQ [⟨ofNat 0,(t.r.s 0).x 1+1,(t.r.s 0).x 3⟩,⟨ofNat 2,(t.r.s 2).x 1+1,(t.r.s 2).x 3⟩]) [.keep]
       refine (con_f (dd5_fq t h0 h1 h2) ⟨by decide,trivial⟩ (by repeat' first | exact trivial | assumption | exact r _ (by decide) | decide | exact rfl | apply And.intro)).post (VW.sv fun i j hi hj=>?_) (OVL.refl _)
       revert j
       rcases (show i=0\/i=1 by omega) with rfl | rfl<;>exact three (by kernel_rfl) (by kernel_rfl) (by kernel_rfl)
   | true=>
     cases h2:decide ((t.r.s 2).x 0=2) with
     | false=>
       show Con PG 141 [.p 0 0] [some (tsO t)] (svQ [⟨ofNat 0,(t.r.s 0).x 1+1,(t.r.s 0).x 3⟩,⟨ofNat 1,(t.r.s 1).x 1+1,(t.r.s 1).x 3⟩]) [.keep]
       refine (con_f (dd3_fq t h0 h1 h2) ⟨by decide,trivial⟩ (by repeat' first | exact trivial | assumption | exact r _ (by decide) | decide | exact rfl | apply And.intro)).post (VW.sv fun i j hi hj=>?_) (OVL.refl _)
       revert j
       rcases (show i=0\/i=1 by omega) with rfl | rfl<;>exact three (by kernel_rfl) (by kernel_rfl) (by kernel_rfl)
     | true=>
       show Con PG 141 [.p 0 0] [some (tsO t)] (svQ [⟨ofNat 0,(t.r.s 0).x 1+1,(t.r.s 0).x 3⟩,⟨ofNat 1,(t.r.s 1).x 1+1,(t.r.s 1).x 3⟩,⟨ofNat 2,(t.r.s 2).x 1+1,(t.r.s 2).x 3⟩]) [.keep]
       refine (con_f (dd7_fq t h0 h1 h2) ⟨by decide,trivial⟩ (by repeat' first | exact trivial | assumption | exact r _ (by decide) | decide | exact rfl | apply And.intro)).post (VW.sv fun i j hi hj=>?_) (OVL.refl _)
       revert j
       rcases (show i=0\/i=1\/i=2 by omega) with rfl | rfl | rfl<;>exact three (by kernel_rfl) (by kernel_rfl) (by kernel_rfl)
theorem ps0a_lq (t:TS) (h1:decide ((t.r.s 0).x 0=1)=false):LD PG (loopAt PG 88 0) 49 1 [(0,.p 0 0),(22,.i .i64 0)] [some (tsO t)] (oc 2 (of_ 10 (.c .z))) .nrm [0] [(0,.p 0 0),(22,.i .i64 1)] [some (tsO t)] 1 (fun Lf=>True/\True/\r4 (decide ((t.r.s 0).x 0=1)=false) (r6 (decide ((t.r.s 0).x 0=1)=false) (rg (1)/\Lf))):=by unfold LD LQ;kernel_rfl
theorem ps0b_lq (t:TS) (h1:decide ((t.r.s 0).x 0=1)=true) (h2:decide ((t.r.s 0).x 2<t.r.x 1)=false):LD PG (loopAt PG 88 0) 49 1 [(0,.p 0 0),(22,.i .i64 0)] [some (tsO t)] (oc 2 (ot 10 (.f .z))) .nrm [0] [(0,.p 0 0),(22,.i .i64 1)] [some (tsO t)] 1 (fun Lf=>True/\True/\r3 (decide ((t.r.s 0).x 0=1)=true) (True/\r4 (decide ((t.r.s 0).x 0=1)=true) (True/\r3 (decide ((t.r.s 0).x 0=1)=true) (decide ((t.r.s 0).x 2<t.r.x 1)=false/\rg (1)/\Lf)))):=by unfold LD LQ;kernel_rfl
theorem ps0c_lq (t:TS) (h1:decide ((t.r.s 0).x 0=1)=true) (h2:decide ((t.r.s 0).x 2<t.r.x 1)=true):LD PG (loopAt PG 88 0) 49 1 [(0,.p 0 0),(22,.i .i64 0)] [some (tsO t)] (oc 2 (ot 11 (.inl .z))) .nrm [0] [(0,.p 0 0),(22,.i .i64 1)] [some (tsO (wR t (setS t.r 0 (deadM (t.r.s 0)))))] 1 (fun Lf=>True/\True/\r3 (decide ((t.r.s 0).x 0=1)=true) (True/\r4 (decide ((t.r.s 0).x 0=1)=true) (True/\r3 (decide ((t.r.s 0).x 0=1)=true) (decide ((t.r.s 0).x 2<t.r.x 1)=true/\True/\True/\rg (1)/\Lf)))):=by unfold LD LQ;kernel_rfl
theorem ps1a_lq (t:TS) (h1:decide ((t.r.s 1).x 0=1)=false):LD PG (loopAt PG 88 0) 49 1 [(0,.p 0 0),(22,.i .i64 1)] [some (tsO t)] (oc 2 (of_ 10 (.c .z))) .nrm [0] [(0,.p 0 0),(22,.i .i64 2)] [some (tsO t)] 1 (fun Lf=>True/\True/\r4 (decide ((t.r.s 1).x 0=1)=false) (r6 (decide ((t.r.s 1).x 0=1)=false) (rg (2)/\Lf))):=by unfold LD LQ;kernel_rfl
theorem ps1b_lq (t:TS) (h1:decide ((t.r.s 1).x 0=1)=true) (h2:decide ((t.r.s 1).x 2<t.r.x 1)=false):LD PG (loopAt PG 88 0) 49 1 [(0,.p 0 0),(22,.i .i64 1)] [some (tsO t)] (oc 2 (ot 10 (.f .z))) .nrm [0] [(0,.p 0 0),(22,.i .i64 2)] [some (tsO t)] 1 (fun Lf=>True/\True/\r3 (decide ((t.r.s 1).x 0=1)=true) (True/\r4 (decide ((t.r.s 1).x 0=1)=true) (True/\r3 (decide ((t.r.s 1).x 0=1)=true) (decide ((t.r.s 1).x 2<t.r.x 1)=false/\rg (2)/\Lf)))):=by unfold LD LQ;kernel_rfl
theorem ps1c_lq (t:TS) (h1:decide ((t.r.s 1).x 0=1)=true) (h2:decide ((t.r.s 1).x 2<t.r.x 1)=true):LD PG (loopAt PG 88 0) 49 1 [(0,.p 0 0),(22,.i .i64 1)] [some (tsO t)] (oc 2 (ot 11 (.inl .z))) .nrm [0] [(0,.p 0 0),(22,.i .i64 2)] [some (tsO (wR t (setS t.r 1 (deadM (t.r.s 1)))))] 1 (fun Lf=>True/\True/\r3 (decide ((t.r.s 1).x 0=1)=true) (True/\r4 (decide ((t.r.s 1).x 0=1)=true) (True/\r3 (decide ((t.r.s 1).x 0=1)=true) (decide ((t.r.s 1).x 2<t.r.x 1)=true/\True/\True/\rg (2)/\Lf)))):=by unfold LD LQ;kernel_rfl
theorem ps2a_lq (t:TS) (h1:decide ((t.r.s 2).x 0=1)=false):LD PG (loopAt PG 88 0) 49 1 [(0,.p 0 0),(22,.i .i64 2)] [some (tsO t)] (oc 2 (of_ 10 (.c .z))) .nrm [0] [(0,.p 0 0),(22,.i .i64 3)] [some (tsO t)] 1 (fun Lf=>True/\True/\r4 (decide ((t.r.s 2).x 0=1)=false) (r6 (decide ((t.r.s 2).x 0=1)=false) (rg (3)/\Lf))):=by unfold LD LQ;kernel_rfl
theorem ps2b_lq (t:TS) (h1:decide ((t.r.s 2).x 0=1)=true) (h2:decide ((t.r.s 2).x 2<t.r.x 1)=false):LD PG (loopAt PG 88 0) 49 1 [(0,.p 0 0),(22,.i .i64 2)] [some (tsO t)] (oc 2 (ot 10 (.f .z))) .nrm [0] [(0,.p 0 0),(22,.i .i64 3)] [some (tsO t)] 1 (fun Lf=>True/\True/\r3 (decide ((t.r.s 2).x 0=1)=true) (True/\r4 (decide ((t.r.s 2).x 0=1)=true) (True/\r3 (decide ((t.r.s 2).x 0=1)=true) (decide ((t.r.s 2).x 2<t.r.x 1)=false/\rg (3)/\Lf)))):=by unfold LD LQ;kernel_rfl
theorem ps2c_lq (t:TS) (h1:decide ((t.r.s 2).x 0=1)=true) (h2:decide ((t.r.s 2).x 2<t.r.x 1)=true):LD PG (loopAt PG 88 0) 49 1 [(0,.p 0 0),(22,.i .i64 2)] [some (tsO t)] (oc 2 (ot 11 (.inl .z))) .nrm [0] [(0,.p 0 0),(22,.i .i64 3)] [some (tsO (wR t (setS t.r 2 (deadM (t.r.s 2)))))] 1 (fun Lf=>True/\True/\r3 (decide ((t.r.s 2).x 0=1)=true) (True/\r4 (decide ((t.r.s 2).x 0=1)=true) (True/\r3 (decide ((t.r.s 2).x 0=1)=true) (decide ((t.r.s 2).x 2<t.r.x 1)=true/\True/\True/\rg (3)/\Lf)))):=by unfold LD LQ;kernel_rfl
theorem ps3_lq (t:TS):LD PG (loopAt PG 88 0) 49 1 [(0,.p 0 0),(22,.i .i64 3)] [some (tsO t)] (.c .z) (.exit 0) [0] [] [some (tsO t)] 1 (fun Lf=>Lf):=by unfold LD LQ;kernel_rfl
theorem ps_vq (t:TS) (d:Int) (t1:TS) (h1:decide (4503599627370496<t.r.x 1+d)=false):VD PG 88 [.p 0 0,.i .i64 d] [some (tsO t)] (.f (.lop [0] [0,22] 1 (.exit 0) [] [some (tsO t1)] .z)) (.i .i64 0) [.set (tsO t1)] [] 1 (fun Lf=>True/\rg (t.r.x 1+d)/\decide (4503599627370496<t.r.x 1+d)=false/\True/\rg (t.r.x 1+d)/\True/\LDoes PG (loopAt PG 88 0) 49 1 (mkT [(0,.p 0 0),(22,.i .i64 0)]) [some (tsO (tkT t d))] (.exit 0) (mkT []) [some (tsO t1)]/\Lf):=by unfold VD VQ;kernel_rfl
theorem psE_vq (t:TS) (d:Int) (h1:decide (4503599627370496<t.r.x 1+d)=true):VD PG 88 [.p 0 0,.i .i64 d] [some (tsO t)] (.t .z) (.i .i64 18) [.keep] [] 1 (fun Lf=>True/\rg (t.r.x 1+d)/\decide (4503599627370496<t.r.x 1+d)=true/\Lf):=by unfold VD VQ;kernel_rfl
abbrev psT (t:TS) (i:Nat):TS:=wR t (psR t.r i)
theorem tsO_s (t:TS) (r:Rs) (s:Nat->Mb) (h0:r.s 0=s 0) (h1:r.s 1=s 1) (h2:r.s 2=s 2):tsO (wR t r)=tsO (wR t { r with s:=s}):=by
 unfold tsO tsD tsL wR
 simp only [h0,h1,h2]
theorem psN (t:TS) (i:Nat) (b:Mb) (hb:b=pasM (t.r.x 1) (t.r.s i)) (hi:i<3):tsO (wR (psT t i) (setS (psT t i).r i b))=tsO (psT t (i+1)):=by
 subst hb
 match i,hi with
 | 0,_=>exact tsO_s t _ _ rfl rfl rfl
 | 1,_=>exact tsO_s t _ _ rfl rfl rfl
 | 2,_=>exact tsO_s t _ _ rfl rfl rfl
theorem ps_same (t:TS) (i:Nat) (h:pasM (t.r.x 1) (t.r.s i)=t.r.s i) (hi:i<3):tsO (psT t i)=tsO (psT t (i+1)):=by
 rw [<-psN t i (t.r.s i) h.symm hi]
 match i,hi with
 | 0,_=>exact tsO_s t _ _ rfl rfl rfl
 | 1,_=>exact tsO_s t _ _ rfl rfl rfl
 | 2,_=>exact tsO_s t _ _ rfl rfl rfl
theorem pas_a (b:Mb) (T:Int) (h:decide (b.x 0=1)=false):pasM T b=b:=by unfold pasM diesB;rw [h];rfl
theorem pas_b (b:Mb) (T:Int) (h:decide (b.x 0=1)=true) (h2:decide (b.x 2<T)=false):pasM T b=b:=by unfold pasM diesB;rw [h,h2];rfl
theorem pas_c (b:Mb) (T:Int) (h:decide (b.x 0=1)=true) (h2:decide (b.x 2<T)=true):pasM T b=deadM b:=by unfold pasM diesB;rw [h,h2];rfl
theorem ovl1 {a b:AObj} (h:a=b):OVL [some a] [some b]:=h▸.refl _
theorem ps_lp (t:TS):LDoes PG (loopAt PG 88 0) 49 1 (mkT [(0,.p 0 0),(22,.i .i64 0)]) [some (tsO t)] (.exit 0) (mkT []) [some (tsO (psT t 3))]:=by
 have key:=loop_q (P:=PG) (c:=loopAt PG 88 0) (n:=49) (b:=1) (x:=.exit 0) (l':=[]) (objs':=[some (tsO (psT t 3))]) (D:=Nat) (fun i=>([(0,.p 0 0),(22,.i .i64 (ofNat i))],[some (tsO (psT t i))])) (fun i=>3-i) (fun i=>i<=3) (fun _=>Nat.le_refl _) (fun i hi=>?_) 0 (Nat.zero_le _)
 · exact key
 match i,hi with
 | 3,_=>exact rd_out (ps3_lq (psT t 3)) (by repeat' first | exact trivial | decide | exact rfl | apply And.intro) rfl rfl (.refl _) (.refl _)
 | 0,_=>
   cases h1:decide ((t.r.s 0).x 0=1) with
   | false=>exact rd_nrm (ps0a_lq (psT t 0) h1) (by repeat' first | exact trivial | assumption | decide | exact rfl | apply And.intro) 1 (by decide) (by decide) rfl (.refl _) (ovl1 (ps_same t 0 (pas_a _ _ h1) (by decide)))
   | true=>
     cases h2:decide ((t.r.s 0).x 2<t.r.x 1) with
     | false=>exact rd_nrm (ps0b_lq (psT t 0) h1 h2) (by repeat' first | exact trivial | assumption | decide | exact rfl | apply And.intro) 1 (by decide) (by decide) rfl (.refl _) (ovl1 (ps_same t 0 (pas_b _ _ h1 h2) (by decide)))
     | true=>exact rd_nrm (ps0c_lq (psT t 0) h1 h2) (by repeat' first | exact trivial | assumption | decide | exact rfl | apply And.intro) 1 (by decide) (by decide) rfl (.refl _) (ovl1 (psN t 0 _ (pas_c _ _ h1 h2).symm (by decide)))
 | 1,_=>
   cases h1:decide ((t.r.s 1).x 0=1) with
   | false=>exact rd_nrm (ps1a_lq (psT t 1) h1) (by repeat' first | exact trivial | assumption | decide | exact rfl | apply And.intro) 2 (by decide) (by decide) rfl (.refl _) (ovl1 (ps_same t 1 (pas_a _ _ h1) (by decide)))
   | true=>
     cases h2:decide ((t.r.s 1).x 2<t.r.x 1) with
     | false=>exact rd_nrm (ps1b_lq (psT t 1) h1 h2) (by repeat' first | exact trivial | assumption | decide | exact rfl | apply And.intro) 2 (by decide) (by decide) rfl (.refl _) (ovl1 (ps_same t 1 (pas_b _ _ h1 h2) (by decide)))
     | true=>exact rd_nrm (ps1c_lq (psT t 1) h1 h2) (by repeat' first | exact trivial | assumption | decide | exact rfl | apply And.intro) 2 (by decide) (by decide) rfl (.refl _) (ovl1 (psN t 1 _ (pas_c _ _ h1 h2).symm (by decide)))
 | 2,_=>
   cases h1:decide ((t.r.s 2).x 0=1) with
   | false=>exact rd_nrm (ps2a_lq (psT t 2) h1) (by repeat' first | exact trivial | assumption | decide | exact rfl | apply And.intro) 3 (by decide) (by decide) rfl (.refl _) (ovl1 (ps_same t 2 (pas_a _ _ h1) (by decide)))
   | true=>
     cases h2:decide ((t.r.s 2).x 2<t.r.x 1) with
     | false=>exact rd_nrm (ps2b_lq (psT t 2) h1 h2) (by repeat' first | exact trivial | assumption | decide | exact rfl | apply And.intro) 3 (by decide) (by decide) rfl (.refl _) (ovl1 (ps_same t 2 (pas_b _ _ h1 h2) (by decide)))
     | true=>exact rd_nrm (ps2c_lq (psT t 2) h1 h2) (by repeat' first | exact trivial | assumption | decide | exact rfl | apply And.intro) 3 (by decide) (by decide) rfl (.refl _) (ovl1 (psN t 2 _ (pas_c _ _ h1 h2).symm (by decide)))
def passT (t:TS) (d:Int):TS:=psT (tkT t d) 3
def pasE (t:TS) (d:Int):Int:=bif decide (4503599627370496<t.r.x 1+d) then 18 else 0
def pasS (t:TS) (d:Int):TS:=bif decide (4503599627370496<t.r.x 1+d) then t else passT t d
theorem pass_con (t:TS) (d:Int) (h:rg (t.r.x 1+d)):Con PG 88 [.p 0 0,.i .i64 d] [some (tsO t)] (.i .i64 (pasE t d)) [.set (tsO (pasS t d))]:=by
 unfold pasE pasS
 cases h1:decide (4503599627370496<t.r.x 1+d) with
 | true=>exact (con_d (psE_vq t d h1) (by repeat' first | exact trivial | assumption | exact h.1 | exact h.2 | exact rfl | apply And.intro)).post (.refl _) (.refl _)
 | false=>exact con_d (ps_vq t d (passT t d) h1) (by repeat' first | exact trivial | exact ps_lp _ | assumption | exact h.1 | exact h.2 | exact rfl | apply And.intro)
theorem stl_vc (c:Cm) (b:Mb) (V:AV):runK PG 1000000 (.call 89 [.agg (mbL b),cmV c] (mkH [])) (.s (.s (ot 6 .z) (of_ 6 .z)) (.s (.t (.t (.f .z))) (.f (.f (.t .z))))) (fun r _=>rvIs V r)=((fun (q1:Bool)=>((fun (q0:Bool)=>(True/\True/\(decide (Cm.bt c=Mb.x b 4)=true->True/\True/\(q0=true->True/\q0=true/\q0=true/\True/\q0=true/\q0=true/\rg (Mb.x b 5+1)/\q0=true/\q0=true/\(.b !decide (Cm.sq c=Mb.x b 5+1))=V)/\(q0=false->q0=false/\q0=false/\q0=false/\q0=false/\q0=false/\q0=false/\(.b false)=V))/\(decide (Cm.bt c=Mb.x b 4)=false->True/\True/\(q1=true->True/\q1=true/\q1=true/\decide (Cm.bt c<Mb.x b 4)=false/\(.b !decide (Cm.sq c=1))=V)/\(q1=false->q1=false/\q1=false/\decide (Cm.bt c<Mb.x b 4)=true/\(.b true)=V)))) (!decide (Cm.sq c=Mb.x b 5)))) (!decide (Cm.bt c<Mb.x b 4))):=by kernel_rfl
theorem al0F_vq (t:TS) (c:Cm) (k j:Int) (h1:decide ((t.r.s 0).x 0=1)=false):VD PG 174 [.p 0 0,cmI c k 0 j] [some (tsO t)] (.c (of_ 8 .z)) (.b false) [.keep] [] 2 (fun Lf=>True/\True/\True/\r2 (decide ((t.r.s 0).x 0=1)=false) (r6 (decide ((t.r.s 0).x 0=1)=false) (Lf))):=by unfold VD VQ;kernel_rfl
theorem al0T_vq (t:TS) (c:Cm) (k j:Int) (h1:decide ((t.r.s 0).x 0=1)=true):VD PG 174 [.p 0 0,cmI c k 0 j] [some (tsO t)] (.c (ot 8 .z)) (.b (decide ((t.r.s 0).x 1=c.gn))) [.keep] [] 2 (fun Lf=>True/\True/\True/\r3 (decide ((t.r.s 0).x 0=1)=true) (True/\r2 (decide ((t.r.s 0).x 0=1)=true) (True/\r3 (decide ((t.r.s 0).x 0=1)=true) (Lf)))):=by unfold VD VQ;kernel_rfl
theorem mn0A_vq (t:TS) (c:Cm) (k j:Int) (h1:decide ((t.r.s 0).x 0=1)=true):VD PG 132 [.p 0 0,cmI c k 0 j] [some (tsO t)] (.c (.t (.inl (.c .z)))) (.i .i64 27) [.set (tsO (wR t (setS t.r 0 (deadM (t.r.s 0)))))] [] 2 (fun Lf=>True/\True/\True/\decide ((t.r.s 0).x 0=1)=true/\True/\True/\True/\Lf):=by unfold VD VQ;kernel_rfl
theorem mn0B_vq (t:TS) (c:Cm) (k j:Int) (h1:decide ((t.r.s 0).x 0=1)=false) (h2:decide ((t.r.s 0).x 0=2)=true):VD PG 132 [.p 0 0,cmI c k 0 j] [some (tsO t)] (.c (.f (.t .z))) (.i .i64 27) [.keep] [] 2 (fun Lf=>True/\True/\True/\decide ((t.r.s 0).x 0=1)=false/\True/\decide ((t.r.s 0).x 0=2)=true/\Lf):=by unfold VD VQ;kernel_rfl
theorem mn0C_vq (t:TS) (c:Cm) (k j:Int) (h1:decide ((t.r.s 0).x 0=1)=false) (h2:decide ((t.r.s 0).x 0=2)=false) (h3:decide ((t.r.s 0).x 1=1099511627776)=true):VD PG 132 [.p 0 0,cmI c k 0 j] [some (tsO t)] (.c (.f (.f (.t .z)))) (.i .i64 15) [.keep] [] 2 (fun Lf=>True/\True/\True/\decide ((t.r.s 0).x 0=1)=false/\True/\decide ((t.r.s 0).x 0=2)=false/\True/\decide ((t.r.s 0).x 1=1099511627776)=true/\Lf):=by unfold VD VQ;kernel_rfl
theorem mn0D_vq (t:TS) (c:Cm) (k j:Int) (h1:decide ((t.r.s 0).x 0=1)=false) (h2:decide ((t.r.s 0).x 0=2)=false) (h3:decide ((t.r.s 0).x 1=1099511627776)=false):VD PG 132 [.p 0 0,cmI c k 0 j] [some (tsO t)] (.c (of_ 3 .z)) (.i .i64 0) [.set (tsO (wR t (setS t.r 0 (mntM (t.r.s 0) (t.r.x 1)))))] [] 2 (fun Lf=>True/\True/\True/\decide ((t.r.s 0).x 0=1)=false/\True/\decide ((t.r.s 0).x 0=2)=false/\True/\decide ((t.r.s 0).x 1=1099511627776)=false/\True/\True/\rg ((t.r.s 0).x 1+1)/\True/\True/\rg (t.r.x 1+60)/\True/\True/\Lf):=by unfold VD VQ;kernel_rfl
theorem rn0_vq (t:TS) (c:Cm) (k j:Int):VD PG 134 [.p 0 0,cmI c k 0 j] [some (tsO t)] (.c .z) (.i .i64 0) [.set (tsO (wR t (setS t.r 0 (xM (t.r.s 0) 2 (t.r.x 1+60)))))] [] 2 (fun Lf=>True/\True/\rg (t.r.x 1+60)/\True/\True/\Lf):=by unfold VD VQ;kernel_rfl
theorem al1F_vq (t:TS) (c:Cm) (k j:Int) (h1:decide ((t.r.s 1).x 0=1)=false):VD PG 174 [.p 0 0,cmI c k 1 j] [some (tsO t)] (.c (of_ 8 .z)) (.b false) [.keep] [] 2 (fun Lf=>True/\True/\True/\r2 (decide ((t.r.s 1).x 0=1)=false) (r6 (decide ((t.r.s 1).x 0=1)=false) (Lf))):=by unfold VD VQ;kernel_rfl
theorem al1T_vq (t:TS) (c:Cm) (k j:Int) (h1:decide ((t.r.s 1).x 0=1)=true):VD PG 174 [.p 0 0,cmI c k 1 j] [some (tsO t)] (.c (ot 8 .z)) (.b (decide ((t.r.s 1).x 1=c.gn))) [.keep] [] 2 (fun Lf=>True/\True/\True/\r3 (decide ((t.r.s 1).x 0=1)=true) (True/\r2 (decide ((t.r.s 1).x 0=1)=true) (True/\r3 (decide ((t.r.s 1).x 0=1)=true) (Lf)))):=by unfold VD VQ;kernel_rfl
theorem mn1A_vq (t:TS) (c:Cm) (k j:Int) (h1:decide ((t.r.s 1).x 0=1)=true):VD PG 132 [.p 0 0,cmI c k 1 j] [some (tsO t)] (.c (.t (.inl (.c .z)))) (.i .i64 27) [.set (tsO (wR t (setS t.r 1 (deadM (t.r.s 1)))))] [] 2 (fun Lf=>True/\True/\True/\decide ((t.r.s 1).x 0=1)=true/\True/\True/\True/\Lf):=by unfold VD VQ;kernel_rfl
theorem mn1B_vq (t:TS) (c:Cm) (k j:Int) (h1:decide ((t.r.s 1).x 0=1)=false) (h2:decide ((t.r.s 1).x 0=2)=true):VD PG 132 [.p 0 0,cmI c k 1 j] [some (tsO t)] (.c (.f (.t .z))) (.i .i64 27) [.keep] [] 2 (fun Lf=>True/\True/\True/\decide ((t.r.s 1).x 0=1)=false/\True/\decide ((t.r.s 1).x 0=2)=true/\Lf):=by unfold VD VQ;kernel_rfl
theorem mn1C_vq (t:TS) (c:Cm) (k j:Int) (h1:decide ((t.r.s 1).x 0=1)=false) (h2:decide ((t.r.s 1).x 0=2)=false) (h3:decide ((t.r.s 1).x 1=1099511627776)=true):VD PG 132 [.p 0 0,cmI c k 1 j] [some (tsO t)] (.c (.f (.f (.t .z)))) (.i .i64 15) [.keep] [] 2 (fun Lf=>True/\True/\True/\decide ((t.r.s 1).x 0=1)=false/\True/\decide ((t.r.s 1).x 0=2)=false/\True/\decide ((t.r.s 1).x 1=1099511627776)=true/\Lf):=by unfold VD VQ;kernel_rfl
theorem mn1D_vq (t:TS) (c:Cm) (k j:Int) (h1:decide ((t.r.s 1).x 0=1)=false) (h2:decide ((t.r.s 1).x 0=2)=false) (h3:decide ((t.r.s 1).x 1=1099511627776)=false):VD PG 132 [.p 0 0,cmI c k 1 j] [some (tsO t)] (.c (of_ 3 .z)) (.i .i64 0) [.set (tsO (wR t (setS t.r 1 (mntM (t.r.s 1) (t.r.x 1)))))] [] 2 (fun Lf=>True/\True/\True/\decide ((t.r.s 1).x 0=1)=false/\True/\decide ((t.r.s 1).x 0=2)=false/\True/\decide ((t.r.s 1).x 1=1099511627776)=false/\True/\True/\rg ((t.r.s 1).x 1+1)/\True/\True/\rg (t.r.x 1+60)/\True/\True/\Lf):=by unfold VD VQ;kernel_rfl
theorem rn1_vq (t:TS) (c:Cm) (k j:Int):VD PG 134 [.p 0 0,cmI c k 1 j] [some (tsO t)] (.c .z) (.i .i64 0) [.set (tsO (wR t (setS t.r 1 (xM (t.r.s 1) 2 (t.r.x 1+60)))))] [] 2 (fun Lf=>True/\True/\rg (t.r.x 1+60)/\True/\True/\Lf):=by unfold VD VQ;kernel_rfl
theorem al2F_vq (t:TS) (c:Cm) (k j:Int) (h1:decide ((t.r.s 2).x 0=1)=false):VD PG 174 [.p 0 0,cmI c k 2 j] [some (tsO t)] (.c (of_ 8 .z)) (.b false) [.keep] [] 2 (fun Lf=>True/\True/\True/\r2 (decide ((t.r.s 2).x 0=1)=false) (r6 (decide ((t.r.s 2).x 0=1)=false) (Lf))):=by unfold VD VQ;kernel_rfl
theorem al2T_vq (t:TS) (c:Cm) (k j:Int) (h1:decide ((t.r.s 2).x 0=1)=true):VD PG 174 [.p 0 0,cmI c k 2 j] [some (tsO t)] (.c (ot 8 .z)) (.b (decide ((t.r.s 2).x 1=c.gn))) [.keep] [] 2 (fun Lf=>True/\True/\True/\r3 (decide ((t.r.s 2).x 0=1)=true) (True/\r2 (decide ((t.r.s 2).x 0=1)=true) (True/\r3 (decide ((t.r.s 2).x 0=1)=true) (Lf)))):=by unfold VD VQ;kernel_rfl
theorem mn2A_vq (t:TS) (c:Cm) (k j:Int) (h1:decide ((t.r.s 2).x 0=1)=true):VD PG 132 [.p 0 0,cmI c k 2 j] [some (tsO t)] (.c (.t (.inl (.c .z)))) (.i .i64 27) [.set (tsO (wR t (setS t.r 2 (deadM (t.r.s 2)))))] [] 2 (fun Lf=>True/\True/\True/\decide ((t.r.s 2).x 0=1)=true/\True/\True/\True/\Lf):=by unfold VD VQ;kernel_rfl
theorem mn2B_vq (t:TS) (c:Cm) (k j:Int) (h1:decide ((t.r.s 2).x 0=1)=false) (h2:decide ((t.r.s 2).x 0=2)=true):VD PG 132 [.p 0 0,cmI c k 2 j] [some (tsO t)] (.c (.f (.t .z))) (.i .i64 27) [.keep] [] 2 (fun Lf=>True/\True/\True/\decide ((t.r.s 2).x 0=1)=false/\True/\decide ((t.r.s 2).x 0=2)=true/\Lf):=by unfold VD VQ;kernel_rfl
theorem mn2C_vq (t:TS) (c:Cm) (k j:Int) (h1:decide ((t.r.s 2).x 0=1)=false) (h2:decide ((t.r.s 2).x 0=2)=false) (h3:decide ((t.r.s 2).x 1=1099511627776)=true):VD PG 132 [.p 0 0,cmI c k 2 j] [some (tsO t)] (.c (.f (.f (.t .z)))) (.i .i64 15) [.keep] [] 2 (fun Lf=>True/\True/\True/\decide ((t.r.s 2).x 0=1)=false/\True/\decide ((t.r.s 2).x 0=2)=false/\True/\decide ((t.r.s 2).x 1=1099511627776)=true/\Lf):=by unfold VD VQ;kernel_rfl
theorem mn2D_vq (t:TS) (c:Cm) (k j:Int) (h1:decide ((t.r.s 2).x 0=1)=false) (h2:decide ((t.r.s 2).x 0=2)=false) (h3:decide ((t.r.s 2).x 1=1099511627776)=false):VD PG 132 [.p 0 0,cmI c k 2 j] [some (tsO t)] (.c (of_ 3 .z)) (.i .i64 0) [.set (tsO (wR t (setS t.r 2 (mntM (t.r.s 2) (t.r.x 1)))))] [] 2 (fun Lf=>True/\True/\True/\decide ((t.r.s 2).x 0=1)=false/\True/\decide ((t.r.s 2).x 0=2)=false/\True/\decide ((t.r.s 2).x 1=1099511627776)=false/\True/\True/\rg ((t.r.s 2).x 1+1)/\True/\True/\rg (t.r.x 1+60)/\True/\True/\Lf):=by unfold VD VQ;kernel_rfl
theorem rn2_vq (t:TS) (c:Cm) (k j:Int):VD PG 134 [.p 0 0,cmI c k 2 j] [some (tsO t)] (.c .z) (.i .i64 0) [.set (tsO (wR t (setS t.r 2 (xM (t.r.s 2) 2 (t.r.x 1+60)))))] [] 2 (fun Lf=>True/\True/\rg (t.r.x 1+60)/\True/\True/\Lf):=by unfold VD VQ;kernel_rfl
theorem sta_con (b:Mb) (c:Cm) (hr:rg (b.x 5+1)):Con PG 89 [.agg (mbL b),cmV c] [] (.b (staB b c.bt c.sq)) []:=by
 refine con_pureX (stl_vc c b _) rfl ?_
 repeat' first | exact trivial | assumption | exact hr.1 | exact hr.2 | apply And.intro | intro _
 all_goals (simp_all [staB]<;>(intros;omega))
def sS (t:TS) (i:Nat) (b:Mb):TS:=wR t (setS t.r i b)
theorem alv_con (t:TS) (c:Cm) (k j:Int):∀(i:Nat) (_:i<3),Con PG 174 [.p 0 0,cmI c k (ofNat i) j] [some (tsO t)] (.b (alB (t.r.s i) c.gn)) [.keep]
 | 0,_=>by
   unfold alB
   cases h1:decide ((t.r.s 0).x 0=1) with
   | false=>exact con_d (al0F_vq t c k j h1) (by repeat' first | exact trivial | assumption | exact hr | exact hr.1 | exact hr.2 | exact hr2 | exact rfl | (simp only [*];rfl) | decide | apply And.intro)
   | true=>exact con_d (al0T_vq t c k j h1) (by repeat' first | exact trivial | assumption | exact hr | exact hr.1 | exact hr.2 | exact hr2 | exact rfl | (simp only [*];rfl) | decide | apply And.intro)
 | 1,_=>by
   unfold alB
   cases h1:decide ((t.r.s 1).x 0=1) with
   | false=>exact con_d (al1F_vq t c k j h1) (by repeat' first | exact trivial | assumption | exact hr | exact hr.1 | exact hr.2 | exact hr2 | exact rfl | (simp only [*];rfl) | decide | apply And.intro)
   | true=>exact con_d (al1T_vq t c k j h1) (by repeat' first | exact trivial | assumption | exact hr | exact hr.1 | exact hr.2 | exact hr2 | exact rfl | (simp only [*];rfl) | decide | apply And.intro)
 | 2,_=>by
   unfold alB
   cases h1:decide ((t.r.s 2).x 0=1) with
   | false=>exact con_d (al2F_vq t c k j h1) (by repeat' first | exact trivial | assumption | exact hr | exact hr.1 | exact hr.2 | exact hr2 | exact rfl | (simp only [*];rfl) | decide | apply And.intro)
   | true=>exact con_d (al2T_vq t c k j h1) (by repeat' first | exact trivial | assumption | exact hr | exact hr.1 | exact hr.2 | exact hr2 | exact rfl | (simp only [*];rfl) | decide | apply And.intro)
def mntB (b:Mb) (T:Int):Mb:=bif decide (b.x 0=1) then deadM b else bif decide (b.x 0=2) then b else bif decide (b.x 1=1099511627776) then b else mntM b T
def mntE (b:Mb):Int:=bif decide (b.x 0=1) then 27 else bif decide (b.x 0=2) then 27 else bif decide (b.x 1=1099511627776) then 15 else 0
theorem keepS (t:TS):∀(i:Nat) (_:i<3),tsO t=tsO (sS t i (t.r.s i))
 | 0,_=>tsO_s t t.r _ rfl rfl rfl
 | 1,_=>tsO_s t t.r _ rfl rfl rfl
 | 2,_=>tsO_s t t.r _ rfl rfl rfl
theorem mnt_con (t:TS) (c:Cm) (k j:Int) (i:Nat) (hi:i<3) (hr:rg ((t.r.s i).x 1+1)) (hr2:rg (t.r.x 1+60)):Con PG 132 [.p 0 0,cmI c k (ofNat i) j] [some (tsO t)] (.i .i64 (mntE (t.r.s i))) [.set (tsO (sS t i (mntB (t.r.s i) (t.r.x 1))))]:=by
 unfold mntB mntE
 cases h1:decide ((t.r.s i).x 0=1) with
 | true=>
   match i,hi,h1 with
   | 0,_,h1=>exact con_d (mn0A_vq t c k j h1) (by repeat' first | exact trivial | assumption | exact hr | exact hr.1 | exact hr.2 | exact hr2 | exact rfl | (simp only [*];rfl) | decide | apply And.intro)
   | 1,_,h1=>exact con_d (mn1A_vq t c k j h1) (by repeat' first | exact trivial | assumption | exact hr | exact hr.1 | exact hr.2 | exact hr2 | exact rfl | (simp only [*];rfl) | decide | apply And.intro)
   | 2,_,h1=>exact con_d (mn2A_vq t c k j h1) (by repeat' first | exact trivial | assumption | exact hr | exact hr.1 | exact hr.2 | exact hr2 | exact rfl | (simp only [*];rfl) | decide | apply And.intro)
 | false=>
   cases h2:decide ((t.r.s i).x 0=2) with
   | true=>
     refine Con.post (us:=[.keep]) (v:=.i .i64 27) ?_ (.refl _) (ovl1 (keepS t i hi))
     match i,hi,h1,h2 with
     | 0,_,h1,h2=>exact con_d (mn0B_vq t c k j h1 h2) (by repeat' first | exact trivial | assumption | exact hr | exact hr.1 | exact hr.2 | exact hr2 | exact rfl | (simp only [*];rfl) | decide | apply And.intro)
     | 1,_,h1,h2=>exact con_d (mn1B_vq t c k j h1 h2) (by repeat' first | exact trivial | assumption | exact hr | exact hr.1 | exact hr.2 | exact hr2 | exact rfl | (simp only [*];rfl) | decide | apply And.intro)
     | 2,_,h1,h2=>exact con_d (mn2B_vq t c k j h1 h2) (by repeat' first | exact trivial | assumption | exact hr | exact hr.1 | exact hr.2 | exact hr2 | exact rfl | (simp only [*];rfl) | decide | apply And.intro)
   | false=>
     cases h3:decide ((t.r.s i).x 1=1099511627776) with
     | true=>
       refine Con.post (us:=[.keep]) (v:=.i .i64 15) ?_ (.refl _) (ovl1 (keepS t i hi))
       match i,hi,h1,h2,h3 with
       | 0,_,h1,h2,h3=>exact con_d (mn0C_vq t c k j h1 h2 h3) (by repeat' first | exact trivial | assumption | exact hr | exact hr.1 | exact hr.2 | exact hr2 | exact rfl | (simp only [*];rfl) | decide | apply And.intro)
       | 1,_,h1,h2,h3=>exact con_d (mn1C_vq t c k j h1 h2 h3) (by repeat' first | exact trivial | assumption | exact hr | exact hr.1 | exact hr.2 | exact hr2 | exact rfl | (simp only [*];rfl) | decide | apply And.intro)
       | 2,_,h1,h2,h3=>exact con_d (mn2C_vq t c k j h1 h2 h3) (by repeat' first | exact trivial | assumption | exact hr | exact hr.1 | exact hr.2 | exact hr2 | exact rfl | (simp only [*];rfl) | decide | apply And.intro)
     | false=>
       match i,hi,h1,h2,h3,hr with
       | 0,_,h1,h2,h3,hr=>exact con_d (mn0D_vq t c k j h1 h2 h3) (by repeat' first | exact trivial | assumption | exact hr | exact hr.1 | exact hr.2 | exact hr2 | exact rfl | (simp only [*];rfl) | decide | apply And.intro)
       | 1,_,h1,h2,h3,hr=>exact con_d (mn1D_vq t c k j h1 h2 h3) (by repeat' first | exact trivial | assumption | exact hr | exact hr.1 | exact hr.2 | exact hr2 | exact rfl | (simp only [*];rfl) | decide | apply And.intro)
       | 2,_,h1,h2,h3,hr=>exact con_d (mn2D_vq t c k j h1 h2 h3) (by repeat' first | exact trivial | assumption | exact hr | exact hr.1 | exact hr.2 | exact hr2 | exact rfl | (simp only [*];rfl) | decide | apply And.intro)
theorem rnw_con (t:TS) (c:Cm) (k j:Int) (hr:rg (t.r.x 1+60)):∀(i:Nat) (_:i<3),Con PG 134 [.p 0 0,cmI c k (ofNat i) j] [some (tsO t)] (.i .i64 0) [.set (tsO (sS t i (xM (t.r.s i) 2 (t.r.x 1+60))))]
 | 0,_=>con_d (rn0_vq t c k j) (by repeat' first | exact trivial | assumption | exact hr | exact hr.1 | exact hr.2 | exact hr2 | exact rfl | (simp only [*];rfl) | decide | apply And.intro)
 | 1,_=>con_d (rn1_vq t c k j) (by repeat' first | exact trivial | assumption | exact hr | exact hr.1 | exact hr.2 | exact hr2 | exact rfl | (simp only [*];rfl) | decide | apply And.intro)
 | 2,_=>con_d (rn2_vq t c k j) (by repeat' first | exact trivial | assumption | exact hr | exact hr.1 | exact hr.2 | exact hr2 | exact rfl | (simp only [*];rfl) | decide | apply And.intro)
end Go.Proofs.Sv
