/- Runs over unknown values, told by the kernel: part GB. -/
import Derived.Test.YtjhcbjncdbmhoaaGA
set_option linter.unusedSimpArgs false
set_option linter.unusedVariables false
set_option maxRecDepth 20000
namespace Go.Proofs.Ly
open Go Go.Sim Go.Proofs Go.Proofs.Cl Go.Proofs.Ytjhcbjncdbmhoaa
def alB (p:Nat->Bool):Nat->Bool
 | 0=>true
 | n+1=>alB p n && p n
theorem alB_t {p:Nat->Bool}:∀{n:Nat},alB p n=true->∀i,i<n->p i=true
 | 0,_,i,hi=>absurd hi (Nat.not_lt_zero i)
 | n+1,h,i,hi=>by
   have h:(alB p n && p n)=true:=h
   rw [Bool.and_eq_true] at h
   rcases Nat.lt_or_ge i n with q | q
   · exact alB_t h.1 i q
   · obtain rfl:i=n:=by omega
     exact h.2
theorem alB_f {p:Nat->Bool}:∀{n:Nat},alB p n=false->∃j,j<n/\p j=false/\∀i,i<j->p i=true
 | 0,h=>by cases h
 | n+1,h=>by
   have h:(alB p n && p n)=false:=h
   cases e:alB p n with
   | false=>
     obtain ⟨j,a,b,c⟩:=alB_f e
     exact ⟨j,by omega,b,c⟩
   | true=>
     rw [e,Bool.true_and] at h
     exact ⟨n,by omega,h,alB_t e⟩
theorem alB_i {p:Nat->Bool}:∀{n:Nat},(∀i,i<n->p i=true)->alB p n=true
 | 0,_=>rfl
 | n+1,h=>by
   show (alB p n && p n)=true
   rw [alB_i fun i hi=>h i (by omega),h n (by omega)];rfl
theorem li_of {P:Program} {c:Code} {n b:Nat} {l0 l1:List (Nat×AV)} {objs0 objs1:List (Option AObj)} {x:XO} {o:Orc} {σ:List Nat} {nx:Nat} {C:Prop->Prop} (h:LD P c n b l0 objs0 o x σ l1 objs1 nx C) (hc:C (stP x b σ l1 objs1 nx=stP x b σ l1 objs1 nx)):LI P c n b l0 objs0 x l1 objs1:=⟨o,σ,nx,_,hc,h⟩
def nmA (t:List Nat):Bool:=alB (fun i=>ofB (Int.ofNat (t.getD i 0))) t.length
def nmB (t:List Nat):Bool:=wi (Int.ofNat t.length) 1 6 && nmA t
def ptB (n:Nat) (f:Nat->Int):Bool:=alB (fun i=>ipB (f i)) n
theorem nm_lp (t:List Nat) (ht:t.length<=281474976710656) (h:nmA t=true):LDoes Try.prog (loopAt Try.prog 21 0) 19 0 (mkT [(0,.s t),(9,.i .i64 (Int.ofNat t.length)),(10,.i .i64 0)]) [] (.exit 0) (mkT []) []:=by
 refine loop_q (fun i:Nat=>([(0,.s t),(9,.i .i64 (Int.ofNat t.length)),(10,.i .i64 (Int.ofNat i))],[])) (fun i=>t.length-i) (fun i=>i<=t.length) (fun _=>Nat.le_refl _) ?_ 0 (Nat.zero_le _)
 intro i hi
 rcases Nat.lt_or_ge i t.length with hlt | q
 · have h1:decide (Int.ofNat i<Int.ofNat t.length)=true:=decide_eq_true (by simp;omega)
   have h2:=alB_t h i hlt
   exact rd_nrm (nmR_lq ofB t i h1 h2) ⟨h1,⟨by simp,by simp;omega⟩,c52_con _,trivial,nT h2,⟨by simp<;>omega,by simp<;>omega⟩,rfl⟩ (i+1) hlt (by show t.length-(i+1)<t.length-i;omega) rfl (.refl _) (.refl _)
 · have h1:decide (Int.ofNat i<Int.ofNat t.length)=false:=decide_eq_false (by simp;omega)
   exact rd_out (nmE_lq t i h1) ⟨h1,rfl⟩ rfl rfl (.refl _) (.refl _)
theorem nmX_lp (t:List Nat) (ht:t.length<=281474976710656) (h:nmA t=false):LDoes Try.prog (loopAt Try.prog 21 0) 19 0 (mkT [(0,.s t),(9,.i .i64 (Int.ofNat t.length)),(10,.i .i64 0)]) [] .ret (mkT [(2,.b false)]) []:=by
 obtain ⟨j,hj,hb,hg⟩:=alB_f h
 refine loop_q (fun i:Nat=>([(0,.s t),(9,.i .i64 (Int.ofNat t.length)),(10,.i .i64 (Int.ofNat i))],[])) (fun i=>t.length-i) (fun i=>i<=j) (fun _=>Nat.le_refl _) ?_ 0 (Nat.zero_le _)
 intro i hi
 have hlt:i<t.length:=by omega
 have h1:decide (Int.ofNat i<Int.ofNat t.length)=true:=decide_eq_true (by simp;omega)
 rcases Nat.lt_or_ge i j with q | q
 · have h2:=hg i q
   exact rd_nrm (nmR_lq ofB t i h1 h2) ⟨h1,⟨by simp,by simp;omega⟩,c52_con _,trivial,nT h2,⟨by simp<;>omega,by simp<;>omega⟩,rfl⟩ (i+1) q (by show t.length-(i+1)<t.length-i;omega) rfl (.refl _) (.refl _)
 · obtain rfl:i=j:=by omega
   exact rd_out (nmX_lq ofB t i h1 hb) ⟨h1,⟨by simp,by simp;omega⟩,c52_con _,trivial,nF hb,rfl⟩ rfl rfl (.refl _) (.refl _)
theorem of_cases (c:Int):(decide (97<=c)=true/\decide (c<=122)=true)\/((decide (97<=c)=false\/(decide (97<=c)=true/\decide (c<=122)=false))/\((decide (48<=c)=true/\decide (c<=57)=true)\/((decide (48<=c)=false\/(decide (48<=c)=true/\decide (c<=57)=false))/\decide (c=46)=ofB c))):=by
 unfold ofB wi
 cases h1:decide (97<=c)<;>cases h2:decide (c<=122)<;>cases h3:decide (48<=c)<;>cases h4:decide (c<=57)<;>simp
theorem of_l {c:Int} (h1:decide (97<=c)=true) (h2:decide (c<=122)=true):ofB c=true:=by
 unfold ofB wi;rw [h1,h2];rfl
theorem of_d {c:Int} (h1:decide (48<=c)=true) (h2:decide (c<=57)=true):ofB c=true:=by
 unfold ofB wi;rw [h1,h2];cases (decide (97<=c) && decide (c<=122))<;>rfl
theorem rnR_li (t:List Nat) (i:Nat) (h1:decide (Int.ofNat i<Int.ofNat t.length)=true) (h2:ofB (Int.ofNat (List.getD t i 0))=true) (ri:rg (Int.ofNat i+1)) (bi:(0:Int)<=Int.ofNat i/\Int.ofNat i<(↑t.length:Int)):LI Try.prog (loopAt Try.prog 22 0) 41 0 [(0,.s t),(3,.i .i64 (Int.ofNat i))] [] .nrm [(0,.s t),(3,.i .i64 (Int.ofNat i+1))] []:=by
 rcases of_cases (Int.ofNat (List.getD t i 0)) with ⟨a,b⟩ | ⟨a | ⟨a,b⟩,⟨u,v⟩ | ⟨u | ⟨u,v⟩,e⟩⟩
 · exact li_of (rn0_lq t i h1 a b) (by repeat' first | exact trivial | assumption | exact rfl | exact nT (by assumption) | exact nF (by assumption) | apply And.intro)
 · exact li_of (rn6_lq t i h1 a u v) (by repeat' first | exact trivial | assumption | exact rfl | exact nT (by assumption) | exact nF (by assumption) | apply And.intro)
 · have d:=e.trans h2;exact li_of (rn9_lq t i h1 a u d) (by repeat' first | exact trivial | assumption | exact rfl | exact nT (by assumption) | exact nF (by assumption) | apply And.intro)
 · have d:=e.trans h2;exact li_of (rn7_lq t i h1 a u v d) (by repeat' first | exact trivial | assumption | exact rfl | exact nT (by assumption) | exact nF (by assumption) | apply And.intro)
 · exact li_of (rn1_lq t i h1 a b u v) (by repeat' first | exact trivial | assumption | exact rfl | exact nT (by assumption) | exact nF (by assumption) | apply And.intro)
 · have d:=e.trans h2;exact li_of (rn4_lq t i h1 a b u d) (by repeat' first | exact trivial | assumption | exact rfl | exact nT (by assumption) | exact nF (by assumption) | apply And.intro)
 · have d:=e.trans h2;exact li_of (rn2_lq t i h1 a b u v d) (by repeat' first | exact trivial | assumption | exact rfl | exact nT (by assumption) | exact nF (by assumption) | apply And.intro)
theorem rnX_li (t:List Nat) (i:Nat) (h1:decide (Int.ofNat i<Int.ofNat t.length)=true) (h2:ofB (Int.ofNat (List.getD t i 0))=false) (bi:(0:Int)<=Int.ofNat i/\Int.ofNat i<(↑t.length:Int)):LI Try.prog (loopAt Try.prog 22 0) 41 0 [(0,.s t),(3,.i .i64 (Int.ofNat i))] [] .ret [(2,.b false)] []:=by
 rcases of_cases (Int.ofNat (List.getD t i 0)) with ⟨a,b⟩ | ⟨a | ⟨a,b⟩,⟨u,v⟩ | ⟨u | ⟨u,v⟩,e⟩⟩
 · rw [of_l a b] at h2;cases h2
 · rw [of_d u v] at h2;cases h2
 · have d:=e.trans h2;exact li_of (rn10_lq t i h1 a u d) (by repeat' first | exact trivial | assumption | exact rfl | exact nT (by assumption) | exact nF (by assumption) | apply And.intro)
 · have d:=e.trans h2;exact li_of (rn8_lq t i h1 a u v d) (by repeat' first | exact trivial | assumption | exact rfl | exact nT (by assumption) | exact nF (by assumption) | apply And.intro)
 · rw [of_d u v] at h2;cases h2
 · have d:=e.trans h2;exact li_of (rn5_lq t i h1 a b u d) (by repeat' first | exact trivial | assumption | exact rfl | exact nT (by assumption) | exact nF (by assumption) | apply And.intro)
 · have d:=e.trans h2;exact li_of (rn3_lq t i h1 a b u v d) (by repeat' first | exact trivial | assumption | exact rfl | exact nT (by assumption) | exact nF (by assumption) | apply And.intro)
theorem rn_lp (t:List Nat) (ht:t.length<=281474976710656) (h:nmA t=true):LDoes Try.prog (loopAt Try.prog 22 0) 41 0 (mkT [(0,.s t),(3,.i .i64 0)]) [] (.exit 0) (mkT [(0,.s t)]) []:=by
 refine loop_q (fun i:Nat=>([(0,.s t),(3,.i .i64 (Int.ofNat i))],[])) (fun i=>t.length-i) (fun i=>i<=t.length) (fun _=>Nat.le_refl _) ?_ 0 (Nat.zero_le _)
 intro i hi
 rcases Nat.lt_or_ge i t.length with hlt | q
 · have h1:decide (Int.ofNat i<Int.ofNat t.length)=true:=decide_eq_true (by simp;omega)
   exact ri_nrm (rnR_li t i h1 (alB_t h i hlt) ⟨by simp<;>omega,by simp<;>omega⟩ ⟨by simp,by simp;omega⟩) (i+1) hlt (by show t.length-(i+1)<t.length-i;omega) rfl (.refl _) (.refl _)
 · have h1:decide (Int.ofNat i<Int.ofNat t.length)=false:=decide_eq_false (by simp;omega)
   exact rd_out (rnE_lq t i h1) ⟨h1,rfl⟩ rfl rfl (.refl _) (.refl _)
theorem rnX_lp (t:List Nat) (ht:t.length<=281474976710656) (h:nmA t=false):LDoes Try.prog (loopAt Try.prog 22 0) 41 0 (mkT [(0,.s t),(3,.i .i64 0)]) [] .ret (mkT [(2,.b false)]) []:=by
 obtain ⟨j,hj,hb,hg⟩:=alB_f h
 refine loop_q (fun i:Nat=>([(0,.s t),(3,.i .i64 (Int.ofNat i))],[])) (fun i=>t.length-i) (fun i=>i<=j) (fun _=>Nat.le_refl _) ?_ 0 (Nat.zero_le _)
 intro i hi
 have hlt:i<t.length:=by omega
 have h1:decide (Int.ofNat i<Int.ofNat t.length)=true:=decide_eq_true (by simp;omega)
 rcases Nat.lt_or_ge i j with q | q
 · exact ri_nrm (rnR_li t i h1 (hg i q) ⟨by simp<;>omega,by simp<;>omega⟩ ⟨by simp,by simp;omega⟩) (i+1) q (by show t.length-(i+1)<t.length-i;omega) rfl (.refl _) (.refl _)
 · obtain rfl:i=j:=by omega
   exact ri_out (rnX_li t i h1 hb ⟨by simp,by simp;omega⟩) rfl rfl (.refl _) (.refl _)
theorem ix_lp (n:Nat) (f:Nat->Int) (hn:n<=1000) (h:ptB n f=true):LDoes Try.prog (loopAt Try.prog 88 0) 19 0 (mkT [(0,.sv 1 n (fun i _=>.i .i64 (f i))),(1,.fn (.func 78) [] []),(7,.i .i64 (Int.ofNat n)),(8,.i .i64 0)]) [] (.exit 0) (mkT []) []:=by
 refine loop_q (fun i:Nat=>([(0,.sv 1 n (fun i _=>.i .i64 (f i))),(1,.fn (.func 78) [] []),(7,.i .i64 (Int.ofNat n)),(8,.i .i64 (Int.ofNat i))],[])) (fun i=>n-i) (fun i=>i<=n) (fun _=>Nat.le_refl _) ?_ 0 (Nat.zero_le _)
 intro i hi
 rcases Nat.lt_or_ge i n with hlt | q
 · have h1:decide (Int.ofNat i<Int.ofNat n)=true:=decide_eq_true (by simp;omega)
   have ri:rg (Int.ofNat i+1):=⟨by simp<;>omega,by simp<;>omega⟩
   have bi:(0:Int)<=Int.ofNat i/\Int.ofNat i<(↑n:Int):=⟨by simp,by simp;omega⟩
   have h2:=alB_t h i hlt
   have c8:=c78_con (f i)
   exact rd_nrm (ixR_lq ipB n i f h1 h2) (by repeat' first | exact trivial | assumption | exact rfl | exact nT (by assumption) | exact nF (by assumption) | apply And.intro) (i+1) hlt (by show n-(i+1)<n-i;omega) rfl (.refl _) (.refl _)
 · have h1:decide (Int.ofNat i<Int.ofNat n)=false:=decide_eq_false (by simp;omega)
   exact rd_out (ixE_lq n i f h1) ⟨h1,rfl⟩ rfl rfl (.refl _) (.refl _)
theorem ixX_lp (n:Nat) (f:Nat->Int) (hn:n<=1000) (j:Nat) (hj:j<n) (hb:ipB (f j)=false) (hg:∀i,i<j->ipB (f i)=true):LDoes Try.prog (loopAt Try.prog 88 0) 19 0 (mkT [(0,.sv 1 n (fun i _=>.i .i64 (f i))),(1,.fn (.func 78) [] []),(7,.i .i64 (Int.ofNat n)),(8,.i .i64 0)]) [] .ret (mkT [(4,.i .i64 (Int.ofNat j))]) []:=by
 refine loop_q (fun i:Nat=>([(0,.sv 1 n (fun i _=>.i .i64 (f i))),(1,.fn (.func 78) [] []),(7,.i .i64 (Int.ofNat n)),(8,.i .i64 (Int.ofNat i))],[])) (fun i=>n-i) (fun i=>i<=j) (fun _=>Nat.le_refl _) ?_ 0 (Nat.zero_le _)
 intro i hi
 have hlt:i<n:=by omega
 have h1:decide (Int.ofNat i<Int.ofNat n)=true:=decide_eq_true (by simp;omega)
 have ri:rg (Int.ofNat i+1):=⟨by simp<;>omega,by simp<;>omega⟩
 have bi:(0:Int)<=Int.ofNat i/\Int.ofNat i<(↑n:Int):=⟨by simp,by simp;omega⟩
 have c8:=c78_con (f i)
 rcases Nat.lt_or_ge i j with q | q
 · have h2:=hg i q
   exact rd_nrm (ixR_lq ipB n i f h1 h2) (by repeat' first | exact trivial | assumption | exact rfl | exact nT (by assumption) | exact nF (by assumption) | apply And.intro) (i+1) q (by show n-(i+1)<n-i;omega) rfl (.refl _) (.refl _)
 · obtain rfl:i=j:=by omega
   exact rd_out (ixX_lq ipB n i f h1 hb) (by repeat' first | exact trivial | assumption | exact rfl | exact nT (by assumption) | exact nF (by assumption) | apply And.intro) rfl rfl (.refl _) (.refl _)
theorem nm00_vq (w:Int->Int->Int->Bool) (t:List Nat) (h0:w (Int.ofNat t.length) 1 6=false):VD Try.prog 21 [.s t] [] (Orc.cal [] (.b (w (Int.ofNat (List.length t))
 1 6)) [] (Orc.t Orc.z)) (.b false) [] [] 0 (fun Lf=>Con Try.prog 51 [.i .i64 (Int.ofNat (List.length t)),.i .i64 1,.i .i64 6] [] (.b (w (Int.ofNat (List.length t)) 1 6))
 []/\True/\(!w (Int.ofNat (List.length t)) 1 6)=true/\Lf):=by unfold VD VQ;kernel_rfl
theorem nm0_con (t:List Nat) (h0:wi (Int.ofNat t.length) 1 6=false):Con Try.prog 21 [.s t] [] (.b false) []:=by
 exact con_d (nm00_vq (w:=wi) (t:=t) (h0:=h0)) (by repeat' first | exact trivial | assumption | exact rfl | exact nT (by assumption) | exact nF (by assumption) | exact w51_con _ _ _ | apply And.intro)
theorem nm10_vq (w:Int->Int->Int->Bool) (t:List Nat) (h0:w (Int.ofNat t.length) 1 6=true):VD Try.prog 21 [.s t] [] (Orc.cal [] (.b (w (Int.ofNat (List.length t)) 1
 6)) [] (Orc.f (Orc.lop [] [0,9,10] 0 (XO.exit 0) [] [] Orc.z))) (.b true) [] [] 0 (fun Lf=>Con Try.prog 51 [.i .i64 (Int.ofNat (List.length t)),.i .i64 1,.i .i64 6] []
 (.b (w (Int.ofNat (List.length t)) 1 6)) []/\True/\(!w (Int.ofNat (List.length t)) 1 6)=false/\LDoes Try.prog (loopAt Try.prog 21 0) 19 0 (mkT [(0,.s t),(9,.i .i64
 (Int.ofNat (List.length t))),(10,.i .i64 0)]) [] (XO.exit 0) (mkT []) []/\Lf):=by unfold VD VQ;kernel_rfl
theorem nm1_con (t:List Nat) (h0:wi (Int.ofNat t.length) 1 6=true) (ht:t.length<=281474976710656) (h1:nmA t=true):Con Try.prog 21 [.s t] [] (.b true) []:=by
 exact con_d (nm10_vq (w:=wi) (t:=t) (h0:=h0)) (by repeat' first | exact trivial | assumption | exact rfl | exact nT (by assumption) | exact nF (by assumption) | exact w51_con _ _ _ | exact nm_lp t ht h1 | apply And.intro)
theorem nm20_vq (w:Int->Int->Int->Bool) (t:List Nat) (h0:w (Int.ofNat t.length) 1 6=true):VD Try.prog 21 [.s t] [] (Orc.cal [] (.b (w (Int.ofNat (List.length t)) 1
 6)) [] (Orc.f (Orc.lop [] [0,9,10] 0 XO.ret [(2,.b false)] [] Orc.z))) (.b false) [] [] 0 (fun Lf=>Con Try.prog 51 [.i .i64 (Int.ofNat (List.length t)),.i .i64 1,.i
 .i64 6] [] (.b (w (Int.ofNat (List.length t)) 1 6)) []/\True/\(!w (Int.ofNat (List.length t)) 1 6)=false/\LDoes Try.prog (loopAt Try.prog 21 0) 19 0 (mkT [(0,.s t),(9,
 .i .i64 (Int.ofNat (List.length t))),(10,.i .i64 0)]) [] XO.ret (mkT [(2,.b false)]) []/\Lf):=by unfold VD VQ;kernel_rfl
theorem nm2_con (t:List Nat) (h0:wi (Int.ofNat t.length) 1 6=true) (ht:t.length<=281474976710656) (h1:nmA t=false):Con Try.prog 21 [.s t] [] (.b false) []:=by
 exact con_d (nm20_vq (w:=wi) (t:=t) (h0:=h0)) (by repeat' first | exact trivial | assumption | exact rfl | exact nT (by assumption) | exact nF (by assumption) | exact w51_con _ _ _ | exact nmX_lp t ht h1 | apply And.intro)
theorem rm10_vq (t:List Nat) (h0:decide (1<=Int.ofNat t.length)=true):VD Try.prog 22 [.s t] [] (Orc.lop [] [0,3] 0 (XO.exit 0) [(0,.s t)] [] (Orc.t (Orc.t (Orc.t
 (Orc.t Orc.z))))) (.b (decide (Int.ofNat (List.length t)<=6))) [] [] 0 (fun Lf=>LDoes Try.prog (loopAt Try.prog 22 0) 41 0 (mkT [(0,.s t),(3,.i .i64 0)]) [] (XO.exit 0)
 (mkT [(0,.s t)]) []/\decide (1<=Int.ofNat (List.length t))=true/\decide (1<=Int.ofNat (List.length t))=true/\decide (1<=Int.ofNat (List.length t))=true/\decide
 (1<=Int.ofNat (List.length t))=true/\Lf):=by unfold VD VQ;kernel_rfl
theorem rm11_vq (t:List Nat) (h0:decide (1<=Int.ofNat t.length)=false):VD Try.prog 22 [.s t] [] (Orc.lop [] [0,3] 0 (XO.exit 0) [(0,.s t)] [] (Orc.f (Orc.f (Orc.f
 (Orc.f Orc.z))))) (.b false) [] [] 0 (fun Lf=>LDoes Try.prog (loopAt Try.prog 22 0) 41 0 (mkT [(0,.s t),(3,.i .i64 0)]) [] (XO.exit 0) (mkT [(0,.s t)]) []/\decide (1<=
 Int.ofNat (List.length t))=false/\decide (1<=Int.ofNat (List.length t))=false/\decide (1<=Int.ofNat (List.length t))=false/\decide (1<=Int.ofNat (List.length t))
 =false/\Lf):=by unfold VD VQ;kernel_rfl
theorem rm1_con (t:List Nat) (ht:t.length<=281474976710656) (hr:nmA t=true):Con Try.prog 22 [.s t] [] (.b (wi (Int.ofNat t.length) 1 6)) []:=by
 unfold wi
 cases h0:decide (1<=Int.ofNat t.length) with
 | true=>
   exact con_d (rm10_vq (t:=t) (h0:=h0)) (by repeat' first | exact trivial | assumption | exact rfl | exact nT (by assumption) | exact nF (by assumption) | exact rn_lp t ht hr | apply And.intro)
 | false=>
   exact con_d (rm11_vq (t:=t) (h0:=h0)) (by repeat' first | exact trivial | assumption | exact rfl | exact nT (by assumption) | exact nF (by assumption) | exact rn_lp t ht hr | apply And.intro)
theorem rm20_vq (t:List Nat):VD Try.prog 22 [.s t] [] (Orc.lop [] [0,3] 0 XO.ret [(2,.b false)] [] Orc.z) (.b false) [] [] 0 (fun Lf=>LDoes Try.prog (loopAt Try.prog 22
 0) 41 0 (mkT [(0,.s t),(3,.i .i64 0)]) [] XO.ret (mkT [(2,.b false)]) []/\Lf):=by unfold VD VQ;kernel_rfl
theorem rm2_con (t:List Nat) (ht:t.length<=281474976710656) (hr:nmA t=false):Con Try.prog 22 [.s t] [] (.b false) []:=by
 exact con_d (rm20_vq (t:=t)) (by repeat' first | exact trivial | assumption | exact rfl | exact nT (by assumption) | exact nF (by assumption) | exact rnX_lp t ht hr | apply And.intro)
theorem x88T0_vq (n:Nat) (f:Nat->Int):VD Try.prog 88 [.sv 1 n (fun i _=>.i .i64 (f i)),.fn (.func 78) [] []] [] (Orc.lop [] [0,1,7,8] 0 (XO.exit 0) [] [] Orc.z)
 (.i .i64 (-1)) [] [] 0 (fun Lf=>LDoes Try.prog (loopAt Try.prog 88 0) 19 0 (mkT [(0,.sv 1 n fun i x=>CV.i .i64 (f i)),(1,AV.fn (Fn.func 78) [] []),(7,.i .i64
 (Int.ofNat n)),(8,.i .i64 0)]) [] (XO.exit 0) (mkT []) []/\Lf):=by unfold VD VQ;kernel_rfl
theorem x88T_con (n:Nat) (f:Nat->Int) (hn:n<=1000) (h0:ptB n f=true):Con Try.prog 88 [.sv 1 n (fun i _=>.i .i64 (f i)),.fn (.func 78) [] []] [] (.i .i64 (-1)) []:=by
 exact con_d (x88T0_vq (n:=n) (f:=f)) (by repeat' first | exact trivial | assumption | exact rfl | exact nT (by assumption) | exact nF (by assumption) | exact ix_lp n f hn h0 | apply And.intro)
theorem x88F0_vq (j0:Nat) (n:Nat) (f:Nat->Int):VD Try.prog 88 [.sv 1 n (fun i _=>.i .i64 (f i)),.fn (.func 78) [] []] [] (Orc.lop [] [0,1,7,8] 0 XO.ret [(4,.i
 .i64 (Int.ofNat j0))] [] Orc.z) (.i .i64 (Int.ofNat j0)) [] [] 0 (fun Lf=>LDoes Try.prog (loopAt Try.prog 88 0) 19 0 (mkT [(0,.sv 1 n fun i x=>CV.i .i64 (f i)),(1,
 AV.fn (Fn.func 78) [] []),(7,.i .i64 (Int.ofNat n)),(8,.i .i64 0)]) [] XO.ret (mkT [(4,.i .i64 (Int.ofNat j0))]) []/\Lf):=by unfold VD VQ;kernel_rfl
theorem x88F_con (n:Nat) (f:Nat->Int) (j0:Nat) (hn:n<=1000) (hj:j0<n) (hb:ipB (f j0)=false) (hg:∀i,i<j0->ipB (f i)=true):Con Try.prog 88 [.sv 1 n (fun i _=>.i .i64 (f i)),.fn (.func 78) [] []] [] (.i .i64 (Int.ofNat j0)) []:=by
 exact con_d (x88F0_vq (j0:=j0) (n:=n) (f:=f)) (by repeat' first | exact trivial | assumption | exact rfl | exact nT (by assumption) | exact nF (by assumption) | exact ixX_lp n f hn j0 hj hb hg | apply And.intro)
theorem x77T0_vq (n:Nat) (f:Nat->Int):VD Try.prog 77 [.sv 1 n (fun i _=>.i .i64 (f i)),.fn (.func 78) [] []] [] (Orc.cal [] (.i .i64 (-1)) [] Orc.z) (.b false) [] []
 0 (fun Lf=>Con Try.prog 88 [.sv 1 n fun i x=>CV.i .i64 (f i),AV.fn (Fn.func 78) [] []] [] (.i .i64 (-1)) []/\Lf):=by unfold VD VQ;kernel_rfl
theorem x77T_con (n:Nat) (f:Nat->Int) (hn:n<=1000) (h0:ptB n f=true):Con Try.prog 77 [.sv 1 n (fun i _=>.i .i64 (f i)),.fn (.func 78) [] []] [] (.b false) []:=by
 exact con_d (x77T0_vq (n:=n) (f:=f)) (by repeat' first | exact trivial | assumption | exact rfl | exact nT (by assumption) | exact nF (by assumption) | exact x88T_con n f hn h0 | apply And.intro)
theorem x77F0_vq (j0:Nat) (n:Nat) (f:Nat->Int):VD Try.prog 77 [.sv 1 n (fun i _=>.i .i64 (f i)),.fn (.func 78) [] []] [] (Orc.cal [] (.i .i64 (Int.ofNat j0)) []
 Orc.z) (.b true) [] [] 0 (fun Lf=>Con Try.prog 88 [.sv 1 n fun i x=>CV.i .i64 (f i),AV.fn (Fn.func 78) [] []] [] (.i .i64 (Int.ofNat j0)) []/\Lf)
 :=by unfold VD VQ;kernel_rfl
theorem x77F_con (n:Nat) (f:Nat->Int) (j0:Nat) (hn:n<=1000) (hj:j0<n) (hb:ipB (f j0)=false) (hg:∀i,i<j0->ipB (f i)=true):Con Try.prog 77 [.sv 1 n (fun i _=>.i .i64 (f i)),.fn (.func 78) [] []] [] (.b true) []:=by
 exact con_d (x77F0_vq (j0:=j0) (n:=n) (f:=f)) (by repeat' first | exact trivial | assumption | exact rfl | exact nT (by assumption) | exact nF (by assumption) | exact x88F_con n f j0 hn hj hb hg | apply And.intro)
theorem x77_con (n:Nat) (f:Nat->Int) (hn:n<=1000):Con Try.prog 77 [.sv 1 n (fun i _=>.i .i64 (f i)),.fn (.func 78) [] []] [] (.b (!ptB n f)) []:=by
 cases h:ptB n f with
 | true=>exact x77T_con n f hn h
 | false=>
   obtain ⟨j,hj,hb,hg⟩:=alB_f h
   exact x77F_con n f j hn hj hb hg
theorem x430_vq (pt:Nat->(Nat->Int)->Bool) (n:Nat) (f:Nat->Int):VD Try.prog 43 [.sv 1 n (fun i _=>.i .i64 (f i))] [] (Orc.cal [] (.b !pt n f) [] Orc.z) (.b !!pt n
 f) [] [] 0 (fun Lf=>Con Try.prog 77 [.sv 1 n fun i x=>CV.i .i64 (f i),AV.fn (Fn.func 78) [] []] [] (.b !pt n f) []/\True/\Lf):=by unfold VD VQ;kernel_rfl
theorem x43_con (n:Nat) (f:Nat->Int) (hn:n<=1000):Con Try.prog 43 [.sv 1 n (fun i _=>.i .i64 (f i))] [] (.b (!!ptB n f)) []:=by
 exact con_d (x430_vq (pt:=ptB) (n:=n) (f:=f)) (by repeat' first | exact trivial | assumption | exact rfl | exact nT (by assumption) | exact nF (by assumption) | exact x77_con n f hn | apply And.intro)
theorem pm_con (n:Nat) (f:Nat->Int) (hn:n<=1000):Con Try.prog 43 [.sv 1 n (fun i _=>.i .i64 (f i))] [] (.b (ptB n f)) []:=by
 have h:=x43_con n f hn
 rwa [Bool.not_not] at h
theorem name_con (t:List Nat) (ht:t.length<=281474976710656):Con Try.prog 21 [.s t] [] (.b (nmB t)) []:=by
 unfold nmB
 cases h:wi (Int.ofNat t.length) 1 6 with
 | false=>exact nm0_con t h
 | true=>cases h1:nmA t with
   | true=>exact nm1_con t h ht h1
   | false=>exact nm2_con t h ht h1
theorem rname_con (t:List Nat) (ht:t.length<=281474976710656):Con Try.prog 22 [.s t] [] (.b (nmB t)) []:=by
 unfold nmB
 cases h1:nmA t with
 | true=>rw [Bool.and_true];exact rm1_con t ht h1
 | false=>rw [Bool.and_false];exact rm2_con t ht h1
noncomputable def blB (v:Int) (t:List Nat):Bool:=wi v 0 1099511627776 && (decide (Int.ofNat t.length<=38) && (decide (0<v) || natsEq t []))
def lI (l:List Int) (i:Nat):Int:=l.getD i 0
noncomputable def pm4B (a b c d:Int):Bool:=ptB 4 (lI [a,b,c,d])
def iiB (c:Int):Bool:=wi c 0 15
def zrB (k g l s d0 d1 d2 d3 i:Int):Bool:=decide (k=0) && (decide (g=g) && (decide (l=0) && (decide (s=0) && (decide (d0=0) && (decide (d1=0) && (decide (d2=0) && (decide (d3=0) && true))) && (decide (i=0) && true)))))
noncomputable def inB (k g l s d0 d1 d2 d3 i:Int):Bool:=wi g 0 1099511627776 && (bif decide (k=0) then zrB k g l s d0 d1 d2 d3 i else bif decide (k=1) then wi l 1 9 && (wi s 0 384 && (pm4B d0 d1 d2 d3 && ipB i)) else bif decide (k=2) then decide (l=1) && (wi s 0 128 && (pm4B d0 d1 d2 d3 && iiB i)) else false)
theorem pm4_con (k g l s d0 d1 d2 d3 i:Int):Con Try.prog 43 [.l 0 4 4 4 1 true] [some (cellsO 31 [.i .i64 k,.i .i64 g,.i .i64 l,.i .i64 s,.i .i64 d0,.i .i64 d1,.i .i64 d2,.i .i64 d3,.i .i64 i])] (.b (pm4B d0 d1 d2 d3)) [.keep]:=
 ((pm_con 4 (lI [d0,d1,d2,d3]) (by decide)).pre (pargs':=[.sv 1 4 (listF 1 [.i .i64 d0,.i .i64 d1,.i .i64 d2,.i .i64 d3,.i .i64 i] 4)]) ⟨by
   refine .sv fun i j hi hj=>?_
   obtain rfl:j=0:=by omega
   rcases i with _ | _ | _ | _ | i<;>first | rfl | omega,trivial⟩).borrow (pargs0:=[.l 0 4 4 4 1 true]) (objs:=[some (cellsO 31 [.i .i64 k,.i .i64 g,.i .i64 l,.i .i64 s,.i .i64 d0,.i .i64 d1,.i .i64 d2,.i .i64 d3,.i .i64 i])]) [0] (frzP 0 (.cells 9 [.i .i64 k,.i .i64 g,.i .i64 l,.i .i64 s,.i .i64 d0,.i .i64 d1,.i .i64 d2,.i .i64 d3,.i .i64 i]) (.tup [.l 0 4 4 4 1 true])/\True) (by kernel_rfl) (by kernel_rfl) (by kernel_rfl) ⟨by simp [frzP,frzsP],trivial⟩ (by kernel_rfl) (by kernel_rfl) VR_b
theorem bm0_vq (w:Int->Int->Int->Bool) (v:Int) (t:List Nat) (h0:w v 0 1099511627776=true) (h1:decide (Int.ofNat t.length<=38)=true) (h2:decide (0<v) =
 true):VD Try.prog 36 [.agg [.i .i64 v,.s t]] [] (Orc.cal [] (.b (w v 0 1099511627776)) [] (Orc.t (Orc.t (Orc.t (Orc.t (Orc.t (Orc.t (Orc.t (Orc.t (Orc.t (Orc.f (Orc.f
 (Orc.f (Orc.t (Orc.t (Orc.t Orc.z)))))))))))))))) (.b true) [] [] 1 (fun Lf=>True/\Con Try.prog 51 [.i .i64 v,.i .i64 0,.i .i64 1099511627776] [] (.b (w v 0
 1099511627776)) []/\w v 0 1099511627776=true/\True/\w v 0 1099511627776=true/\w v 0 1099511627776=true/\w v 0 1099511627776=true/\w v 0 1099511627776=true/\
 decide (Int.ofNat (List.length t)<=38)=true/\True/\decide (Int.ofNat (List.length t)<=38)=true/\decide (Int.ofNat (List.length t)<=38)=true/\decide (Int.ofNat
 (List.length t)<=38)=true/\(!decide (0<v))=false/\(!decide (0<v))=false/\(!decide (0<v))=false/\decide (Int.ofNat (List.length t)<=38)=true/\decide (0
 <v)=true/\decide (Int.ofNat (List.length t)<=38)=true/\Lf):=by unfold VD VQ;kernel_rfl
theorem bm1_vq (w:Int->Int->Int->Bool) (v:Int) (t:List Nat) (h0:w v 0 1099511627776=true) (h1:decide (Int.ofNat t.length<=38)=true) (h2:decide (0<v) =
 false):VD Try.prog 36 [.agg [.i .i64 v,.s t]] [] (Orc.cal [] (.b (w v 0 1099511627776)) [] (Orc.t (Orc.t (Orc.t (Orc.t (Orc.t (Orc.t (Orc.t (Orc.t (Orc.t (Orc.t (Orc.t
 (Orc.t (Orc.t (Orc.f (Orc.t Orc.z)))))))))))))))) (.b (natsEq t [])) [] [] 1 (fun Lf=>True/\Con Try.prog 51 [.i .i64 v,.i .i64 0,.i .i64 1099511627776] [] (.b (w v 0
 1099511627776)) []/\w v 0 1099511627776=true/\True/\w v 0 1099511627776=true/\w v 0 1099511627776=true/\w v 0 1099511627776=true/\w v 0 1099511627776=true/\
 decide (Int.ofNat (List.length t)<=38)=true/\True/\decide (Int.ofNat (List.length t)<=38)=true/\decide (Int.ofNat (List.length t)<=38)=true/\decide (Int.ofNat
 (List.length t)<=38)=true/\(!decide (0<v))=true/\True/\(!decide (0<v))=true/\(!decide (0<v))=true/\decide (Int.ofNat (List.length t)<=38)=true/\decide
 (0<v)=false/\decide (Int.ofNat (List.length t)<=38)=true/\Lf):=by unfold VD VQ;kernel_rfl
theorem bm2_vq (w:Int->Int->Int->Bool) (v:Int) (t:List Nat) (h0:w v 0 1099511627776=true) (h1:decide (Int.ofNat t.length<=38)=false):VD Try.prog 36 [.agg
 [.i .i64 v,.s t]] [] (Orc.cal [] (.b (w v 0 1099511627776)) [] (Orc.t (Orc.t (Orc.t (Orc.t (Orc.t (Orc.f (Orc.f (Orc.f (Orc.f (Orc.f (Orc.f Orc.z)))))))))))) (.b false) []
 [] 1 (fun Lf=>True/\Con Try.prog 51 [.i .i64 v,.i .i64 0,.i .i64 1099511627776] [] (.b (w v 0 1099511627776)) []/\w v 0 1099511627776=true/\True/\w v 0
 1099511627776=true/\w v 0 1099511627776=true/\w v 0 1099511627776=true/\w v 0 1099511627776=true/\decide (Int.ofNat (List.length t)<=38)=false/\decide
 (Int.ofNat (List.length t)<=38)=false/\decide (Int.ofNat (List.length t)<=38)=false/\decide (Int.ofNat (List.length t)<=38)=false/\decide (Int.ofNat (List.length
 t)<=38)=false/\decide (Int.ofNat (List.length t)<=38)=false/\Lf):=by unfold VD VQ;kernel_rfl
theorem bm3_vq (w:Int->Int->Int->Bool) (v:Int) (t:List Nat) (h0:w v 0 1099511627776=false):VD Try.prog 36 [.agg [.i .i64 v,.s t]] [] (Orc.cal [] (.b (w v 0
 1099511627776)) [] (Orc.f (Orc.f (Orc.f (Orc.f (Orc.f (oc 6 Orc.z))))))) (.b false) [] [] 1 (fun Lf=>True/\Con Try.prog 51 [.i .i64 v,.i .i64 0,.i .i64 1099511627776] []
 (.b (w v 0 1099511627776)) []/\w v 0 1099511627776=false/\w v 0 1099511627776=false/\w v 0 1099511627776=false/\w v 0 1099511627776=false/\w v 0 1099511627776 =
 false/\Lf):=by unfold VD VQ;kernel_rfl
theorem bm_con (v:Int) (t:List Nat):Con Try.prog 36 [.agg [.i .i64 v,.s t]] [] (.b (blB v t)) []:=by
 unfold blB
 cases h0:wi v 0 1099511627776 with
 | true=>
   cases h1:decide (Int.ofNat t.length<=38) with
   | true=>
     cases h2:decide (0<v) with
     | true=>
       exact con_d (bm0_vq (w:=wi) (v:=v) (t:=t) (h0:=h0) (h1:=h1) (h2:=h2)) (by repeat' first | exact trivial | assumption | exact rfl | exact nT (by assumption) | exact nF (by assumption) | exact w51_con _ _ _ | apply And.intro)
     | false=>
       exact con_d (bm1_vq (w:=wi) (v:=v) (t:=t) (h0:=h0) (h1:=h1) (h2:=h2)) (by repeat' first | exact trivial | assumption | exact rfl | exact nT (by assumption) | exact nF (by assumption) | exact w51_con _ _ _ | apply And.intro)
   | false=>
     exact con_d (bm2_vq (w:=wi) (v:=v) (t:=t) (h0:=h0) (h1:=h1)) (by repeat' first | exact trivial | assumption | exact rfl | exact nT (by assumption) | exact nF (by assumption) | exact w51_con _ _ _ | apply And.intro)
 | false=>
   exact con_d (bm3_vq (w:=wi) (v:=v) (t:=t) (h0:=h0)) (by repeat' first | exact trivial | assumption | exact rfl | exact nT (by assumption) | exact nF (by assumption) | exact w51_con _ _ _ | apply And.intro)
theorem rb0_vq (v:Int) (t:List Nat) (h0:decide (0<=v)=true) (h1:decide (v<=1099511627776)=true) (h2:decide (Int.ofNat t.length<=38)=true) (h3:decide (0 <
 v)=true):VD Try.prog 38 [.agg [.i .i64 v,.s t]] [] (Orc.t (Orc.t (Orc.t (Orc.t (Orc.t (Orc.t (Orc.t (Orc.t (Orc.t (Orc.t (Orc.t (Orc.t (Orc.t (Orc.f (Orc.f (Orc.f (Orc.t
 (Orc.t (Orc.t Orc.z))))))))))))))))))) (.b true) [] [] 1 (fun Lf=>True/\decide (0<=v)=true/\True/\decide (0<=v)=true/\decide (0<=v)=true/\decide (0<=v) =
 true/\decide (v<=1099511627776)=true/\True/\decide (v<=1099511627776)=true/\decide (v<=1099511627776)=true/\decide (v<=1099511627776)=true/\decide (v<=
 1099511627776)=true/\decide (Int.ofNat (List.length t)<=38)=true/\True/\decide (Int.ofNat (List.length t)<=38)=true/\decide (Int.ofNat (List.length t)<=38) =
 true/\decide (Int.ofNat (List.length t)<=38)=true/\(!decide (0<v))=false/\(!decide (0<v))=false/\(!decide (0<v))=false/\decide (Int.ofNat (List.length t)
 <=38)=true/\decide (0<v)=true/\decide (Int.ofNat (List.length t)<=38)=true/\Lf):=by unfold VD VQ;kernel_rfl
theorem rb1_vq (v:Int) (t:List Nat) (h0:decide (0<=v)=true) (h1:decide (v<=1099511627776)=true) (h2:decide (Int.ofNat t.length<=38)=true) (h3:decide (0 <
 v)=false):VD Try.prog 38 [.agg [.i .i64 v,.s t]] [] (Orc.t (Orc.t (Orc.t (Orc.t (Orc.t (Orc.t (Orc.t (Orc.t (Orc.t (Orc.t (Orc.t (Orc.t (Orc.t (Orc.t (Orc.t (Orc.t
 (Orc.t (Orc.f (Orc.t Orc.z))))))))))))))))))) (.b (natsEq t [])) [] [] 1 (fun Lf=>True/\decide (0<=v)=true/\True/\decide (0<=v)=true/\decide (0<=v)=true/\
 decide (0<=v)=true/\decide (v<=1099511627776)=true/\True/\decide (v<=1099511627776)=true/\decide (v<=1099511627776)=true/\decide (v<=1099511627776)=true/\
 decide (v<=1099511627776)=true/\decide (Int.ofNat (List.length t)<=38)=true/\True/\decide (Int.ofNat (List.length t)<=38)=true/\decide (Int.ofNat (List.length t)
 <=38)=true/\decide (Int.ofNat (List.length t)<=38)=true/\(!decide (0<v))=true/\True/\(!decide (0<v))=true/\(!decide (0<v))=true/\decide (Int.ofNat
 (List.length t)<=38)=true/\decide (0<v)=false/\decide (Int.ofNat (List.length t)<=38)=true/\Lf):=by unfold VD VQ;kernel_rfl
theorem rb2_vq (v:Int) (t:List Nat) (h0:decide (0<=v)=true) (h1:decide (v<=1099511627776)=true) (h2:decide (Int.ofNat t.length<=38)=false):VD Try.prog 38
 [.agg [.i .i64 v,.s t]] [] (Orc.t (Orc.t (Orc.t (Orc.t (Orc.t (Orc.t (Orc.t (Orc.t (Orc.t (Orc.f (Orc.f (Orc.f (Orc.f (Orc.f (Orc.f Orc.z))))))))))))))) (.b false) [] [] 1
 (fun Lf=>True/\decide (0<=v)=true/\True/\decide (0<=v)=true/\decide (0<=v)=true/\decide (0<=v)=true/\decide (v<=1099511627776)=true/\True/\decide (v
 <=1099511627776)=true/\decide (v<=1099511627776)=true/\decide (v<=1099511627776)=true/\decide (v<=1099511627776)=true/\decide (Int.ofNat (List.length t)<=38)
 =false/\decide (Int.ofNat (List.length t)<=38)=false/\decide (Int.ofNat (List.length t)<=38)=false/\decide (Int.ofNat (List.length t)<=38)=false/\decide
 (Int.ofNat (List.length t)<=38)=false/\decide (Int.ofNat (List.length t)<=38)=false/\Lf):=by unfold VD VQ;kernel_rfl
theorem rb3_vq (v:Int) (t:List Nat) (h0:decide (0<=v)=true) (h1:decide (v<=1099511627776)=false):VD Try.prog 38 [.agg [.i .i64 v,.s t]] [] (Orc.t (Orc.t (Orc.t
 (Orc.t (Orc.f (Orc.f (Orc.f (Orc.f (Orc.f (oc 6 Orc.z)))))))))) (.b false) [] [] 1 (fun Lf=>True/\decide (0<=v)=true/\True/\decide (0<=v)=true/\decide (0<=v) =
 true/\decide (0<=v)=true/\decide (v<=1099511627776)=false/\decide (v<=1099511627776)=false/\decide (v<=1099511627776)=false/\decide (v<=1099511627776) =
 false/\decide (v<=1099511627776)=false/\Lf):=by unfold VD VQ;kernel_rfl
theorem rb4_vq (v:Int) (t:List Nat) (h0:decide (0<=v)=false):VD Try.prog 38 [.agg [.i .i64 v,.s t]] [] (Orc.f (Orc.f (Orc.f (Orc.f (oc 11 Orc.z))))) (.b false) []
 [] 1 (fun Lf=>True/\decide (0<=v)=false/\decide (0<=v)=false/\decide (0<=v)=false/\decide (0<=v)=false/\Lf):=by unfold VD VQ;kernel_rfl
theorem rb_con (v:Int) (t:List Nat):Con Try.prog 38 [.agg [.i .i64 v,.s t]] [] (.b (blB v t)) []:=by
 unfold blB wi
 cases h0:decide (0<=v) with
 | true=>
   cases h1:decide (v<=1099511627776) with
   | true=>
     cases h2:decide (Int.ofNat t.length<=38) with
     | true=>
       cases h3:decide (0<v) with
       | true=>
         exact con_d (rb0_vq (v:=v) (t:=t) (h0:=h0) (h1:=h1) (h2:=h2) (h3:=h3)) (by repeat' first | exact trivial | assumption | exact rfl | exact nT (by assumption) | exact nF (by assumption) | apply And.intro)
       | false=>
         exact con_d (rb1_vq (v:=v) (t:=t) (h0:=h0) (h1:=h1) (h2:=h2) (h3:=h3)) (by repeat' first | exact trivial | assumption | exact rfl | exact nT (by assumption) | exact nF (by assumption) | apply And.intro)
     | false=>
       exact con_d (rb2_vq (v:=v) (t:=t) (h0:=h0) (h1:=h1) (h2:=h2)) (by repeat' first | exact trivial | assumption | exact rfl | exact nT (by assumption) | exact nF (by assumption) | apply And.intro)
   | false=>
     exact con_d (rb3_vq (v:=v) (t:=t) (h0:=h0) (h1:=h1)) (by repeat' first | exact trivial | assumption | exact rfl | exact nT (by assumption) | exact nF (by assumption) | apply And.intro)
 | false=>
   exact con_d (rb4_vq (v:=v) (t:=t) (h0:=h0)) (by repeat' first | exact trivial | assumption | exact rfl | exact nT (by assumption) | exact nF (by assumption) | apply And.intro)
theorem im0_vq (w:Int->Int->Int->Bool) (k g l s d0 d1 d2 d3 i:Int) (h0:w g 0 1099511627776=true) (h1:decide (k=0)=true):VD Try.prog 40 [.agg [.i .i64 k,.i
 .i64 g,.i .i64 l,.i .i64 s,.i .i64 d0,.i .i64 d1,.i .i64 d2,.i .i64 d3,.i .i64 i]] [] (Orc.cal [] (.b (w g 0 1099511627776)) [] (Orc.f (Orc.t Orc.z))) (.b (decide (k =
 0) && (decide (g=g) && (decide (l=0) && (decide (s=0) && (decide (d0=0) && (decide (d1=0) && (decide (d2=0) && (decide (d3=0) && true))) && (decide (i=0) &&
 true))))))) [] [] 1 (fun Lf=>True/\Con Try.prog 51 [.i .i64 g,.i .i64 0,.i .i64 1099511627776] [] (.b (w g 0 1099511627776)) []/\True/\(!w g 0 1099511627776)=false/\
 True/\decide (k=0)=true/\True/\True/\Lf):=by unfold VD VQ;kernel_rfl
theorem im1_vq (w:Int->Int->Int->Bool) (ip:Int->Bool) (pm:Int->Int->Int->Int->Bool) (k g l s d0 d1 d2 d3 i:Int) (h0:w g 0 1099511627776=true) (h1:decide
 (k=0)=false) (h2:decide (k=1)=true) (h3:w l 1 9=true) (h4:w s 0 384=true) (h5:pm d0 d1 d2 d3=true):VD Try.prog 40 [.agg [.i .i64 k,.i .i64 g,.i .i64
 l,.i .i64 s,.i .i64 d0,.i .i64 d1,.i .i64 d2,.i .i64 d3,.i .i64 i]] [] (Orc.cal [] (.b (w g 0 1099511627776)) [] (Orc.f (Orc.f (Orc.t (Orc.cal [] (.b (w l 1 9)) []
 (Orc.t (Orc.t (Orc.t (Orc.cal [] (.b (w s 0 384)) [] (Orc.t (Orc.t (Orc.t (Orc.t (Orc.cal [0] (.b (pm d0 d1 d2 d3)) [.keep] (Orc.t (Orc.t (Orc.t (Orc.t (Orc.cal [] (.b (ip
 i)) [] (Orc.t Orc.z)))))))))))))))))))) (.b (ip i)) [] [] 1 (fun Lf=>True/\Con Try.prog 51 [.i .i64 g,.i .i64 0,.i .i64 1099511627776] [] (.b (w g 0 1099511627776)) []/\
 True/\(!w g 0 1099511627776)=false/\True/\decide (k=0)=false/\decide (k=1)=true/\True/\Con Try.prog 51 [.i .i64 l,.i .i64 1,.i .i64 9] [] (.b (w l 1 9)) []
 /\w l 1 9=true/\True/\w l 1 9=true/\w l 1 9=true/\Con Try.prog 51 [.i .i64 s,.i .i64 0,.i .i64 384] [] (.b (w s 0 384)) []/\w l 1 9=true/\w s 0 384=true/\
 True/\w s 0 384=true/\w s 0 384=true/\Con Try.prog 43 [.l 0 4 4 4 1 true] [some (cellsO 31 [.i .i64 k,.i .i64 g,.i .i64 l,.i .i64 s,.i .i64 d0,.i .i64 d1,.i .i64
 d2,.i .i64 d3,.i .i64 i])] (.b (pm d0 d1 d2 d3)) [.keep]/\w s 0 384=true/\pm d0 d1 d2 d3=true/\True/\pm d0 d1 d2 d3=true/\pm d0 d1 d2 d3=true/\Con Try.prog 75
 [.i .i64 i] [] (.b (ip i)) []/\pm d0 d1 d2 d3=true/\Lf):=by unfold VD VQ;kernel_rfl
theorem im2_vq (w:Int->Int->Int->Bool) (pm:Int->Int->Int->Int->Bool) (k g l s d0 d1 d2 d3 i:Int) (h0:w g 0 1099511627776=true) (h1:decide (k=0)=false)
 (h2:decide (k=1)=true) (h3:w l 1 9=true) (h4:w s 0 384=true) (h5:pm d0 d1 d2 d3=false):VD Try.prog 40 [.agg [.i .i64 k,.i .i64 g,.i .i64 l,.i .i64 s,
 .i .i64 d0,.i .i64 d1,.i .i64 d2,.i .i64 d3,.i .i64 i]] [] (Orc.cal [] (.b (w g 0 1099511627776)) [] (Orc.f (Orc.f (Orc.t (Orc.cal [] (.b (w l 1 9)) [] (Orc.t (Orc.t
 (Orc.t (Orc.cal [] (.b (w s 0 384)) [] (Orc.t (Orc.t (Orc.t (Orc.t (Orc.cal [0] (.b (pm d0 d1 d2 d3)) [.keep] (Orc.t (Orc.f (Orc.f (Orc.f (Orc.f Orc.z))))))))))))))))))) (.b
 false) [] [] 1 (fun Lf=>True/\Con Try.prog 51 [.i .i64 g,.i .i64 0,.i .i64 1099511627776] [] (.b (w g 0 1099511627776)) []/\True/\(!w g 0 1099511627776)=false/\True
 /\decide (k=0)=false/\decide (k=1)=true/\True/\Con Try.prog 51 [.i .i64 l,.i .i64 1,.i .i64 9] [] (.b (w l 1 9)) []/\w l 1 9=true/\True/\w l 1 9=true/\w
 l 1 9=true/\Con Try.prog 51 [.i .i64 s,.i .i64 0,.i .i64 384] [] (.b (w s 0 384)) []/\w l 1 9=true/\w s 0 384=true/\True/\w s 0 384=true/\w s 0 384=true/\
 Con Try.prog 43 [.l 0 4 4 4 1 true] [some (cellsO 31 [.i .i64 k,.i .i64 g,.i .i64 l,.i .i64 s,.i .i64 d0,.i .i64 d1,.i .i64 d2,.i .i64 d3,.i .i64 i])] (.b (pm d0 d1
 d2 d3)) [.keep]/\w s 0 384=true/\pm d0 d1 d2 d3=false/\pm d0 d1 d2 d3=false/\pm d0 d1 d2 d3=false/\pm d0 d1 d2 d3=false/\Lf):=by unfold VD VQ;kernel_rfl
theorem im3_vq (w:Int->Int->Int->Bool) (k g l s d0 d1 d2 d3 i:Int) (h0:w g 0 1099511627776=true) (h1:decide (k=0)=false) (h2:decide (k=1)=true) (h3:w l
 1 9=true) (h4:w s 0 384=false):VD Try.prog 40 [.agg [.i .i64 k,.i .i64 g,.i .i64 l,.i .i64 s,.i .i64 d0,.i .i64 d1,.i .i64 d2,.i .i64 d3,.i .i64 i]] []
 (Orc.cal [] (.b (w g 0 1099511627776)) [] (Orc.f (Orc.f (Orc.t (Orc.cal [] (.b (w l 1 9)) [] (Orc.t (Orc.t (Orc.t (Orc.cal [] (.b (w s 0 384)) [] (Orc.t (Orc.f (Orc.f (Orc.f
 (Orc.f (oc 4 Orc.z))))))))))))))) (.b false) [] [] 1 (fun Lf=>True/\Con Try.prog 51 [.i .i64 g,.i .i64 0,.i .i64 1099511627776] [] (.b (w g 0 1099511627776)) []/\True/\
 (!w g 0 1099511627776)=false/\True/\decide (k=0)=false/\decide (k=1)=true/\True/\Con Try.prog 51 [.i .i64 l,.i .i64 1,.i .i64 9] [] (.b (w l 1 9)) []/\w l 1
 9=true/\True/\w l 1 9=true/\w l 1 9=true/\Con Try.prog 51 [.i .i64 s,.i .i64 0,.i .i64 384] [] (.b (w s 0 384)) []/\w l 1 9=true/\w s 0 384=false/\w s 0
 384=false/\w s 0 384=false/\w s 0 384=false/\Lf):=by unfold VD VQ;kernel_rfl
theorem im4_vq (w:Int->Int->Int->Bool) (k g l s d0 d1 d2 d3 i:Int) (h0:w g 0 1099511627776=true) (h1:decide (k=0)=false) (h2:decide (k=1)=true) (h3:w l
 1 9=false):VD Try.prog 40 [.agg [.i .i64 k,.i .i64 g,.i .i64 l,.i .i64 s,.i .i64 d0,.i .i64 d1,.i .i64 d2,.i .i64 d3,.i .i64 i]] [] (Orc.cal [] (.b (w g 0
 1099511627776)) [] (Orc.f (Orc.f (Orc.t (Orc.cal [] (.b (w l 1 9)) [] (Orc.f (Orc.f (Orc.f (Orc.f (oc 8 Orc.z)))))))))) (.b false) [] [] 1 (fun Lf=>True/\Con Try.prog 51
 [.i .i64 g,.i .i64 0,.i .i64 1099511627776] [] (.b (w g 0 1099511627776)) []/\True/\(!w g 0 1099511627776)=false/\True/\decide (k=0)=false/\decide (k=1)=true
 /\True/\Con Try.prog 51 [.i .i64 l,.i .i64 1,.i .i64 9] [] (.b (w l 1 9)) []/\w l 1 9=false/\w l 1 9=false/\w l 1 9=false/\w l 1 9=false/\Lf)
 :=by unfold VD VQ;kernel_rfl
theorem im5_vq (w:Int->Int->Int->Bool) (ii:Int->Bool) (pm:Int->Int->Int->Int->Bool) (k g l s d0 d1 d2 d3 i:Int) (h0:w g 0 1099511627776=true) (h1:decide
 (k=0)=false) (h2:decide (k=1)=false) (h3:decide (k=2)=true) (h4:decide (l=1)=true) (h5:w s 0 128=true) (h6:pm d0 d1 d2 d3=true):VD Try.prog 40
 [.agg [.i .i64 k,.i .i64 g,.i .i64 l,.i .i64 s,.i .i64 d0,.i .i64 d1,.i .i64 d2,.i .i64 d3,.i .i64 i]] [] (Orc.cal [] (.b (w g 0 1099511627776)) [] (Orc.f (Orc.f
 (Orc.f (Orc.t (Orc.t (Orc.t (Orc.t (Orc.cal [] (.b (w s 0 128)) [] (Orc.t (Orc.t (Orc.t (Orc.t (Orc.cal [0] (.b (pm d0 d1 d2 d3)) [.keep] (Orc.t (Orc.t (Orc.t (Orc.t (Orc.cal
 [] (.b (ii i)) [] (Orc.t Orc.z)))))))))))))))))))) (.b (ii i)) [] [] 1 (fun Lf=>True/\Con Try.prog 51 [.i .i64 g,.i .i64 0,.i .i64 1099511627776] [] (.b (w g 0
 1099511627776)) []/\True/\(!w g 0 1099511627776)=false/\True/\decide (k=0)=false/\decide (k=1)=false/\decide (k=2)=true/\True/\decide (l=1)=true/\
 True/\decide (l=1)=true/\decide (l=1)=true/\Con Try.prog 51 [.i .i64 s,.i .i64 0,.i .i64 128] [] (.b (w s 0 128)) []/\decide (l=1)=true/\w s 0 128=true/\
 True/\w s 0 128=true/\w s 0 128=true/\Con Try.prog 43 [.l 0 4 4 4 1 true] [some (cellsO 31 [.i .i64 k,.i .i64 g,.i .i64 l,.i .i64 s,.i .i64 d0,.i .i64 d1,.i .i64
 d2,.i .i64 d3,.i .i64 i])] (.b (pm d0 d1 d2 d3)) [.keep]/\w s 0 128=true/\pm d0 d1 d2 d3=true/\True/\pm d0 d1 d2 d3=true/\pm d0 d1 d2 d3=true/\Con Try.prog 76
 [.i .i64 i] [] (.b (ii i)) []/\pm d0 d1 d2 d3=true/\Lf):=by unfold VD VQ;kernel_rfl
theorem im6_vq (w:Int->Int->Int->Bool) (pm:Int->Int->Int->Int->Bool) (k g l s d0 d1 d2 d3 i:Int) (h0:w g 0 1099511627776=true) (h1:decide (k=0)=false)
 (h2:decide (k=1)=false) (h3:decide (k=2)=true) (h4:decide (l=1)=true) (h5:w s 0 128=true) (h6:pm d0 d1 d2 d3=false):VD Try.prog 40 [.agg [.i .i64
 k,.i .i64 g,.i .i64 l,.i .i64 s,.i .i64 d0,.i .i64 d1,.i .i64 d2,.i .i64 d3,.i .i64 i]] [] (Orc.cal [] (.b (w g 0 1099511627776)) [] (Orc.f (Orc.f (Orc.f (Orc.t
 (Orc.t (Orc.t (Orc.t (Orc.cal [] (.b (w s 0 128)) [] (Orc.t (Orc.t (Orc.t (Orc.t (Orc.cal [0] (.b (pm d0 d1 d2 d3)) [.keep] (Orc.t (Orc.f (Orc.f (Orc.f (Orc.f
 Orc.z))))))))))))))))))) (.b false) [] [] 1 (fun Lf=>True/\Con Try.prog 51 [.i .i64 g,.i .i64 0,.i .i64 1099511627776] [] (.b (w g 0 1099511627776)) []/\True/\(!w g 0
 1099511627776)=false/\True/\decide (k=0)=false/\decide (k=1)=false/\decide (k=2)=true/\True/\decide (l=1)=true/\True/\decide (l=1)=true/\decide
 (l=1)=true/\Con Try.prog 51 [.i .i64 s,.i .i64 0,.i .i64 128] [] (.b (w s 0 128)) []/\decide (l=1)=true/\w s 0 128=true/\True/\w s 0 128=true/\w s 0 128 =
 true/\Con Try.prog 43 [.l 0 4 4 4 1 true] [some (cellsO 31 [.i .i64 k,.i .i64 g,.i .i64 l,.i .i64 s,.i .i64 d0,.i .i64 d1,.i .i64 d2,.i .i64 d3,.i .i64 i])] (.b (pm
 d0 d1 d2 d3)) [.keep]/\w s 0 128=true/\pm d0 d1 d2 d3=false/\pm d0 d1 d2 d3=false/\pm d0 d1 d2 d3=false/\pm d0 d1 d2 d3=false/\Lf)
 :=by unfold VD VQ;kernel_rfl
theorem im7_vq (w:Int->Int->Int->Bool) (k g l s d0 d1 d2 d3 i:Int) (h0:w g 0 1099511627776=true) (h1:decide (k=0)=false) (h2:decide (k=1)=false) (h3 :
 decide (k=2)=true) (h4:decide (l=1)=true) (h5:w s 0 128=false):VD Try.prog 40 [.agg [.i .i64 k,.i .i64 g,.i .i64 l,.i .i64 s,.i .i64 d0,.i .i64 d1,.i
 .i64 d2,.i .i64 d3,.i .i64 i]] [] (Orc.cal [] (.b (w g 0 1099511627776)) [] (Orc.f (Orc.f (Orc.f (Orc.t (Orc.t (Orc.t (Orc.t (Orc.cal [] (.b (w s 0 128)) [] (Orc.t (Orc.f
 (Orc.f (Orc.f (Orc.f (oc 4 Orc.z))))))))))))))) (.b false) [] [] 1 (fun Lf=>True/\Con Try.prog 51 [.i .i64 g,.i .i64 0,.i .i64 1099511627776] [] (.b (w g 0
 1099511627776)) []/\True/\(!w g 0 1099511627776)=false/\True/\decide (k=0)=false/\decide (k=1)=false/\decide (k=2)=true/\True/\decide (l=1)=true/\
 True/\decide (l=1)=true/\decide (l=1)=true/\Con Try.prog 51 [.i .i64 s,.i .i64 0,.i .i64 128] [] (.b (w s 0 128)) []/\decide (l=1)=true/\w s 0 128=false
 /\w s 0 128=false/\w s 0 128=false/\w s 0 128=false/\Lf):=by unfold VD VQ;kernel_rfl
theorem im8_vq (w:Int->Int->Int->Bool) (k g l s d0 d1 d2 d3 i:Int) (h0:w g 0 1099511627776=true) (h1:decide (k=0)=false) (h2:decide (k=1)=false) (h3 :
 decide (k=2)=true) (h4:decide (l=1)=false):VD Try.prog 40 [.agg [.i .i64 k,.i .i64 g,.i .i64 l,.i .i64 s,.i .i64 d0,.i .i64 d1,.i .i64 d2,.i .i64 d3,.i
 .i64 i]] [] (Orc.cal [] (.b (w g 0 1099511627776)) [] (Orc.f (Orc.f (Orc.f (Orc.t (Orc.f (Orc.f (Orc.f (Orc.f (oc 8 Orc.z)))))))))) (.b false) [] [] 1 (fun Lf=>True/\Con
 Try.prog 51 [.i .i64 g,.i .i64 0,.i .i64 1099511627776] [] (.b (w g 0 1099511627776)) []/\True/\(!w g 0 1099511627776)=false/\True/\decide (k=0)=false/\decide (k
 =1)=false/\decide (k=2)=true/\True/\decide (l=1)=false/\decide (l=1)=false/\decide (l=1)=false/\decide (l=1)=false/\Lf)
 :=by unfold VD VQ;kernel_rfl
theorem im9_vq (w:Int->Int->Int->Bool) (k g l s d0 d1 d2 d3 i:Int) (h0:w g 0 1099511627776=true) (h1:decide (k=0)=false) (h2:decide (k=1)=false) (h3 :
 decide (k=2)=false):VD Try.prog 40 [.agg [.i .i64 k,.i .i64 g,.i .i64 l,.i .i64 s,.i .i64 d0,.i .i64 d1,.i .i64 d2,.i .i64 d3,.i .i64 i]] [] (Orc.cal [] (.b (w
 g 0 1099511627776)) [] (Orc.f (Orc.f (Orc.f (Orc.f Orc.z))))) (.b false) [] [] 1 (fun Lf=>True/\Con Try.prog 51 [.i .i64 g,.i .i64 0,.i .i64 1099511627776] [] (.b (w g 0
 1099511627776)) []/\True/\(!w g 0 1099511627776)=false/\True/\decide (k=0)=false/\decide (k=1)=false/\decide (k=2)=false/\Lf)
 :=by unfold VD VQ;kernel_rfl
theorem im10_vq (w:Int->Int->Int->Bool) (k g l s d0 d1 d2 d3 i:Int) (h0:w g 0 1099511627776=false):VD Try.prog 40 [.agg [.i .i64 k,.i .i64 g,.i .i64 l,.i .i64
 s,.i .i64 d0,.i .i64 d1,.i .i64 d2,.i .i64 d3,.i .i64 i]] [] (Orc.cal [] (.b (w g 0 1099511627776)) [] (Orc.t Orc.z)) (.b false) [] [] 1 (fun Lf=>True/\Con Try.prog
 51 [.i .i64 g,.i .i64 0,.i .i64 1099511627776] [] (.b (w g 0 1099511627776)) []/\True/\(!w g 0 1099511627776)=true/\Lf):=by unfold VD VQ;kernel_rfl
theorem im_con (k g l s d0 d1 d2 d3 i:Int):Con Try.prog 40 [.agg [.i .i64 k,.i .i64 g,.i .i64 l,.i .i64 s,.i .i64 d0,.i .i64 d1,.i .i64 d2,.i .i64 d3,.i .i64 i]] [] (.b (inB k g l s d0 d1 d2 d3 i)) []:=by
 unfold inB
 cases h0:wi g 0 1099511627776 with
 | true=>
   cases h1:decide (k=0) with
   | true=>
     exact con_d (im0_vq (w:=wi) (k:=k) (g:=g) (l:=l) (s:=s) (d0:=d0) (d1:=d1) (d2:=d2) (d3:=d3) (i:=i) (h0:=h0) (h1:=h1)) (by repeat' first | exact trivial | assumption | exact rfl | exact nT (by assumption) | exact nF (by assumption) | exact w51_con _ _ _ | exact c75_con _ | exact c76_con _ | exact pm4_con _ _ _ _ _ _ _ _ _ | apply And.intro)
   | false=>
     cases h2:decide (k=1) with
     | true=>
       cases h3:wi l 1 9 with
       | true=>
         cases h4:wi s 0 384 with
         | true=>
           cases h5:pm4B d0 d1 d2 d3 with
           | true=>
             exact con_d (im1_vq (w:=wi) (ip:=ipB) (pm:=pm4B) (k:=k) (g:=g) (l:=l) (s:=s) (d0:=d0) (d1:=d1) (d2:=d2) (d3:=d3) (i:=i) (h0:=h0) (h1:=h1) (h2:=h2) (h3:=h3) (h4:=h4) (h5:=h5)) (by repeat' first | exact trivial | assumption | exact rfl | exact nT (by assumption) | exact nF (by assumption) | exact w51_con _ _ _ | exact c75_con _ | exact c76_con _ | exact pm4_con _ _ _ _ _ _ _ _ _ | apply And.intro)
           | false=>
             exact con_d (im2_vq (w:=wi) (pm:=pm4B) (k:=k) (g:=g) (l:=l) (s:=s) (d0:=d0) (d1:=d1) (d2:=d2) (d3:=d3) (i:=i) (h0:=h0) (h1:=h1) (h2:=h2) (h3:=h3) (h4:=h4) (h5:=h5)) (by repeat' first | exact trivial | assumption | exact rfl | exact nT (by assumption) | exact nF (by assumption) | exact w51_con _ _ _ | exact c75_con _ | exact c76_con _ | exact pm4_con _ _ _ _ _ _ _ _ _ | apply And.intro)
         | false=>
           exact con_d (im3_vq (w:=wi) (k:=k) (g:=g) (l:=l) (s:=s) (d0:=d0) (d1:=d1) (d2:=d2) (d3:=d3) (i:=i) (h0:=h0) (h1:=h1) (h2:=h2) (h3:=h3) (h4:=h4)) (by repeat' first | exact trivial | assumption | exact rfl | exact nT (by assumption) | exact nF (by assumption) | exact w51_con _ _ _ | exact c75_con _ | exact c76_con _ | exact pm4_con _ _ _ _ _ _ _ _ _ | apply And.intro)
       | false=>
         exact con_d (im4_vq (w:=wi) (k:=k) (g:=g) (l:=l) (s:=s) (d0:=d0) (d1:=d1) (d2:=d2) (d3:=d3) (i:=i) (h0:=h0) (h1:=h1) (h2:=h2) (h3:=h3)) (by repeat' first | exact trivial | assumption | exact rfl | exact nT (by assumption) | exact nF (by assumption) | exact w51_con _ _ _ | exact c75_con _ | exact c76_con _ | exact pm4_con _ _ _ _ _ _ _ _ _ | apply And.intro)
     | false=>
       cases h3:decide (k=2) with
       | true=>
         cases h4:decide (l=1) with
         | true=>
           cases h5:wi s 0 128 with
           | true=>
             cases h6:pm4B d0 d1 d2 d3 with
             | true=>
               exact con_d (im5_vq (w:=wi) (ii:=iiB) (pm:=pm4B) (k:=k) (g:=g) (l:=l) (s:=s) (d0:=d0) (d1:=d1) (d2:=d2) (d3:=d3) (i:=i) (h0:=h0) (h1:=h1) (h2:=h2) (h3:=h3) (h4:=h4) (h5:=h5) (h6:=h6)) (by repeat' first | exact trivial | assumption | exact rfl | exact nT (by assumption) | exact nF (by assumption) | exact w51_con _ _ _ | exact c75_con _ | exact c76_con _ | exact pm4_con _ _ _ _ _ _ _ _ _ | apply And.intro)
             | false=>
               exact con_d (im6_vq (w:=wi) (pm:=pm4B) (k:=k) (g:=g) (l:=l) (s:=s) (d0:=d0) (d1:=d1) (d2:=d2) (d3:=d3) (i:=i) (h0:=h0) (h1:=h1) (h2:=h2) (h3:=h3) (h4:=h4) (h5:=h5) (h6:=h6)) (by repeat' first | exact trivial | assumption | exact rfl | exact nT (by assumption) | exact nF (by assumption) | exact w51_con _ _ _ | exact c75_con _ | exact c76_con _ | exact pm4_con _ _ _ _ _ _ _ _ _ | apply And.intro)
           | false=>
             exact con_d (im7_vq (w:=wi) (k:=k) (g:=g) (l:=l) (s:=s) (d0:=d0) (d1:=d1) (d2:=d2) (d3:=d3) (i:=i) (h0:=h0) (h1:=h1) (h2:=h2) (h3:=h3) (h4:=h4) (h5:=h5)) (by repeat' first | exact trivial | assumption | exact rfl | exact nT (by assumption) | exact nF (by assumption) | exact w51_con _ _ _ | exact c75_con _ | exact c76_con _ | exact pm4_con _ _ _ _ _ _ _ _ _ | apply And.intro)
         | false=>
           exact con_d (im8_vq (w:=wi) (k:=k) (g:=g) (l:=l) (s:=s) (d0:=d0) (d1:=d1) (d2:=d2) (d3:=d3) (i:=i) (h0:=h0) (h1:=h1) (h2:=h2) (h3:=h3) (h4:=h4)) (by repeat' first | exact trivial | assumption | exact rfl | exact nT (by assumption) | exact nF (by assumption) | exact w51_con _ _ _ | exact c75_con _ | exact c76_con _ | exact pm4_con _ _ _ _ _ _ _ _ _ | apply And.intro)
       | false=>
         exact con_d (im9_vq (w:=wi) (k:=k) (g:=g) (l:=l) (s:=s) (d0:=d0) (d1:=d1) (d2:=d2) (d3:=d3) (i:=i) (h0:=h0) (h1:=h1) (h2:=h2) (h3:=h3)) (by repeat' first | exact trivial | assumption | exact rfl | exact nT (by assumption) | exact nF (by assumption) | exact w51_con _ _ _ | exact c75_con _ | exact c76_con _ | exact pm4_con _ _ _ _ _ _ _ _ _ | apply And.intro)
 | false=>
   exact con_d (im10_vq (w:=wi) (k:=k) (g:=g) (l:=l) (s:=s) (d0:=d0) (d1:=d1) (d2:=d2) (d3:=d3) (i:=i) (h0:=h0)) (by repeat' first | exact trivial | assumption | exact rfl | exact nT (by assumption) | exact nF (by assumption) | exact w51_con _ _ _ | exact c75_con _ | exact c76_con _ | exact pm4_con _ _ _ _ _ _ _ _ _ | apply And.intro)
theorem wb_con (k:Nat) (g:Nat->Nat) (hk:k<=1073741824):Con Try.prog 47 [.p 0 0] [some (wO k),some (shO 2 k),some (.rows 5 1 k (byF g))] (.sv 1 k (byF g)) [.keep,.keep,.gone]:=wby_con k (fun i=>Int.ofNat (g i)) hk
theorem foA_lq (L0:Nat) (B0:Nat->Nat) (n:Nat) (f:Nat->Nat) (h0:decide (0<Int.ofNat n)=true):LD Try.prog (loopAt Try.prog 37 0) 17 1 [(3,.p 0 0),(6,.sv 1 n
 fun i _=>.i .i64 (Int.ofNat (f i))),(7,.i .i64 (Int.ofNat n)),(8,.i .i64 0)] [some w0O] (Orc.t (Orc.cal [0] (.tup []) [.set (wO L0),.set (shO 2 L0),.set (AObj.rows 5
 1 L0 (byF B0))] Orc.z)) .nrm [0,1,2] [(3,.p 0 0),(6,.sv 1 n fun i _=>.i .i64 (Int.ofNat (f i))),(7,.i .i64 (Int.ofNat n)),(8,.i .i64 1)] [some (wO L0),some (shO 2
 L0),some (.rows 5 1 L0 (byF B0))] 3 (fun Lf=>decide (0<Int.ofNat n)=true/\((0:Int)<=(0:Int)/\(0:Int)<↑n)/\True/\Con Try.prog 46 [.p 0 0,.i .i64
 (Int.ofNat (f 0))] [some w0O] (.tup []) [.set (wO L0),.set (shO 2 L0),.set (AObj.rows 5 1 L0 (byF B0))]/\rg (1)/\Lf):=by unfold LD LQ;kernel_rfl
theorem foR_lq (KK:Nat) (HH:Nat->Nat) (n i k:Nat) (f g:Nat->Nat) (h0:decide (Int.ofNat i<Int.ofNat n)=true):LD Try.prog (loopAt Try.prog 37 0) 17 1 [(3,.p 0
 0),(6,.sv 1 n fun i _=>.i .i64 (Int.ofNat (f i))),(7,.i .i64 (Int.ofNat n)),(8,.i .i64 (Int.ofNat i))] [some (wO k),some (shO 2 k),some (.rows 5 1 k (byF g))]
 (Orc.t (Orc.cal [0,1,2] (.tup []) [.set (wO KK),.set (shO 3 KK),.gone,.set (AObj.rows 5 1 KK (byF HH))] Orc.z)) .nrm [0,1,3] [(3,.p 0 0),(6,.sv 1 n fun i _=>.i
 .i64 (Int.ofNat (f i))),(7,.i .i64 (Int.ofNat n)),(8,.i .i64 (Int.ofNat i+1))] [some (wO KK),some (shO 2 KK),some (.rows 5 1 KK (byF HH))] 4 (fun Lf=>decide
 (Int.ofNat i<Int.ofNat n)=true/\(0<=Int.ofNat i/\Int.ofNat i<↑n)/\True/\Con Try.prog 46 [.p 0 0,.i .i64 (Int.ofNat (f i))] [some (wO k),some (shO 2 k),some
 (AObj.rows 5 1 k (byF g))] (.tup []) [.set (wO KK),.set (shO 3 KK),.gone,.set (AObj.rows 5 1 KK (byF HH))]/\rg (Int.ofNat i+1)/\Lf):=by unfold LD LQ;kernel_rfl
theorem foE_lq (n i k:Nat) (f g:Nat->Nat) (h0:decide (Int.ofNat i<Int.ofNat n)=false):LD Try.prog (loopAt Try.prog 37 0) 17 1 [(3,.p 0 0),(6,.sv 1 n fun i _=>
 .i .i64 (Int.ofNat (f i))),(7,.i .i64 (Int.ofNat n)),(8,.i .i64 (Int.ofNat i))] [some (wO k),some (shO 2 k),some (.rows 5 1 k (byF g))] (Orc.f Orc.z) (.exit 0) [0,1,
 2] [(3,.p 0 0)] [some (wO k),some (shO 2 k),some (.rows 5 1 k (byF g))] 3 (fun Lf=>decide (Int.ofNat i<Int.ofNat n)=false/\Lf):=by unfold LD LQ;kernel_rfl
theorem fo0_vq (KK:Nat) (HH:Nat->Nat) (n:Nat) (f:Nat->Nat):VD Try.prog 37 [.sv 1 n fun i _=>.i .i64 (Int.ofNat (f i))] [] (Orc.lop [0] [3,6,7,8] 1 (XO.exit 0)
 [(3,.p 0 0)] [some (wO KK),some (shO 2 KK),some (AObj.rows 5 1 KK (byF HH))] (Orc.cal [0,1,2] (.sv 1 KK (byF HH)) [.keep,.keep,.gone] Orc.z)) (.s (bytesF KK (byF HH)))
 [] [] 3 (fun Lf=>LDoes Try.prog (loopAt Try.prog 37 0) 17 1 (mkT [(3,.p 0 0),(6,.sv 1 n fun i x=>CV.i .i64 (Int.ofNat (f i))),(7,.i .i64 (Int.ofNat n)),(8,.i .i64
 0)]) [some w0O] (XO.exit 0) (mkT [(3,.p 0 0)]) [some (wO KK),some (shO 2 KK),some (AObj.rows 5 1 KK (byF HH))]/\Con Try.prog 47 [.p 0 0] [some (wO KK),some (shO 2 KK),
 some (AObj.rows 5 1 KK (byF HH))] (.sv 1 KK (byF HH)) [.keep,.keep,.gone]/\U8s KK (byF HH)/\Lf):=by unfold VD VQ;kernel_rfl
theorem fo_con (n:Nat) (f:Nat->Nat) (KK:Nat) (HH:Nat->Nat) (hk:KK<=1073741824) (hu:U8s KK (byF HH)) (hl:LDoes Try.prog (loopAt Try.prog 37 0) 17 1 (mkT [(3,.p 0 0),(6,.sv 1 n fun i _=>.i .i64 (Int.ofNat (f i))),(7,.i .i64 (Int.ofNat n)),(8,.i .i64 0)]) [some w0O] (.exit 0) (mkT [(3,.p 0 0)]) [some (wO KK),some (shO 2 KK),some (.rows 5 1 KK (byF HH))]):Con Try.prog 37 [.sv 1 n fun i _=>.i .i64 (Int.ofNat (f i))] [] (.s (bytesF KK (byF HH))) []:=by
 exact con_d (fo0_vq (KK:=KK) (HH:=HH) (n:=n) (f:=f)) (by repeat' first | exact trivial | assumption | exact rfl | exact nT (by assumption) | exact nF (by assumption) | exact hl | exact wb_con _ _ hk | exact hu | apply And.intro)
theorem nuR_lq (n k:Nat) (g:Nat->Nat) (h0:decide (128<=Int.ofNat n)=true):LD Try.prog (loopAt Try.prog 39 0) 22 0 [(0,.i .i64 (Int.ofNat n)),(3,.lr 0 1 0 k
 false)] [some (.rows 5 1 k (byF g))] (Orc.t Orc.z) .nrm [2] [(0,.i .i64 (Int.tdiv (Int.ofNat n) 128)),(3,.lr 0 1 0 (addN k 1) false)] [some (.rows 5 1 (addN k 1) (appZ k
 (byF g) (listF 1 [.i .u8 (wrapA .u8 (Int.tmod (Int.ofNat n) 128+128))] 1)))] 3 (fun Lf=>decide (128<=Int.ofNat n)=true/\(128:Int)≠(0:Int)/\rg (Int.tmod
 (Int.ofNat n) (128:Int)+(128:Int))/\True/\(0+k<=k/\True/\k+1<=140737488355328/\(3*(k+1)+1536)*1<=562949953421312)/\((128:Int)≠(0:Int)/\
 (-9223372036854775808)<=Int.tdiv (Int.ofNat n) 128/\Int.tdiv (Int.ofNat n) (128:Int)<=(9223372036854775807:Int))/\Lf):=by unfold LD LQ;kernel_rfl
theorem nuE_lq (n k:Nat) (g:Nat->Nat) (h0:decide (128<=Int.ofNat n)=false):LD Try.prog (loopAt Try.prog 39 0) 22 0 [(0,.i .i64 (Int.ofNat n)),(3,.lr 0 1 0 k
 false)] [some (.rows 5 1 k (byF g))] (Orc.f Orc.z) (.exit 0) [0] [(0,.i .i64 (Int.ofNat n)),(3,.lr 0 1 0 k false)] [some (.rows 5 1 k (byF g))] 1 (fun Lf=>decide (128<=
 Int.ofNat n)=false/\Lf):=by unfold LD LQ;kernel_rfl
theorem nu0_fq (L0:Nat) (KK:Nat) (HH:Nat->Nat) (n:Nat) (hn:decide (Int.ofNat n<0)=false):VF Try.prog 39 [.i .i64 (Int.ofNat n)] [] (Orc.c (Orc.lop [] [0,3] 0
 (XO.exit 0) [(0,.i .i64 (Int.ofNat L0)),(3,.lr 0 1 0 KK false)] [some (AObj.rows 5 1 KK (byF HH))] Orc.z)) (.sv 1 (addN KK 1) (shiftF 0 (appZ KK (byF HH) (listF 1 [.i .u8
 (wrapA .u8 (Int.ofNat L0))] 1)))) [] [2] [] ((1=1/\0+addN KK 1<=addN KK 1)/\True) 3 (fun Lf=>LDoes Try.prog (loopAt Try.prog 39 0) 22 0 (mkT [(0,.i .i64 (Int.ofNat
 n)),(3,.l0)]) [] (XO.exit 0) (mkT [(0,.i .i64 (Int.ofNat L0)),(3,.lr 0 1 0 KK false)]) [some (AObj.rows 5 1 KK (byF HH))]/\True/\(0+KK<=KK/\True/\KK+1<=
 140737488355328/\(3*(KK+1)+1536)*1<=562949953421312)/\Lf):=by unfold VF;kernel_rfl
theorem nu_con (n:Nat) (hn:decide (Int.ofNat n<0)=false) (L0 KK:Nat) (HH:Nat->Nat) (hz:0+KK<=KK) (hz2:KK+1<=140737488355328) (hz3:(3*(KK+1)+1536)*1<=562949953421312) (hl:LDoes Try.prog (loopAt Try.prog 39 0) 22 0 (mkT [(0,.i .i64 (Int.ofNat n)),(3,.l0)]) [] (.exit 0) (mkT [(0,.i .i64 (Int.ofNat L0)),(3,.lr 0 1 0 KK false)]) [some (.rows 5 1 KK (byF HH))]):Con Try.prog 39 [.i .i64 (Int.ofNat n)] [] (.sv 1 (addN KK 1) (shiftF 0 (appZ KK (byF HH) (listF 1 [.i .u8 (wrapA .u8 (Int.ofNat L0))] 1)))) []:=by
 exact con_f (nu0_fq (L0:=L0) (KK:=KK) (HH:=HH) (n:=n) (hn:=hn)) ⟨⟨rfl,by simp⟩,trivial⟩ (by repeat' first | exact trivial | assumption | exact rfl | exact nT (by assumption) | exact nF (by assumption) | exact hl | exact hz | exact hz2 | exact hz3 | apply And.intro)
def fNf:Nat->Nat->List Nat
 | 0,n=>[n]
 | f+1,n=>match Nat.blt n 128 with
   | true=>[n]
   | false=>(n % 128+128) :: fNf f (n / 128)
def fN (n:Nat):List Nat:=fNf 10 n
theorem fNf_len:∀f n,(fNf f n).length=mRf f n+1
 | 0,n=>rfl
 | f+1,n=>by
   show List.length (match Nat.blt n 128 with | true=>[n] | false=>(n % 128+128) :: fNf f (n / 128))=(match Nat.blt n 128 with | true=>0 | false=>mRf f (n / 128)+1)+1
   cases Nat.blt n 128 with
   | true=>rfl
   | false=>show (fNf f (n / 128)).length+1= _;rw [fNf_len f (n / 128)]
theorem fNf_get:∀f n i,i<=mRf f n->(fNf f n).getD i 0=bif Nat.blt i (mRf f n) then n / 128 ^ i % 128+128 else n / 128 ^ mRf f n
 | 0,n,i,h=>by
   obtain rfl:i=0:=Nat.le_zero.1 h
   show n=n / 1;omega
 | f+1,n,i,h=>by
   cases e:Nat.blt n 128 with
   | true=>
     have e1:fNf (f+1) n=[n]:=by show (match Nat.blt n 128 with | true=>[n] | false=>_)= _;rw [e]
     have e2:mRf (f+1) n=0:=by show (match Nat.blt n 128 with | true=>0 | false=>_)= _;rw [e]
     rw [e2] at h⊢;rw [e1]
     obtain rfl:i=0:=Nat.le_zero.1 h
     show n=n / 1;omega
   | false=>
     have e1:fNf (f+1) n=(n % 128+128) :: fNf f (n / 128):=by show (match Nat.blt n 128 with | true=>[n] | false=>(n % 128+128) :: fNf f (n / 128))= _;rw [e]
     have e2:mRf (f+1) n=mRf f (n / 128)+1:=by show (match Nat.blt n 128 with | true=>0 | false=>mRf f (n / 128)+1)= _;rw [e]
     rw [e2] at h⊢;rw [e1]
     cases i with
     | zero=>
       rw [show Nat.blt 0 (mRf f (n / 128)+1)=true by rw [Nat.blt_eq];omega]
       show n % 128+128=n / 1 % 128+128;omega
     | succ i=>
       have:=fNf_get f (n / 128) i (by omega)
       show (fNf f (n / 128)).getD i 0= _
       rw [this,show Nat.blt (i+1) (mRf f (n / 128)+1)=Nat.blt i (mRf f (n / 128)) by rw [Bool.eq_iff_iff,Nat.blt_eq,Nat.blt_eq];omega]
       rw [Nat.div_div_eq_div_mul,Nat.div_div_eq_div_mul,show 128*128 ^ i=128 ^ (i+1) by rw [Nat.pow_succ,Nat.mul_comm],show 128*128 ^ mRf f (n / 128)=128 ^ (mRf f (n / 128)+1) by rw [Nat.pow_succ,Nat.mul_comm]]
theorem fN_len (n:Nat):(fN n).length=wl n:=fNf_len 10 n
theorem fN_get {n i:Nat} (h:i<wl n):Int.ofNat ((fN n).getD i 0)=wB n i:=by
 unfold wl mR at h
 show Int.ofNat ((fNf 10 n).getD i 0)= _
 rw [fNf_get 10 n i (by omega)]
 unfold wB
 show _=bif Nat.blt i (mRf 10 n) then chN (n / 128 ^ i) else Int.ofNat (n / 128 ^ mRf 10 n)
 cases Nat.blt i (mRf 10 n) with
 | true=>exact (chN_eq _).symm
 | false=>rfl
def Byt (l:List Nat):Prop:=∀x∈l,x<256
theorem fNf_byt:∀f n,n<128 ^ (f+1)->Byt (fNf f n)
 | 0,n,h,x,hx=>by
   have:x=n:=by simpa [fNf] using hx
   have h:n<128:=by simpa using h
   omega
 | f+1,n,h,x,hx=>by
   have hx:x∈(match Nat.blt n 128 with | true=>[n] | false=>(n % 128+128) :: fNf f (n / 128)):=hx
   cases e:Nat.blt n 128 with
   | true=>
     rw [e] at hx
     rw [Nat.blt_eq] at e
     have:x=n:=by simpa using hx
     omega
   | false=>
     rw [e] at hx
     rcases List.mem_cons.1 hx with rfl | q
     · omega
     · refine fNf_byt f (n / 128) ?_ x q
       rw [Nat.div_lt_iff_lt_mul (by decide)]
       rwa [<-Nat.pow_succ]
theorem fN_byt {n:Nat} (h:n<9223372036854775808):Byt (fN n):=fNf_byt 10 n (Nat.lt_of_lt_of_le h (by decide))
theorem Byt.app {a b:List Nat} (h:Byt a) (k:Byt b):Byt (a ++ b):=fun x hx=>(List.mem_append.1 hx).elim (h x) (k x)
theorem Byt.nil:Byt []:=fun x hx=>by simp at hx
theorem fN_le {n:Nat} (h:n<9223372036854775808):(fN n).length<=11:=by rw [fN_len];exact wl_le h
theorem bts_eq {t:List Nat} (h:Byt t):bytesF t.length (byF (tB t))=t:=bytesF_eq rfl h fun i hi=>rfl
theorem u8_of (t:List Nat):U8s t.length (byF (tB t)):=iF_u8 (g:=fun i=>Int.ofNat (tB t i)) fun i=>⟨_,rfl⟩
theorem tB_lo {a b:List Nat} {i:Nat} (h:i<a.length):tB (a ++ b) i=tB a i:=by
 unfold tB;rw [List.getD_eq_getElem?_getD,List.getElem?_append_left h,<-List.getD_eq_getElem?_getD]
theorem tB_hi {a b:List Nat} {i:Nat} (h:a.length<=i):tB (a ++ b) i=tB b (i-a.length):=by
 unfold tB;rw [List.getD_eq_getElem?_getD,List.getElem?_append_right h,<-List.getD_eq_getElem?_getD]
theorem wnF_con (n:Nat) (hn:n<9223372036854775808):Con Try.prog 46 [.p 0 0,.i .i64 (Int.ofNat n)] [some w0O] (.tup []) [.set (wO (fN n).length),.set (shO 2 (fN n).length),.set (.rows 5 1 (fN n).length (byF (tB (fN n))))]:=by
 rw [fN_len]
 exact (wnum0_con n hn).post (.refl _) ⟨.refl _,.refl _,.rowsW fun i j hi hj=>.of (by
  show CV.i .u8 (wB n i)=CV.i .u8 (Int.ofNat ((fN n).getD i 0));rw [fN_get hi]),trivial⟩
theorem wnG_con (bs:List Nat) (n:Nat) (hn:n<9223372036854775808) (hk:bs.length<=1073741000):Con Try.prog 46 [.p 0 0,.i .i64 (Int.ofNat n)] [some (wO bs.length),some (shO 2 bs.length),some (.rows 5 1 bs.length (byF (tB bs)))] (.tup []) [.set (wO (bs ++ fN n).length),.set (shO 3 (bs ++ fN n).length),.gone,.set (.rows 5 1 (bs ++ fN n).length (byF (tB (bs ++ fN n))))]:=by
 rw [List.length_append,fN_len]
 exact (wnumR_con n bs.length (fun i=>Int.ofNat (tB bs i)) hn hk).post (.refl _) ⟨.refl _,.refl _,.refl _,.rowsW fun i j hi hj=>.of (by
  show CV.i .u8 (wG (fun i=>Int.ofNat (tB bs i)) bs.length n i)=CV.i .u8 (Int.ofNat (tB (bs ++ fN n) i))
  rcases Nat.lt_or_ge i bs.length with q | q
  · rw [wG_left q,tB_lo q]
  · obtain ⟨m,rfl⟩:∃m,i=bs.length+m:=⟨i-bs.length,by omega⟩
    rw [wG_right,tB_hi q,Nat.add_sub_cancel_left]
    unfold tB;rw [fN_get (by omega)]),trivial⟩
def fmP (f:Nat->Nat):Nat->List Nat
 | 0=>[]
 | i+1=>fmP f i ++ fN (f i)
theorem fmP_le {f:Nat->Nat}:∀{n:Nat},(∀i,i<n->f i<9223372036854775808)->(fmP f n).length<=11*n
 | 0,_=>Nat.le_refl _
 | n+1,h=>by
   show (fmP f n ++ fN (f n)).length<=_
   rw [List.length_append]
   have:=fmP_le (f:=f) (n:=n) fun i hi=>h i (by omega)
   have:=fN_le (h n (by omega))
   omega
theorem fmP_byt {f:Nat->Nat}:∀{n:Nat},(∀i,i<n->f i<9223372036854775808)->Byt (fmP f n)
 | 0,_=>Byt.nil
 | n+1,h=>(fmP_byt fun i hi=>h i (by omega)).app (fN_byt (h n (by omega)))
noncomputable def foI (n:Nat) (f:Nat->Nat):Nat->List (Nat×AV)×List (Option AObj)
 | 0=>([(3,.p 0 0),(6,.sv 1 n fun i _=>.i .i64 (Int.ofNat (f i))),(7,.i .i64 (Int.ofNat n)),(8,.i .i64 0)],[some w0O])
 | i+1=>([(3,.p 0 0),(6,.sv 1 n fun i _=>.i .i64 (Int.ofNat (f i))),(7,.i .i64 (Int.ofNat n)),(8,.i .i64 (Int.ofNat (i+1)))],[some (wO (fmP f (i+1)).length),some (shO 2 (fmP f (i+1)).length),some (.rows 5 1 (fmP f (i+1)).length (byF (tB (fmP f (i+1)))))])
theorem fo_lp (n:Nat) (f:Nat->Nat) (h0:0<n) (hn:n<=1000) (hf:∀i,i<n->f i<9223372036854775808):LDoes Try.prog (loopAt Try.prog 37 0) 17 1 (mkT [(3,.p 0 0),(6,.sv 1 n fun i _=>.i .i64 (Int.ofNat (f i))),(7,.i .i64 (Int.ofNat n)),(8,.i .i64 0)]) [some w0O] (.exit 0) (mkT [(3,.p 0 0)]) [some (wO (fmP f n).length),some (shO 2 (fmP f n).length),some (.rows 5 1 (fmP f n).length (byF (tB (fmP f n))))]:=by
 refine loop_q (foI n f) (fun i=>n-i) (fun i=>i<=n) (fun i=>by cases i<;>simp [foI]) ?_ 0 (Nat.zero_le _)
 intro i hi
 cases i with
 | zero=>
   have h1:decide ((0:Int)<Int.ofNat n)=true:=decide_eq_true (by simp;omega)
   exact rd_nrm (foA_lq (fN (f 0)).length (tB (fN (f 0))) n f h1) ⟨h1,⟨by simp,by simp;omega⟩,trivial,wnF_con _ (hf 0 h0),by decide,rfl⟩ 1 h0 (by show n-1<n-0;omega) rfl (.refl _) (.refl _)
 | succ i=>
   have hle:=fmP_le (f:=f) (n:=i+1) fun j hj=>hf j (by omega)
   rcases Nat.lt_or_ge (i+1) n with hlt | q
   · have h1:decide (Int.ofNat (i+1)<Int.ofNat n)=true:=decide_eq_true (by simp;omega)
     exact rd_nrm (foR_lq (fmP f (i+2)).length (tB (fmP f (i+2))) n (i+1) (fmP f (i+1)).length f (tB (fmP f (i+1))) h1) ⟨h1,⟨by simp<;>omega,by simp;omega⟩,trivial,wnG_con _ _ (hf _ hlt) (by omega),⟨by simp<;>omega,by simp<;>omega⟩,rfl⟩ (i+2) hlt (by show n-(i+2)<n-(i+1);omega) rfl (.refl _) (.refl _)
   · obtain rfl:i+1=n:=Nat.le_antisymm hi q
     have h1:decide (Int.ofNat (i+1)<Int.ofNat (i+1))=false:=decide_eq_false (by simp)
     exact rd_out (foE_lq (i+1) (i+1) (fmP f (i+1)).length f (tB (fmP f (i+1))) h1) ⟨h1,rfl⟩ rfl rfl (.refl _) (.refl _)
theorem forms_con (n:Nat) (f:Nat->Nat) (h0:0<n) (hn:n<=1000) (hf:∀i,i<n->f i<9223372036854775808):Con Try.prog 37 [.sv 1 n fun i _=>.i .i64 (Int.ofNat (f i))] [] (.s (fmP f n)) []:=by
 have hle:=fmP_le hf
 have h:=fo_con n f (fmP f n).length (tB (fmP f n)) (by omega) (u8_of _) (fo_lp n f h0 hn hf)
 rwa [bts_eq (fmP_byt hf)] at h
theorem nu_lp (n:Nat) (hn:n<9223372036854775808):LDoes Try.prog (loopAt Try.prog 39 0) 22 0 (mkT [(0,.i .i64 (Int.ofNat n)),(3,.l0)]) [] (.exit 0) (mkT [(0,.i .i64 (Int.ofNat (lst n))),(3,.lr 0 1 0 (mR n) false)]) [some (.rows 5 1 (mR n) (byF (tB (fN n))))]:=by
 obtain ⟨m10,mge,mlt⟩:=mR_ok hn
 have key:=loop_q (P:=Try.prog) (c:=loopAt Try.prog 39 0) (n:=22) (b:=0) (x:=.exit 0) (l':=[(0,.i .i64 (Int.ofNat (lst n))),(3,.lr 0 1 0 (mR n) false)]) (objs':=[some (.rows 5 1 (mR n) (byF (tB (fN n))))]) (D:=Nat)
  (fun j:Nat=>([(0,.i .i64 (Int.ofNat (n / 128 ^ j))),(3,.lr 0 1 0 j false)],[some (.rows 5 1 j (byF (tB (fN n))))])) (fun j=>mR n-j) (fun j=>j<=mR n) (fun _=>Nat.zero_le _) ?_ 0 (Nat.zero_le _)
 · refine key.weak ⟨rfl,.inl ?_,rfl,.inr ⟨rfl,.inl ⟨0,1,0,false,rfl⟩⟩,trivial⟩ ?_
   · rw [Nat.pow_zero,Nat.div_one]
   intro o ho
   simp at ho;subst ho
   exact ⟨_,rfl,rfl⟩
 intro j hj
 rcases Nat.lt_or_ge j (mR n) with q | q
 · have h1:decide ((128:Int)<=Int.ofNat (n / 128 ^ j))=true:=decide_eq_true (Int.ofNat_le.2 (mge j q))
   have hd:n / 128 ^ j<9223372036854775808:=Nat.lt_of_le_of_lt (Nat.div_le_self _ _) hn
   have e1:Int.tmod (Int.ofNat (n / 128 ^ j)) 128=Int.ofNat (n / 128 ^ j % 128):=rfl
   have e2:Int.tdiv (Int.ofNat (n / 128 ^ j)) 128=Int.ofNat (n / 128 ^ (j+1)):=by rw [<-div_s];rfl
   have hm:n / 128 ^ j % 128<128:=Nat.mod_lt _ (by decide)
   refine rd_nrm (nuR_lq (n / 128 ^ j) j (tB (fN n)) h1) ⟨h1,by decide,?_,trivial,⟨by omega,trivial,by omega,by omega⟩,⟨by decide,?_,?_⟩,rfl⟩ (j+1) q (by show mR n-(j+1)<mR n-j;omega) rfl ?_ ?_
   · rw [e1];exact ⟨by simp<;>omega,by simp<;>omega⟩
   · rw [e2];generalize n / 128 ^ (j+1)=m;simp<;>omega
   · rw [e2]
     have:n / 128 ^ (j+1)<=n:=Nat.div_le_self _ _
     generalize n / 128 ^ (j+1)=m at this⊢
     simp<;>omega
   · rw [addN_eq,e2];exact .refl _
   · refine ⟨?_,trivial⟩
     rw [addN_eq]
     refine .rowsW fun i z hi hz=>.of ?_
     obtain rfl:z=0:=by omega
     have e3:wrapA .u8 (Int.tmod (Int.ofNat (n / 128 ^ j)) 128+128)=Int.ofNat (n / 128 ^ j % 128+128):=by
      rw [e1];exact u8_lo (n:=n / 128 ^ j % 128+128) (by omega)
     rw [e3,appZ_i (f:=byF (tB (fN n))) (g:=listF 1 [.i .u8 (Int.ofNat (n / 128 ^ j % 128+128))] 1) (n:=j) (i:=i) (j:=0) (k:=.u8) (a:=Int.ofNat (tB (fN n) i)) (b:=Int.ofNat (n / 128 ^ j % 128+128)) rfl rfl]
     show CV.i .u8 _=CV.i .u8 (Int.ofNat (tB (fN n) i))
     split
     · rfl
     · obtain rfl:i=j:=by omega
       have:=fN_get (n:=n) (i:=i) (by unfold wl;omega)
       unfold tB
       rw [this];unfold wB
       rw [show Nat.blt i (mR n)=true by rw [Nat.blt_eq];exact q,cond_true,chN_eq]
 · obtain rfl:j=mR n:=Nat.le_antisymm hj q
   have h1:decide ((128:Int)<=Int.ofNat (n / 128 ^ mR n))=false:=Bool.eq_false_iff.2 (fun q=>by have:=le_dec q;omega)
   exact rd_out (nuE_lq (n / 128 ^ mR n) (mR n) (tB (fN n)) h1) ⟨h1,rfl⟩ rfl rfl (.refl _) (.refl _)
theorem shiftF_0 (f:Nat->Nat->CV):shiftF 0 f=f:=rfl
theorem rnum_con (n:Nat) (hn:n<9223372036854775808):Con Try.prog 39 [.i .i64 (Int.ofNat n)] [] (.sv 1 (fN n).length (byF (tB (fN n)))) []:=by
 obtain ⟨m10,mge,mlt⟩:=mR_ok hn
 have h:=nu_con n (decide_eq_false (by simp)) (lst n) (mR n) (tB (fN n)) (by omega) (by omega) (by omega) (nu_lp n hn)
 rw [addN_eq] at h
 rw [fN_len]
 refine h.post (.svW fun i z hi hz=>.of ?_) trivial
 obtain rfl:z=0:=by omega
 rw [shiftF_0,u8_lo (show lst n<256 by unfold lst;omega),appZ_i (f:=byF (tB (fN n))) (g:=listF 1 [.i .u8 (Int.ofNat (lst n))] 1) (n:=mR n) (i:=i) (j:=0) (k:=.u8) (a:=Int.ofNat (tB (fN n) i)) (b:=Int.ofNat (lst n)) rfl rfl]
 show CV.i .u8 _=CV.i .u8 (Int.ofNat (tB (fN n) i))
 split
 · rfl
 · obtain rfl:i=mR n:=by omega
   have:=fN_get (n:=n) (i:=mR n) (by unfold wl;omega)
   unfold tB
   rw [this];unfold wB
   rw [show Nat.blt (mR n) (mR n)=false by rw [Bool.eq_false_iff,ne_eq,Nat.blt_eq];omega,cond_false]
theorem VR_s {t:List Nat} (ρ ρ':Rho) (x:Value) (h:VR ρ (.s t) x):VR ρ' (.s t) x:=by cases h;exact .s _ _ (by assumption)
def rwI (v:Int):Prop:=0<=v/\v<9223372036854775808
def fm:List Nat->List Nat
 | []=>[]
 | a :: l=>fN a ++ fm l
theorem fm_app:∀(a b:List Nat),fm (a ++ b)=fm a ++ fm b
 | [],b=>rfl
 | x :: a,b=>by show fN x ++ fm (a ++ b)=(fN x ++ fm a) ++ fm b;rw [fm_app a b,List.append_assoc]
theorem fmP_eq (l:List Nat):∀n,n<=l.length->fmP (fun i=>l.getD i 0) n=fm (l.take n)
 | 0,_=>by simp [fmP,fm]
 | n+1,h=>by
   have e:l.take (n+1)=l.take n ++ [l.getD n 0]:=by
    rw [List.take_add_one,List.getD_eq_getElem?_getD,List.getElem?_eq_getElem (show n<l.length by omega)];rfl
   show fmP (fun i=>l.getD i 0) n ++ fN (l.getD n 0)= _
   rw [fmP_eq l n (by omega),e,fm_app]
   show _= _ ++ (fN (l.getD n 0) ++ []);rw [List.append_nil]
def fI (l:List Int):List Nat:=fm (l.map Int.toNat)
theorem fI_app (a b:List Int):fI a ++ fI b=fI (a ++ b):=by unfold fI;rw [List.map_append,fm_app]
theorem nat_of {v:Int} (h:rwI v):Int.ofNat v.toNat=v:=by unfold rwI at h;simp<;>omega
theorem isv_of (l:List Int) (h:∀v∈l,rwI v) (i:Nat) (hi:i<l.length):CV.i .i64 (l.getD i 0)=CV.i .i64 (Int.ofNat ((l.map Int.toNat).getD i 0)):=by
 rw [List.getD_eq_getElem?_getD,List.getD_eq_getElem?_getD,List.getElem?_map,List.getElem?_eq_getElem hi]
 show CV.i .i64 l[i]=CV.i .i64 (Int.ofNat l[i].toNat)
 rw [nat_of (h _ (List.getElem_mem hi))]
theorem fsv_con (l:List Int) (h0:0<l.length) (hl:l.length<=1000) (h:∀v∈l,rwI v):Con Try.prog 37 [.sv 1 l.length fun i _=>.i .i64 (l.getD i 0)] [] (.s (fI l)) []:=by
 have hf:∀i,i<l.length->(l.map Int.toNat).getD i 0<9223372036854775808:=fun i hi=>by
  rw [List.getD_eq_getElem?_getD,List.getElem?_map,List.getElem?_eq_getElem hi]
  have:=h _ (List.getElem_mem hi)
  unfold rwI at this
  show l[i].toNat<_
  omega
 have k:=(forms_con l.length (fun i=>(l.map Int.toNat).getD i 0) h0 hl hf).pre (pargs':=[.sv 1 l.length fun i _=>.i .i64 (l.getD i 0)]) ⟨.sv fun i j hi hj=>isv_of l h i hi,trivial⟩
 rw [show l.length=(l.map Int.toNat).length by simp] at k
 rw [fmP_eq (l.map Int.toNat) _ (Nat.le_refl _),List.take_length] at k
 rwa [show (l.map Int.toNat).length=l.length by simp] at k
theorem f1_con (a:Int) (ha:rwI a):Con Try.prog 37 [.l 0 0 1 1 1 true] [some (cellsO 3 [.i .i64 a])] (.s (fI [a])) [.keep]:=
 ((fsv_con [a] (by simp) (by simp) (by intro v hv;simp at hv;rcases hv with rfl<;>assumption)).pre (pargs':=[.sv 1 1 (listF 1 [.i .i64 a] 1)]) ⟨by
   refine .sv fun i j hi hj=>?_
   obtain rfl:j=0:=by omega
   have hi:i<1:=hi
   rcases i with _ | i<;>first | rfl | omega,trivial⟩).borrow (pargs0:=[.l 0 0 1 1 1 true]) (objs:=[some (cellsO 3 [.i .i64 a])]) [0] (frzP 0 (.cells 1 [.i .i64 a]) (.tup [.l 0 0 1 1 1 true])/\True) (by kernel_rfl) (by kernel_rfl) (by kernel_rfl) ⟨by simp [frzP,frzsP],trivial⟩ (by kernel_rfl) (by kernel_rfl) VR_s
theorem f2_con (a b:Int) (ha:rwI a) (hb:rwI b):Con Try.prog 37 [.l 0 0 2 2 1 true] [some (cellsO 3 [.i .i64 a,.i .i64 b])] (.s (fI [a,b])) [.keep]:=
 ((fsv_con [a,b] (by simp) (by simp) (by intro v hv;simp at hv;rcases hv with rfl | rfl<;>assumption)).pre (pargs':=[.sv 1 2 (listF 1 [.i .i64 a,.i .i64 b] 2)]) ⟨by
   refine .sv fun i j hi hj=>?_
   obtain rfl:j=0:=by omega
   have hi:i<2:=hi
   rcases i with _ | _ | i<;>first | rfl | omega,trivial⟩).borrow (pargs0:=[.l 0 0 2 2 1 true]) (objs:=[some (cellsO 3 [.i .i64 a,.i .i64 b])]) [0] (frzP 0 (.cells 2 [.i .i64 a,.i .i64 b]) (.tup [.l 0 0 2 2 1 true])/\True) (by kernel_rfl) (by kernel_rfl) (by kernel_rfl) ⟨by simp [frzP,frzsP],trivial⟩ (by kernel_rfl) (by kernel_rfl) VR_s
theorem f4_con (a b c d:Int) (ha:rwI a) (hb:rwI b) (hc:rwI c) (hd:rwI d):Con Try.prog 37 [.l 0 0 4 4 1 true] [some (cellsO 3 [.i .i64 a,.i .i64 b,.i .i64 c,.i .i64 d])] (.s (fI [a,b,c,d])) [.keep]:=
 ((fsv_con [a,b,c,d] (by simp) (by simp) (by intro v hv;simp at hv;rcases hv with rfl | rfl | rfl | rfl<;>assumption)).pre (pargs':=[.sv 1 4 (listF 1 [.i .i64 a,.i .i64 b,.i .i64 c,.i .i64 d] 4)]) ⟨by
   refine .sv fun i j hi hj=>?_
   obtain rfl:j=0:=by omega
   have hi:i<4:=hi
   rcases i with _ | _ | _ | _ | i<;>first | rfl | omega,trivial⟩).borrow (pargs0:=[.l 0 0 4 4 1 true]) (objs:=[some (cellsO 3 [.i .i64 a,.i .i64 b,.i .i64 c,.i .i64 d])]) [0] (frzP 0 (.cells 4 [.i .i64 a,.i .i64 b,.i .i64 c,.i .i64 d]) (.tup [.l 0 0 4 4 1 true])/\True) (by kernel_rfl) (by kernel_rfl) (by kernel_rfl) ⟨by simp [frzP,frzsP],trivial⟩ (by kernel_rfl) (by kernel_rfl) VR_s
theorem fd_con (k g l s d0 d1 d2 d3 i:Int) (hd0:rwI d0) (hd1:rwI d1) (hd2:rwI d2) (hd3:rwI d3):Con Try.prog 37 [.l 0 4 4 4 1 true] [some (cellsO 31 [.i .i64 k,.i .i64 g,.i .i64 l,.i .i64 s,.i .i64 d0,.i .i64 d1,.i .i64 d2,.i .i64 d3,.i .i64 i])] (.s (fI [d0,d1,d2,d3])) [.keep]:=
 ((fsv_con [d0,d1,d2,d3] (by simp) (by simp) (by intro v hv;simp at hv;rcases hv with rfl | rfl | rfl | rfl<;>assumption)).pre (pargs':=[.sv 1 4 (listF 1 [.i .i64 d0,.i .i64 d1,.i .i64 d2,.i .i64 d3,.i .i64 i] 4)]) ⟨by
   refine .sv fun i j hi hj=>?_
   obtain rfl:j=0:=by omega
   have hi:i<4:=hi
   rcases i with _ | _ | _ | _ | i<;>first | rfl | omega,trivial⟩).borrow (pargs0:=[.l 0 4 4 4 1 true]) (objs:=[some (cellsO 31 [.i .i64 k,.i .i64 g,.i .i64 l,.i .i64 s,.i .i64 d0,.i .i64 d1,.i .i64 d2,.i .i64 d3,.i .i64 i])]) [0] (frzP 0 (.cells 9 [.i .i64 k,.i .i64 g,.i .i64 l,.i .i64 s,.i .i64 d0,.i .i64 d1,.i .i64 d2,.i .i64 d3,.i .i64 i]) (.tup [.l 0 4 4 4 1 true])/\True) (by kernel_rfl) (by kernel_rfl) (by kernel_rfl) ⟨by simp [frzP,frzsP],trivial⟩ (by kernel_rfl) (by kernel_rfl) VR_s
theorem f8_con (p0 p1 p2 p3 p4 p5 p6 p7:Int) (hp0:rwI p0) (hp1:rwI p1) (hp2:rwI p2) (hp3:rwI p3) (hp4:rwI p4) (hp5:rwI p5) (hp6:rwI p6) (hp7:rwI p7):Con Try.prog 37 [.l 0 0 8 8 1 true] [some (cellsO 32 [.i .i64 p0,.i .i64 p1,.i .i64 p2,.i .i64 p3,.i .i64 p4,.i .i64 p5,.i .i64 p6,.i .i64 p7])] (.s (fI [p0,p1,p2,p3,p4,p5,p6,p7])) [.keep]:=
 ((fsv_con [p0,p1,p2,p3,p4,p5,p6,p7] (by simp) (by simp) (by intro v hv;simp at hv;rcases hv with rfl | rfl | rfl | rfl | rfl | rfl | rfl | rfl<;>assumption)).pre (pargs':=[.sv 1 8 (listF 1 [.i .i64 p0,.i .i64 p1,.i .i64 p2,.i .i64 p3,.i .i64 p4,.i .i64 p5,.i .i64 p6,.i .i64 p7] 8)]) ⟨by
   refine .sv fun i j hi hj=>?_
   obtain rfl:j=0:=by omega
   have hi:i<8:=hi
   rcases i with _ | _ | _ | _ | _ | _ | _ | _ | i<;>first | rfl | omega,trivial⟩).borrow (pargs0:=[.l 0 0 8 8 1 true]) (objs:=[some (cellsO 32 [.i .i64 p0,.i .i64 p1,.i .i64 p2,.i .i64 p3,.i .i64 p4,.i .i64 p5,.i .i64 p6,.i .i64 p7])]) [0] (frzP 0 (.cells 8 [.i .i64 p0,.i .i64 p1,.i .i64 p2,.i .i64 p3,.i .i64 p4,.i .i64 p5,.i .i64 p6,.i .i64 p7]) (.tup [.l 0 0 8 8 1 true])/\True) (by kernel_rfl) (by kernel_rfl) (by kernel_rfl) ⟨by simp [frzP,frzsP],trivial⟩ (by kernel_rfl) (by kernel_rfl) VR_s
noncomputable def pm8B (p0 p1 p2 p3 p4 p5 p6 p7:Int):Bool:=ptB 8 (lI [p0,p1,p2,p3,p4,p5,p6,p7])
theorem pm8_con (p0 p1 p2 p3 p4 p5 p6 p7:Int):Con Try.prog 43 [.l 0 0 8 8 1 true] [some (cellsO 32 [.i .i64 p0,.i .i64 p1,.i .i64 p2,.i .i64 p3,.i .i64 p4,.i .i64 p5,.i .i64 p6,.i .i64 p7])] (.b (pm8B p0 p1 p2 p3 p4 p5 p6 p7)) [.keep]:=
 ((pm_con 8 (lI [p0,p1,p2,p3,p4,p5,p6,p7]) (by decide)).pre (pargs':=[.sv 1 8 (listF 1 [.i .i64 p0,.i .i64 p1,.i .i64 p2,.i .i64 p3,.i .i64 p4,.i .i64 p5,.i .i64 p6,.i .i64 p7] 8)]) ⟨by
   refine .sv fun i j hi hj=>?_
   obtain rfl:j=0:=by omega
   have hi:i<8:=hi
   rcases i with _ | _ | _ | _ | _ | _ | _ | _ | i<;>first | rfl | omega,trivial⟩).borrow (pargs0:=[.l 0 0 8 8 1 true]) (objs:=[some (cellsO 32 [.i .i64 p0,.i .i64 p1,.i .i64 p2,.i .i64 p3,.i .i64 p4,.i .i64 p5,.i .i64 p6,.i .i64 p7])]) [0] (frzP 0 (.cells 8 [.i .i64 p0,.i .i64 p1,.i .i64 p2,.i .i64 p3,.i .i64 p4,.i .i64 p5,.i .i64 p6,.i .i64 p7]) (.tup [.l 0 0 8 8 1 true])/\True) (by kernel_rfl) (by kernel_rfl) (by kernel_rfl) ⟨by simp [frzP,frzsP],trivial⟩ (by kernel_rfl) (by kernel_rfl) VR_b
theorem wi_rw {v a b:Int} (h:wi v a b=true) (ha:0<=a) (hb:b<9223372036854775808):rwI v:=by
 unfold wi at h
 simp only [Bool.and_eq_true,decide_eq_true_eq] at h
 exact ⟨by omega,by omega⟩
theorem ip_rw {v:Int} (h:ipB v=true):rwI v:=by
 unfold ipB at h
 rw [Bool.or_eq_true] at h
 rcases h with q | q
 · have:=of_decide_eq_true q
   subst this;exact ⟨by decide,by decide⟩
 · exact wi_rw q (by decide) (by decide)
theorem pm4_rw {a b c d:Int} (h:pm4B a b c d=true):rwI a/\rwI b/\rwI c/\rwI d:=
 ⟨ip_rw (alB_t h 0 (by decide)),ip_rw (alB_t h 1 (by decide)),ip_rw (alB_t h 2 (by decide)),ip_rw (alB_t h 3 (by decide))⟩
theorem pm8_rw {p0 p1 p2 p3 p4 p5 p6 p7:Int} (h:pm8B p0 p1 p2 p3 p4 p5 p6 p7=true):rwI p0/\rwI p1/\rwI p2/\rwI p3/\rwI p4/\rwI p5/\rwI p6/\rwI p7:=
 ⟨ip_rw (alB_t h 0 (by decide)),ip_rw (alB_t h 1 (by decide)),ip_rw (alB_t h 2 (by decide)),ip_rw (alB_t h 3 (by decide)),ip_rw (alB_t h 4 (by decide)),ip_rw (alB_t h 5 (by decide)),ip_rw (alB_t h 6 (by decide)),ip_rw (alB_t h 7 (by decide))⟩
theorem z_rw:rwI 0:=⟨by decide,by decide⟩
theorem in_rw {k g l s d0 d1 d2 d3 i:Int} (h:inB k g l s d0 d1 d2 d3 i=true):rwI k/\rwI g/\rwI l/\rwI s/\rwI d0/\rwI d1/\rwI d2/\rwI d3/\rwI i:=by
 unfold inB at h
 rw [Bool.and_eq_true] at h
 obtain ⟨hg,h⟩:=h
 have hg:=wi_rw hg (by decide) (by decide)
 cases e:decide (k=0) with
 | true=>
   rw [e,cond_true] at h
   unfold zrB at h
   simp only [Bool.and_eq_true,decide_eq_true_eq,Bool.and_true] at h
   obtain ⟨rfl,_,rfl,rfl,⟨rfl,rfl,rfl,rfl⟩,rfl⟩:=h
   exact ⟨z_rw,hg,z_rw,z_rw,z_rw,z_rw,z_rw,z_rw,z_rw⟩
 | false=>
   rw [e,cond_false] at h
   cases e1:decide (k=1) with
   | true=>
     rw [e1,cond_true] at h
     obtain rfl:=of_decide_eq_true e1
     simp only [Bool.and_eq_true] at h
     obtain ⟨h1,h2,h3,h4⟩:=h
     obtain ⟨a,b,c,d⟩:=pm4_rw h3
     exact ⟨⟨by decide,by decide⟩,hg,wi_rw h1 (by decide) (by decide),wi_rw h2 (by decide) (by decide),a,b,c,d,ip_rw h4⟩
   | false=>
     rw [e1,cond_false] at h
     cases e2:decide (k=2) with
     | true=>
       rw [e2,cond_true] at h
       obtain rfl:=of_decide_eq_true e2
       simp only [Bool.and_eq_true,decide_eq_true_eq] at h
       obtain ⟨rfl,h2,h3,h4⟩:=h
       obtain ⟨a,b,c,d⟩:=pm4_rw h3
       exact ⟨⟨by decide,by decide⟩,hg,⟨by decide,by decide⟩,wi_rw h2 (by decide) (by decide),a,b,c,d,wi_rw h4 (by decide) (by decide)⟩
     | false=>rw [e2,cond_false] at h;cases h
def f1I (a:Int):List Nat:=fI [a]
def f4I (a b c d:Int):List Nat:=fI [a,b,c,d]
def f8I (p0 p1 p2 p3 p4 p5 p6 p7:Int):List Nat:=fI [p0,p1,p2,p3,p4,p5,p6,p7]
theorem fm_le:∀{l:List Int},(∀v∈l,rwI v)->(fI l).length<=11*l.length
 | [],_=>Nat.le_refl _
 | a :: l,h=>by
   show (fN a.toNat ++ fI l).length<=11*(l.length+1)
   rw [List.length_append]
   have h1:=h a (by simp)
   unfold rwI at h1
   have:=fN_le (n:=a.toNat) (by omega)
   have:=fm_le (l:=l) fun v hv=>h v (by simp [hv])
   omega
theorem le1 {a:Int} (h:rwI a):(f1I a).length<=11:=fm_le (l:=[a]) (by intro v hv;simp at hv;rw [hv];exact h)
theorem le4 {a b c d:Int} (ha:rwI a) (hb:rwI b) (hc:rwI c) (hd:rwI d):(f4I a b c d).length<=44:=fm_le (l:=[a,b,c,d]) (by intro v hv;simp at hv;rcases hv with rfl | rfl | rfl | rfl<;>assumption)
theorem le44 {a b c d e f g h:Int} (ha:rwI a) (hb:rwI b) (hc:rwI c) (hd:rwI d) (he:rwI e) (hf:rwI f) (hg:rwI g) (hh:rwI h):(f4I a b c d).length+(f4I e f g h).length<=1073741824:=by
 have:=le4 ha hb hc hd
 have:=le4 he hf hg hh
 omega
theorem le441 {a b c d e f g h i:Int} (ha:rwI a) (hb:rwI b) (hc:rwI c) (hd:rwI d) (he:rwI e) (hf:rwI f) (hg:rwI g) (hh:rwI h) (hi:rwI i):(f4I a b c d ++ f4I e f g h).length+(f1I i).length<=1073741824:=by
 rw [List.length_append]
 have:=le4 ha hb hc hd
 have:=le4 he hf hg hh
 have:=le1 hi
 omega
theorem bl_rw {v:Int} {t:List Nat} (h:blB v t=true):rwI v:=by
 unfold blB at h
 rw [Bool.and_eq_true] at h
 exact wi_rw h.1 (by decide) (by decide)
theorem bl_le {v:Int} {t:List Nat} (h:blB v t=true):t.length<=38:=by
 unfold blB at h
 simp only [Bool.and_eq_true,decide_eq_true_eq] at h
 have:=h.2.1
 simp at this;omega
theorem bl_len {v:Int} {t:List Nat} (h:blB v t=true):(f1I v).length+t.length<=1073741824:=by
 have:=le1 (bl_rw h)
 have:=bl_le h
 omega
noncomputable def ebT (v:Int) (t:List Nat):List Nat:=bif blB v t then (bif decide (v=0) then [] else fI [v] ++ t) else []
noncomputable def ebE (v:Int) (t:List Nat):Int:=bif blB v t then 0 else 2
theorem eb0_vq (bl:Int->List Nat->Bool) (v:Int) (t:List Nat) (h0:bl v t=true) (h1:decide (v=0)=true):VD Try.prog 11 [.agg [.i .i64 v,.s t]] [] (Orc.cal []
 (.b (bl v t)) [] (Orc.f (Orc.t Orc.z))) (.tup [.s [],.i .i64 0]) [] [] 1 (fun Lf=>Con Try.prog 36 [.agg [.i .i64 v,.s t]] [] (.b (bl v t)) []/\True/\(!bl v t)=false/\
 True/\decide (v=0)=true/\Lf):=by unfold VD VQ;kernel_rfl
theorem eb1_vq (f1:Int->List Nat) (bl:Int->List Nat->Bool) (v:Int) (t:List Nat) (h0:bl v t=true) (h1:decide (v=0)=false):VD Try.prog 11 [.agg [.i .i64 v,
 .s t]] [] (Orc.cal [] (.b (bl v t)) [] (Orc.f (Orc.f (Orc.cal [1] (.s (f1 v)) [.keep] Orc.z)))) (.tup [.s (f1 v ++ t),.i .i64 0]) [] [] 2 (fun Lf=>Con Try.prog 36 [.agg
 [.i .i64 v,.s t]] [] (.b (bl v t)) []/\True/\(!bl v t)=false/\True/\decide (v=0)=false/\True/\Con Try.prog 37 [.l 0 0 1 1 1 true] [some (cellsO 3 [.i .i64 v])]
 (.s (f1 v)) [.keep]/\True/\List.length (f1 v)+List.length t<=1073741824/\Lf):=by unfold VD VQ;kernel_rfl
theorem eb2_vq (bl:Int->List Nat->Bool) (v:Int) (t:List Nat) (h0:bl v t=false):VD Try.prog 11 [.agg [.i .i64 v,.s t]] [] (Orc.cal [] (.b (bl v t)) [] (Orc.t
 Orc.z)) (.tup [.s [],.i .i64 2]) [] [] 1 (fun Lf=>Con Try.prog 36 [.agg [.i .i64 v,.s t]] [] (.b (bl v t)) []/\True/\(!bl v t)=true/\Lf)
 :=by unfold VD VQ;kernel_rfl
theorem eb_con (v:Int) (t:List Nat):Con Try.prog 11 [.agg [.i .i64 v,.s t]] [] (.tup [.s (ebT v t),.i .i64 (ebE v t)]) []:=by
 unfold ebT ebE
 cases h0:blB v t with
 | true=>
   cases h1:decide (v=0) with
   | true=>
     exact con_d (eb0_vq (bl:=blB) (v:=v) (t:=t) (h0:=h0) (h1:=h1)) (by repeat' first | exact trivial | assumption | exact rfl | exact nT (by assumption) | exact nF (by assumption) | exact bm_con _ _ | exact f1_con _ (by assumption) | exact f1_con _ (bl_rw (by assumption)) | exact bl_len (by assumption) | apply And.intro)
   | false=>
     exact con_d (eb1_vq (f1:=f1I) (bl:=blB) (v:=v) (t:=t) (h0:=h0) (h1:=h1)) (by repeat' first | exact trivial | assumption | exact rfl | exact nT (by assumption) | exact nF (by assumption) | exact bm_con _ _ | exact f1_con _ (by assumption) | exact f1_con _ (bl_rw (by assumption)) | exact bl_len (by assumption) | apply And.intro)
 | false=>
   exact con_d (eb2_vq (bl:=blB) (v:=v) (t:=t) (h0:=h0)) (by repeat' first | exact trivial | assumption | exact rfl | exact nT (by assumption) | exact nF (by assumption) | exact bm_con _ _ | exact f1_con _ (by assumption) | exact f1_con _ (bl_rw (by assumption)) | exact bl_len (by assumption) | apply And.intro)
theorem ei00_vq (inb:Int->Int->Int->Int->Int->Int->Int->Int->Int->Bool) (k g l s d0 d1 d2 d3 i:Int) (h0:inb k g l s d0 d1 d2 d3 i=false):VD Try.prog 13 [.agg
 [.i .i64 k,.i .i64 g,.i .i64 l,.i .i64 s,.i .i64 d0,.i .i64 d1,.i .i64 d2,.i .i64 d3,.i .i64 i]] [] (Orc.cal [] (.b (inb k g l s d0 d1 d2 d3 i)) [] (Orc.t Orc.z))
 (.tup [.s [],.i .i64 2]) [] [] 1 (fun Lf=>Con Try.prog 40 [.agg [.i .i64 k,.i .i64 g,.i .i64 l,.i .i64 s,.i .i64 d0,.i .i64 d1,.i .i64 d2,.i .i64 d3,.i .i64 i]] []
 (.b (inb k g l s d0 d1 d2 d3 i)) []/\True/\(!inb k g l s d0 d1 d2 d3 i)=true/\Lf):=by unfold VD VQ;kernel_rfl
theorem ei0_con (k g l s d0 d1 d2 d3 i:Int) (h0:inB k g l s d0 d1 d2 d3 i=false):Con Try.prog 13 [.agg [.i .i64 k,.i .i64 g,.i .i64 l,.i .i64 s,.i .i64 d0,.i .i64 d1,.i .i64 d2,.i .i64 d3,.i .i64 i]] [] (.tup [.s [],.i .i64 2]) []:=by
 exact con_d (ei00_vq (inb:=inB) (k:=k) (g:=g) (l:=l) (s:=s) (d0:=d0) (d1:=d1) (d2:=d2) (d3:=d3) (i:=i) (h0:=h0)) (by repeat' first | exact trivial | assumption | exact rfl | exact nT (by assumption) | exact nF (by assumption) | exact im_con _ _ _ _ _ _ _ _ _ | apply And.intro)
theorem ei10_vq (f1:Int->List Nat) (f4:Int->Int->Int->Int->List Nat) (inb:Int->Int->Int->Int->Int->Int->Int->Int->Int->Bool) (k g l s d0 d1 d2 d3 i:Int)
 (h0:inb k g l s d0 d1 d2 d3 i=true):VD Try.prog 13 [.agg [.i .i64 k,.i .i64 g,.i .i64 l,.i .i64 s,.i .i64 d0,.i .i64 d1,.i .i64 d2,.i .i64 d3,.i .i64 i]] []
 (Orc.cal [] (.b (inb k g l s d0 d1 d2 d3 i)) [] (Orc.f (Orc.cal [1] (.s (f4 k g l s)) [.keep] (Orc.cal [0] (.s (f4 d0 d1 d2 d3)) [.keep] (Orc.cal [2] (.s (f1 i)) [.keep]
 Orc.z))))) (.tup [.s (f4 k g l s ++ f4 d0 d1 d2 d3 ++ f1 i),.i .i64 0]) [] [] 3 (fun Lf=>Con Try.prog 40 [.agg [.i .i64 k,.i .i64 g,.i .i64 l,.i .i64 s,.i .i64 d0,.i
 .i64 d1,.i .i64 d2,.i .i64 d3,.i .i64 i]] [] (.b (inb k g l s d0 d1 d2 d3 i)) []/\True/\(!inb k g l s d0 d1 d2 d3 i)=false/\True/\True/\True/\True/\Con Try.prog
 37 [.l 0 0 4 4 1 true] [some (cellsO 3 [.i .i64 k,.i .i64 g,.i .i64 l,.i .i64 s])] (.s (f4 k g l s)) [.keep]/\True/\Con Try.prog 37 [.l 0 4 4 4 1 true] [some (cellsO 31
 [.i .i64 k,.i .i64 g,.i .i64 l,.i .i64 s,.i .i64 d0,.i .i64 d1,.i .i64 d2,.i .i64 d3,.i .i64 i])] (.s (f4 d0 d1 d2 d3)) [.keep]/\List.length (f4 k g l s) +
 List.length (f4 d0 d1 d2 d3)<=1073741824/\True/\Con Try.prog 37 [.l 0 0 1 1 1 true] [some (cellsO 3 [.i .i64 i])] (.s (f1 i)) [.keep]/\List.length (f4 k g l s ++ f4 d0 d1
 d2 d3)+List.length (f1 i)<=1073741824/\Lf):=by unfold VD VQ;kernel_rfl
theorem ei1_con (k g l s d0 d1 d2 d3 i:Int) (h0:inB k g l s d0 d1 d2 d3 i=true) (hk:rwI k) (hg:rwI g) (hl:rwI l) (hs:rwI s) (hd0:rwI d0) (hd1:rwI d1) (hd2:rwI d2) (hd3:rwI d3) (hi:rwI i):Con Try.prog 13 [.agg [.i .i64 k,.i .i64 g,.i .i64 l,.i .i64 s,.i .i64 d0,.i .i64 d1,.i .i64 d2,.i .i64 d3,.i .i64 i]] [] (.tup [.s ((f4I k g l s ++ f4I d0 d1 d2 d3) ++ f1I i),.i .i64 0]) []:=by
 exact con_d (ei10_vq (f1:=f1I) (f4:=f4I) (inb:=inB) (k:=k) (g:=g) (l:=l) (s:=s) (d0:=d0) (d1:=d1) (d2:=d2) (d3:=d3) (i:=i) (h0:=h0)) (by repeat' first | exact trivial | assumption | exact rfl | exact nT (by assumption) | exact nF (by assumption) | exact im_con _ _ _ _ _ _ _ _ _ | exact f1_con _ (by assumption) | exact f4_con _ _ _ _ (by assumption) (by assumption) (by assumption) (by assumption) | exact fd_con _ _ _ _ _ _ _ _ _ (by assumption) (by assumption) (by assumption) (by assumption) | exact le44 (by assumption) (by assumption) (by assumption) (by assumption) (by assumption) (by assumption) (by assumption) (by assumption) | exact le441 (by assumption) (by assumption) (by assumption) (by assumption) (by assumption) (by assumption) (by assumption) (by assumption) (by assumption) | apply And.intro)
theorem ep00_vq (pm8:Int->Int->Int->Int->Int->Int->Int->Int->Bool) (p0 p1 p2 p3 p4 p5 p6 p7:Int) (h0:pm8 p0 p1 p2 p3 p4 p5 p6 p7=false):VD Try.prog 15 [.agg
 [.i .i64 p0,.i .i64 p1,.i .i64 p2,.i .i64 p3,.i .i64 p4,.i .i64 p5,.i .i64 p6,.i .i64 p7]] [] (Orc.cal [0] (.b (pm8 p0 p1 p2 p3 p4 p5 p6 p7)) [.keep] (Orc.t Orc.z))
 (.tup [.s [],.i .i64 2]) [] [] 1 (fun Lf=>Con Try.prog 43 [.l 0 0 8 8 1 true] [some (cellsO 32 [.i .i64 p0,.i .i64 p1,.i .i64 p2,.i .i64 p3,.i .i64 p4,.i .i64 p5,.i
 .i64 p6,.i .i64 p7])] (.b (pm8 p0 p1 p2 p3 p4 p5 p6 p7)) [.keep]/\True/\(!pm8 p0 p1 p2 p3 p4 p5 p6 p7)=true/\Lf):=by unfold VD VQ;kernel_rfl
theorem ep0_con (p0 p1 p2 p3 p4 p5 p6 p7:Int) (h0:pm8B p0 p1 p2 p3 p4 p5 p6 p7=false):Con Try.prog 15 [.agg [.i .i64 p0,.i .i64 p1,.i .i64 p2,.i .i64 p3,.i .i64 p4,.i .i64 p5,.i .i64 p6,.i .i64 p7]] [] (.tup [.s [],.i .i64 2]) []:=by
 exact con_d (ep00_vq (pm8:=pm8B) (p0:=p0) (p1:=p1) (p2:=p2) (p3:=p3) (p4:=p4) (p5:=p5) (p6:=p6) (p7:=p7) (h0:=h0)) (by repeat' first | exact trivial | assumption | exact rfl | exact nT (by assumption) | exact nF (by assumption) | exact pm8_con _ _ _ _ _ _ _ _ | apply And.intro)
theorem ep10_vq (f8:Int->Int->Int->Int->Int->Int->Int->Int->List Nat) (pm8:Int->Int->Int->Int->Int->Int->Int->Int->Bool) (p0 p1 p2 p3 p4 p5 p6 p7:Int) (h0
 :pm8 p0 p1 p2 p3 p4 p5 p6 p7=true):VD Try.prog 15 [.agg [.i .i64 p0,.i .i64 p1,.i .i64 p2,.i .i64 p3,.i .i64 p4,.i .i64 p5,.i .i64 p6,.i .i64 p7]] [] (Orc.cal [0]
 (.b (pm8 p0 p1 p2 p3 p4 p5 p6 p7)) [.keep] (Orc.f (Orc.cal [0] (.s (f8 p0 p1 p2 p3 p4 p5 p6 p7)) [.keep] Orc.z))) (.tup [.s (f8 p0 p1 p2 p3 p4 p5 p6 p7),.i .i64 0]) [] [] 1
 (fun Lf=>Con Try.prog 43 [.l 0 0 8 8 1 true] [some (cellsO 32 [.i .i64 p0,.i .i64 p1,.i .i64 p2,.i .i64 p3,.i .i64 p4,.i .i64 p5,.i .i64 p6,.i .i64 p7])] (.b (pm8 p0
 p1 p2 p3 p4 p5 p6 p7)) [.keep]/\True/\(!pm8 p0 p1 p2 p3 p4 p5 p6 p7)=false/\Con Try.prog 37 [.l 0 0 8 8 1 true] [some (cellsO 32 [.i .i64 p0,.i .i64 p1,.i .i64 p2,.i
 .i64 p3,.i .i64 p4,.i .i64 p5,.i .i64 p6,.i .i64 p7])] (.s (f8 p0 p1 p2 p3 p4 p5 p6 p7)) [.keep]/\Lf):=by unfold VD VQ;kernel_rfl
theorem ep1_con (p0 p1 p2 p3 p4 p5 p6 p7:Int) (h0:pm8B p0 p1 p2 p3 p4 p5 p6 p7=true) (h0q:rwI p0) (h1q:rwI p1) (h2q:rwI p2) (h3q:rwI p3) (h4q:rwI p4) (h5q:rwI p5) (h6q:rwI p6) (h7q:rwI p7):Con Try.prog 15 [.agg [.i .i64 p0,.i .i64 p1,.i .i64 p2,.i .i64 p3,.i .i64 p4,.i .i64 p5,.i .i64 p6,.i .i64 p7]] [] (.tup [.s (f8I p0 p1 p2 p3 p4 p5 p6 p7),.i .i64 0]) []:=by
 exact con_d (ep10_vq (f8:=f8I) (pm8:=pm8B) (p0:=p0) (p1:=p1) (p2:=p2) (p3:=p3) (p4:=p4) (p5:=p5) (p6:=p6) (p7:=p7) (h0:=h0)) (by repeat' first | exact trivial | assumption | exact rfl | exact nT (by assumption) | exact nF (by assumption) | exact pm8_con _ _ _ _ _ _ _ _ | exact f8_con _ _ _ _ _ _ _ _ (by assumption) (by assumption) (by assumption) (by assumption) (by assumption) (by assumption) (by assumption) (by assumption) | apply And.intro)
noncomputable def inT (k g l s d0 d1 d2 d3 i:Int):List Nat:=bif inB k g l s d0 d1 d2 d3 i then fI [k,g,l,s,d0,d1,d2,d3,i] else []
noncomputable def inE (k g l s d0 d1 d2 d3 i:Int):Int:=bif inB k g l s d0 d1 d2 d3 i then 0 else 2
theorem encI_con (k g l s d0 d1 d2 d3 i:Int):Con Try.prog 13 [.agg [.i .i64 k,.i .i64 g,.i .i64 l,.i .i64 s,.i .i64 d0,.i .i64 d1,.i .i64 d2,.i .i64 d3,.i .i64 i]] [] (.tup [.s (inT k g l s d0 d1 d2 d3 i),.i .i64 (inE k g l s d0 d1 d2 d3 i)]) []:=by
 unfold inT inE
 cases h:inB k g l s d0 d1 d2 d3 i with
 | false=>exact ei0_con _ _ _ _ _ _ _ _ _ h
 | true=>
   obtain ⟨a,b,c,d,e,f,x,y,z⟩:=in_rw h
   have q:=ei1_con _ _ _ _ _ _ _ _ _ h a b c d e f x y z
   rw [show (f4I k g l s ++ f4I d0 d1 d2 d3) ++ f1I i=fI [k,g,l,s,d0,d1,d2,d3,i] by unfold f4I f1I;rw [fI_app,fI_app];rfl] at q
   exact q
noncomputable def ptT (p0 p1 p2 p3 p4 p5 p6 p7:Int):List Nat:=bif pm8B p0 p1 p2 p3 p4 p5 p6 p7 then f8I p0 p1 p2 p3 p4 p5 p6 p7 else []
noncomputable def ptE (p0 p1 p2 p3 p4 p5 p6 p7:Int):Int:=bif pm8B p0 p1 p2 p3 p4 p5 p6 p7 then 0 else 2
theorem encP_con (p0 p1 p2 p3 p4 p5 p6 p7:Int):Con Try.prog 15 [.agg [.i .i64 p0,.i .i64 p1,.i .i64 p2,.i .i64 p3,.i .i64 p4,.i .i64 p5,.i .i64 p6,.i .i64 p7]] [] (.tup [.s (ptT p0 p1 p2 p3 p4 p5 p6 p7),.i .i64 (ptE p0 p1 p2 p3 p4 p5 p6 p7)]) []:=by
 unfold ptT ptE
 cases h:pm8B p0 p1 p2 p3 p4 p5 p6 p7 with
 | false=>exact ep0_con _ _ _ _ _ _ _ _ h
 | true=>
   obtain ⟨a,b,c,d,e,f,x,y⟩:=pm8_rw h
   exact ep1_con _ _ _ _ _ _ _ _ h a b c d e f x y
end Go.Proofs.Ly
