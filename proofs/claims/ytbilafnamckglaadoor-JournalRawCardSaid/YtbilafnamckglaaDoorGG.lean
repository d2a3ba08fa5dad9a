/- Runs over unknown values, told by the kernel: part GG. -/
import Derived.Test.YtbilafnamckglaaDoorGF
noncomputable section
open Int (ofNat)
set_option linter.unusedSimpArgs false
set_option linter.unusedVariables false
set_option maxRecDepth 20000
namespace Go.Proofs.St
open Go Go.Sim Go.Proofs Go.Proofs.YtbilafnamckglaaDoor
theorem copiedR_vc (n k:Nat) (bs:Nat→Int) (ff:Nat→Nat→CV) (K:Res→Orc→Prop):runK PG 1000000 (.code (loopAt PG 65 0) 22 (mkT [(0,.sv 1 n (iF bs)),(3,.lr 0 1 0 n false),(4,.i .i64 (ofNat k))]) (mkH [some (.rows 5 1 n ff)])) (.s .z .z) K=((fun (q0:AV)=>((decide (ofNat k<ofNat n)=true→(0≤ofNat k∧ofNat k<↑n)∧True∧(0≤ofNat k∧ofNat k<↑n)∧k<n∧rg (ofNat k+1)∧K (.st .nrm (t1 (.sv 1 n (iF bs)) (t0 (t1 (.lr 0 1 0 n false) (t0 (tn k) .e) (t1 q0 (tl (.i .u8 (bs k))) .e)) (t0 (t1 (.sv 1 n (iF bs)) (tn k) .e) (tl (.i .i64 (ofNat k+1))))) (t0 (t1 (.i .i64 (ofNat k+1)) (t1 (inv k) (tl (.sv 1 n (iF bs))) .e) (t1 (inv k) (tl (.pr 0 1 k 0)) .e)) (t0 (t1 (inv n) (tl (.pv 1 (iF bs k))) .e) (tl (.lr 0 1 0 n false))))) ⟨tl (AObj.rows 5 1 n (setRow ff k 0 [CV.i .u8 (bs k)])),1,[0]⟩) .z)∧(decide (ofNat k<ofNat n)=false→K (.st (.exit 0) (t1 (.sv 1 n (iF bs)) (t0 (t1 (.lr 0 1 0 n false) .e (tl q0)) (t0 (tl (.sv 1 n (iF bs))) .e)) (t0 (t1 (inv k) (tn k) .e) (t0 (tn n) .e))) ⟨tl (AObj.rows 5 1 n ff),1,[]⟩) .z))) (.b (decide (ofNat k<ofNat n)))):=by kernel_rfl
theorem copied_vc (n:Nat) (bs:Nat→Int) (K:Res→Orc→Prop):runK PG 1000000 (.call 65 [.sv 1 n (iF bs)] (mkH [])) (.s (.lop [0] [0,3,4] 0 (.exit 0) [(3,.lr 0 1 0 n false)] [some (.rows 5 1 n (iF bs))] .z) .z) K=((0≤ofNat n∧ofNat n≤ofNat n∧ofNat n≤1073741824)∧LDoes PG (loopAt PG 65 0) 22 0 (mkT [(0,.sv 1 n (iF bs)),(3,.lr 0 1 0 n false),(4,.i .i64 0)]) [some (.rows 5 1 n fun x j=>List.getD [CV.i .u8 0] j CV.p0)] (.exit 0) (mkT [(3,.lr 0 1 0 n false)]) [some (.rows 5 1 n (iF bs))]∧K (.rv (.lr 1 1 0 n false) ⟨t0 (tl (.rows 5 1 n (iF bs))) .e,2,[1,0,0]⟩) .z):=by kernel_rfl
def cpF (b:Nat→Int) (k:Nat):Nat→Nat→CV:=fun i _=>.i .u8 (bif Nat.blt i k then b i else 0)
theorem cp_step (b:Nat→Int) (n k:Nat):OEq (some (.rows 5 1 n (setRow (cpF b k) k 0 [.i .u8 (b k)]))) (some (.rows 5 1 n (cpF b (k+1)))):=by
 refine .rows fun i j hi hj=>?_
 have:j=0:=by omega
 subst this
 show CV.i .u8 (bif Nat.beq i k then b k else (bif Nat.blt i k then b i else 0))=CV.i .u8 (bif Nat.blt i (k+1) then b i else 0)
 by_cases h:i=k
 · subst h
   rw [Nat.beq_refl,cond_true,show Nat.blt i (i+1)=true by rw [Nat.blt_eq];omega,cond_true]
 · rw [show Nat.beq i k=false by rw [Bool.eq_false_iff,ne_eq,Nat.beq_eq];exact h,cond_false]
   by_cases h2:i<k
   · rw [show Nat.blt i k=true by rw [Nat.blt_eq];exact h2,show Nat.blt i (k+1)=true by rw [Nat.blt_eq];omega]
   · rw [show Nat.blt i k=false by rw [Bool.eq_false_iff,ne_eq,Nat.blt_eq];exact h2,show Nat.blt i (k+1)=false by rw [Bool.eq_false_iff,ne_eq,Nat.blt_eq];omega]
theorem copiedL_lp (n:Nat) (bs:Nat→Int) (hn:n≤1073741824):LDoes PG (loopAt PG 65 0) 22 0 (mkT [(0,.sv 1 n (iF bs)),(3,.lr 0 1 0 n false),(4,.i .i64 0)]) [some (.rows 5 1 n (cpF bs 0))] (.exit 0) (mkT [(3,.lr 0 1 0 n false)]) [some (.rows 5 1 n (iF bs))]:=by
 refine loop_indE (D:=Nat) (l':=[(3,.lr 0 1 0 n false)]) (fun k=>([(0,.sv 1 n (iF bs)),(3,.lr 0 1 0 n false),(4,.i .i64 (ofNat k))],[some (.rows 5 1 n (cpF bs k))])) (fun k=>n-k) (fun k=>k≤n) ?_ 0 (Nat.zero_le n)
 intro k hk
 refine ⟨Nat.zero_le _,1000000,_,(copiedR_vc n k bs (cpF bs k) _).mpr ⟨fun h=>?_,fun h=>?_⟩⟩
 · have hlt:k<n:=by have:=of_decide_eq_true h;simp at this;omega
   exact ⟨⟨by simp,by simp;omega⟩,trivial,⟨by simp,by simp;omega⟩,hlt,⟨by simp<;>omega,by simp<;>omega⟩,.inl ⟨k+1,[0],[],_,_,_,hlt,by show n-(k+1)<n-k;omega,rfl,
    st_is [0] (objs:=[some (.rows 5 1 n (setRow (cpF bs k) k 0 [.i .u8 (bs k)]))]) (by kernel_rfl) rfl rfl rfl ⟨by kernel_rfl,by kernel_rfl,trivial⟩ rfl,cp_step bs n k,trivial⟩⟩
 · have hge:¬k<n:=by have:=of_decide_eq_false h;simp at this;omega
   refine .inr ⟨[0],[],_,_,_,rfl,by simp,st_is [0] (objs:=[some (.rows 5 1 n (cpF bs k))]) (by kernel_rfl) rfl rfl rfl ⟨by kernel_rfl,by kernel_rfl,trivial⟩ rfl,.rows fun i j hi hj=>?_,trivial⟩
   show CV.i .u8 (bif Nat.blt i k then bs i else 0)=CV.i .u8 (bs i)
   rw [show Nat.blt i k=true by rw [Nat.blt_eq];omega,cond_true]
theorem copied_con (n:Nat) (bs:Nat→Int) (hn:n≤1073741824):Con PG 65 [.sv 1 n (iF bs)] [] (.sv 1 n (iF bs)) []:=
 con_of_run [1] [] ((copied_vc n bs _).mpr ⟨⟨by simp,Int.le_refl _,by simp;omega⟩,(copiedL_lp n bs hn).oeq ⟨.rows fun i j hi hj=>by
  have:j=0:=by omega
  subst this
  show CV.i .u8 (bif Nat.blt i 0 then bs i else 0)= _
  rw [show Nat.blt i 0=false by rw [Bool.eq_false_iff,ne_eq,Nat.blt_eq];omega];exact Eq.refl _,trivial⟩ ⟨.inl rfl,trivial⟩,_,_,rfl,ret_fz [1] ((1=1∧0+n≤n)∧True) (by kernel_rfl) (by kernel_rfl) ⟨⟨rfl,by omega⟩,trivial⟩ (by kernel_rfl) rfl (by kernel_rfl) (by kernel_rfl) rfl trivial⟩)
theorem rreadR_vc (s:SS) (i k:Int) (K:Res→Orc→Prop):runK PG 1000000 (.code (loopAt PG 71 0) 68 (mkT [(0,.p 0 0),(1,.i .i64 i),(6,.i .i64 k)]) (mkH [some (rsA 2 s),some (rsR s),some (rsP s)])) (.s (.s (.cal [] (.sv 1 64 fun k_1 x=>CV.i .u8 (oB (SS.P s) (Int.toNat k) k_1)) [] .z) .z) .z) K=((fun (q2:AV)=>((fun (q1:AV)=>((fun (q0:Nat)=>((decide (0≤k)=true→True∧(0≤k∧k<↑q0)∧True∧Int.toNat k<List.length (SS.P s)∧(decide (ofNat (oA (SS.P s) (Int.toNat k))=i)=true→True∧(0≤k∧k<↑q0)∧True∧Int.toNat k<List.length (SS.P s)∧Con PG 65 [.sv 1 64 fun k_1 x=>CV.i .u8 (oB (SS.P s) (Int.toNat k) k_1)] [] (.sv 1 64 fun k_1 x=>CV.i .u8 (oB (SS.P s) (Int.toNat k) k_1)) []∧K (.st .ret (t1 (.p 0 0) (t1 (.i .i64 i) (t0 (t0 (t0 .e (tl (.pr 2 2 (Int.toNat k) 0))) (t0 (tn (oA (SS.P s) (Int.toNat k))) .e)) (t0 (t0 (tl (.lr 2 2 0 q0 false)) .e) (t0 (tl (.p 0 0)) .e))) (t1 (.i .i64 0) (t0 (t0 (tl (.p 0 0)) (tl (.sv 1 64 fun q x=>CV.i .u8 (oB (SS.P s) (Int.toNat k) q)))) (t0 (tl q1) .e)) (t0 (t0 (tl (.pr 2 2 (Int.toNat k) 0)) .e) (t1 q2 (tl (.lr 2 2 0 q0 false)) .e)))) (t0 (t1 (.sv 1 64 fun k_1 x=>CV.i .u8 (oB (SS.P s) (Int.toNat k) k_1)) (t0 (t0 (tl (.p 0 0)) (tl (.pr 2 2 (Int.toNat k) 1))) (t0 (tl (.i .i64 i)) .e)) (t0 (t0 (tl (.i .i64 k)) .e) (t1 (.i .i64 k) (tl (.p 0 1)) .e))) (t1 (.i .i64 k) (t0 (t0 (tl (.p 0 1)) (tl (.sv 1 64 fun k_1 x=>CV.i .u8 (oB (SS.P s) (Int.toNat k) k_1)))) (t0 (tl (.p 0 0)) .e)) (t0 (t0
 (tl (.pr 2 2 (Int.toNat k) 0)) .e) (t0 (tl (.i .i64 k)) .e))))) ⟨t1 (rsA 2 s) (tl (rsR s)) (tl (rsP s)),3,[]⟩) .z)∧(decide (ofNat (oA (SS.P s) (Int.toNat k))=i)=false→rg (k-1)∧K (.st .nrm (t1 (.p 0 0) (t1 (.i .i64 i) (t0 (t0 (t0 (tl (.i .i64 (k-1))) .e) (t0 (tn (oA (SS.P s) (Int.toNat k))) .e)) (t0 (t0 (tl (.lr 2 2 0 q0 false)) .e) .e)) (t0 (t0 (t0 (tl (.p 0 0)) .e) (t0 (tl q1) .e)) (t0 (t0 (tl (.pr 2 2 (Int.toNat k) 0)) .e) (tl q2)))) (t0 (t0 (t0 (t0 (tl (.p 0 0)) .e) (t0 (tl (.i .i64 i)) .e)) (t0 (t0 (tl (.i .i64 k)) .e) (tl (.i .i64 k)))) (t1 (.i .i64 (k-1)) (t0 (t0 (tl (.p 0 1)) .e) .e) (t0 (t0 (tl (.pr 2 2 (Int.toNat k) 0)) .e) (tl (.i .i64 k)))))) ⟨t1 (rsA 2 s) (tl (rsR s)) (tl (rsP s)),3,[]⟩) .z))∧(decide (0≤k)=false→K (.st (.exit 0) (t1 (.p 0 0) (t1 (.i .i64 i) .e (t0 .e (t0 .e (tl q2)))) (t0 (t0 .e (t0 .e (tl (.i .i64 k)))) (tl (.i .i64 k)))) ⟨t1 (rsA 2 s) (tl (rsR s)) (tl (rsP s)),3,[]⟩) .z))) (List.length (SS.P s)))) (.b (decide (ofNat (oA (SS.P s) (Int.toNat k))=i))))) (.b (decide (0≤k)))):=by kernel_rfl
theorem rbarR_vc (s:SS) (k:Nat) (ff:Nat→Nat→CV) (K:Res→Orc→Prop):runK PG 1000000 (.code (loopAt PG 46 0) 42 (mkT [(0,.p 0 0),(3,.i .i64 (ofNat k))]) (mkH [some (rsA 2 s),some (.rows 38 1 s.n ff),some (rsP s)])) (.s (.cal [] (.sv 1 64 fun k_1 x=>CV.i .u8 (oB (SS.P s) k k_1)) [] .z) .z) K=((fun (q0:Nat)=>(True∧(decide (ofNat k<ofNat q0)=true→True∧True∧(0≤ofNat k∧ofNat k<↑q0)∧True∧k<List.length (SS.P s)∧True∧(0≤ofNat k∧ofNat k<↑q0)∧True∧k<List.length (SS.P s)∧Con PG 65 [.sv 1 64 fun k_1 x=>CV.i .u8 (oB (SS.P s) k k_1)] [] (.sv 1 64 fun k_1 x=>CV.i .u8 (oB (SS.P s) k k_1)) []∧(0≤ofNat (oA (SS.P s) k)∧ofNat (oA (SS.P s) k)<↑(SS.n s))∧oA (SS.P s) k<SS.n s∧rg (ofNat k+1)∧K (.st .nrm (t1 (.p 0 0) (t0 (t1 (.i .i64 (ofNat k+1)) (t0 (t1 (inv k) (tl (.p 0 1)) .e) (tl (.p 0 1))) (t1 (.p 0 1) (t1 (.p 0 0) (tl (.pr 2 2 k 1)) .e) (tl (.pr 2 2 k 0)))) (t0 (t1 (.p 0 0) (t1 (.p 0 0) (tn k) .e) (tn k)) (t1 (inv q0) (t1 (.p 0 0) (tl (.sv 1 64 fun k_1 x=>CV.i .u8 (oB (SS.P s) k k_1))) .e) (tl (.p 0 0))))) (t0 (t0 (t1 (inv k) (t1 (.i .i64 (ofNat k+1)) (tl (.lr 2 2 0 q0 false)) .e) (tl (.lr 2 2 0 q0 false))) (t1 (.lr 2 2 0 q0 false) (t1 (.lr 1 1 0 (SS.n s) false) (tl (.sv 1 64 fun q x=>CV.i .u8 (oB (SS.P s) k q))) .e) (tn (oA (SS.P s) k)))) (t0 (t1 (.p 0 0) (t1 (.p 0 0) (tl (.pr 2 2 k 0)) .e) (tl (.pr 2 2 k 0))) (t1 (.b (decide (ofNat k<ofNat
 q0))) (t1 (.p 0 0) (tl (.pr 1 1 (oA (SS.P s) k) 0)) .e) (tl (.p 0 0)))))) ⟨t1 (rsA 2 s) (tl (.rows 38 1 (SS.n s) (setRow ff (oA (SS.P s) k) 0 [CV.sv 1 64 fun k_1 x=>CV.i .u8 (oB (SS.P s) k k_1)]))) (tl (rsP s)),3,[1]⟩) .z)∧(decide (ofNat k<ofNat q0)=false→K (.st (.exit 0) (t1 (.p 0 0) (t0 (t1 (inv k) .e (tl (.p 0 1))) (t0 (tl (.p 0 0)) (tn q0))) (t0 (t0 (tn k) (tl (.lr 2 2 0 q0 false))) (t0 (tl (.p 0 0)) (tl (.b (decide (ofNat k<ofNat q0))))))) ⟨t1 (rsA 2 s) (tl (.rows 38 1 (SS.n s) ff)) (tl (rsP s)),3,[]⟩) .z))) (List.length (SS.P s))):=by kernel_rfl
theorem drop_s (P:PW) {m:Nat} (h:m<P.length):P.drop (P.length-(m+1))=nthW P m :: P.drop (P.length-m):=by
 have e1:P.length-1-m=P.length-(m+1):=by omega
 unfold nthW
 rw [e1]
 cases h2:P.drop (P.length-(m+1)) with
 | nil=>have:=congrArg List.length h2;simp at this;omega
 | cons w Q=>rw [show P.length-m=(P.length-(m+1))+1 by omega,←List.drop_drop,h2];rfl
def kI (m:Nat):Int:=match m with
 | 0=>-1
 | m+1=>ofNat m
theorem kI_eq:∀m,kI m=ofNat m-1
 | 0=>rfl
 | m+1=>by show ofNat m=ofNat (m+1)-1;simp
def rdI (s:SS) (i:Int) (m:Nat):List (Nat×AV)×List (Option AObj):=([(0,.p 0 0),(1,.i .i64 i),(6,.i .i64 (kI m))],[some (rsA 2 s),some (rsR s),some (rsP s)])
theorem pen_lt {s:SS} {m:Nat} (h:m<s.P.length):(0:Int)≤ofNat m∧ofNat m<(s.P.length:Int):=⟨by simp,by simp;omega⟩
theorem rreadH_lp (s:SS) (q:Nat) (h:lB s.P q=true) (hl:s.P.length≤1073741824) :
 LDoes PG (loopAt PG 71 0) 68 3 (mkT [(0,.p 0 0),(1,.i .i64 (ofNat q)),(6,.i .i64 (ofNat s.P.length-1))]) [some (rsA 2 s),some (rsR s),some (rsP s)] .ret
  (mkT [(4,.sv 1 64 fun j _=>.i .u8 (lbs s.P (Int.toNat (ofNat q)) j)),(5,.i .i64 0)]) [some (rsA 2 s),some (rsR s),some (rsP s)]:=by
 rw [←kI_eq]
 refine loop_indV (D:=Nat) (l':=[(4,.sv 1 64 fun j _=>.i .u8 (lbs s.P (Int.toNat (ofNat q)) j)),(5,.i .i64 0)]) (rdI s (ofNat q)) (fun m=>m)
  (fun m=>m≤s.P.length∧lB (s.P.drop (s.P.length-m)) q=true∧lbs (s.P.drop (s.P.length-m)) q=lbs s.P q) ?_ s.P.length ⟨Nat.le_refl _,by simpa using h,by simp⟩
 rintro m ⟨hm,hb,he⟩
 refine ⟨by simp [rdI],1000000,?_⟩
 cases m with
 | zero=>simp [lB] at hb
 | succ m=>
   rw [drop_s s.P (by omega)] at hb he
   refine ⟨_,(rreadR_vc s (ofNat q) (ofNat m) _).mpr ⟨fun _=>⟨trivial,pen_lt (by omega),trivial,by show m<_;omega,fun h0=>?_,fun h0=>?_⟩,fun h0=>absurd (of_decide_eq_false h0) (by simp)⟩⟩
   · have hq:(nthW s.P m).1=q:=by have:=of_decide_eq_true h0;exact Int.ofNat.inj this
     have e2:oB s.P m=lbs s.P q:=by
      rw [←he]
      show (nthW s.P m).2=(bif Nat.beq q (nthW s.P m).1 then (nthW s.P m).2 else lbs (s.P.drop (s.P.length-m)) q)
      rw [hq,Nat.beq_refl];rfl
     refine ⟨trivial,pen_lt (by omega),trivial,by show m<_;omega,copied_con 64 _ (by decide),.inr ⟨[0,1,2],[],_,_,[(4,.sv 1 64 fun j _=>.i .u8 (oB s.P m j)),(5,.i .i64 0)],[some (rsA 2 s),some (rsR s),some (rsP s)],rfl,by simp,
      st_is [0,1,2] (by kernel_rfl) rfl rfl rfl (by refine ⟨?_,?_,?_,?_,?_,?_,trivial⟩<;>kernel_rfl) rfl,?_,.refl _⟩⟩
     rw [e2];exact .refl _
   · have hq:¬q=(nthW s.P m).1:=fun e=>by have:=of_decide_eq_false h0;exact this (by show ofNat (nthW s.P m).1=ofNat q;rw [←e])
     have hbq:Nat.beq q (nthW s.P m).1=false:=by rw [Bool.eq_false_iff,ne_eq,Nat.beq_eq];exact hq
     have hb':lB (s.P.drop (s.P.length-m)) q=true:=by
      have:(bif Nat.beq q (nthW s.P m).1 then true else lB (s.P.drop (s.P.length-m)) q)=true:=hb
      rwa [hbq] at this
     have he':lbs (s.P.drop (s.P.length-m)) q=lbs s.P q:=by
      have:(bif Nat.beq q (nthW s.P m).1 then (nthW s.P m).2 else lbs (s.P.drop (s.P.length-m)) q)=lbs s.P q:=he
      rwa [hbq] at this
     refine ⟨⟨by simp;omega,by simp;omega⟩,.inl ⟨m,[0,1,2],[],_,_,[(0,.p 0 0),(1,.i .i64 (ofNat q)),(6,.i .i64 (ofNat m-1))],[some (rsA 2 s),some (rsR s),some (rsP s)],⟨by omega,hb',he'⟩,Nat.lt_succ_self m,rfl,
      st_is [0,1,2] (by kernel_rfl) rfl rfl rfl (by refine ⟨?_,?_,?_,?_,?_,?_,trivial⟩<;>kernel_rfl) rfl,?_,.refl _⟩⟩
     unfold rdI
     rw [kI_eq];exact .refl _
theorem rreadM_lp (s:SS) (q:Nat) (h:lB s.P q=false) (hl:s.P.length≤1073741824) :
 LDoes PG (loopAt PG 71 0) 68 3 (mkT [(0,.p 0 0),(1,.i .i64 (ofNat q)),(6,.i .i64 (ofNat s.P.length-1))]) [some (rsA 2 s),some (rsR s),some (rsP s)] (.exit 0)
  (mkT [(0,.p 0 0),(1,.i .i64 (ofNat q))]) [some (rsA 2 s),some (rsR s),some (rsP s)]:=by
 rw [←kI_eq]
 refine loop_indV (D:=Nat) (l':=[(0,.p 0 0),(1,.i .i64 (ofNat q))]) (rdI s (ofNat q)) (fun m=>m)
  (fun m=>m≤s.P.length∧lB (s.P.drop (s.P.length-m)) q=false) ?_ s.P.length ⟨Nat.le_refl _,by simpa using h⟩
 rintro m ⟨hm,hb⟩
 refine ⟨by simp [rdI],1000000,?_⟩
 cases m with
 | zero=>
   exact ⟨_,(rreadR_vc s (ofNat q) (-1) _).mpr ⟨fun h0=>absurd (of_decide_eq_true h0) (by simp),fun _=>.inr ⟨[0,1,2],[],_,_,[(0,.p 0 0),(1,.i .i64 (ofNat q))],[some (rsA 2 s),some (rsR s),some (rsP s)],rfl,by simp,
    st_is [0,1,2] (by kernel_rfl) rfl rfl rfl (by refine ⟨?_,?_,?_,?_,?_,?_,trivial⟩<;>kernel_rfl) rfl,.refl _,.refl _⟩⟩⟩
 | succ m=>
   rw [drop_s s.P (by omega)] at hb
   have hbq:Nat.beq q (nthW s.P m).1=false:=by
    have:(bif Nat.beq q (nthW s.P m).1 then true else lB (s.P.drop (s.P.length-m)) q)=false:=hb
    cases hh:Nat.beq q (nthW s.P m).1 with
    | false=>rfl
    | true=>rw [hh] at this;cases this
   have hb':lB (s.P.drop (s.P.length-m)) q=false:=by
    have:(bif Nat.beq q (nthW s.P m).1 then true else lB (s.P.drop (s.P.length-m)) q)=false:=hb
    rwa [hbq] at this
   refine ⟨_,(rreadR_vc s (ofNat q) (ofNat m) _).mpr ⟨fun _=>⟨trivial,pen_lt (by omega),trivial,by show m<_;omega,fun h0=>?_,fun h0=>?_⟩,fun h0=>absurd (of_decide_eq_false h0) (by simp)⟩⟩
   · have hq:(nthW s.P m).1=q:=by have:=of_decide_eq_true h0;exact Int.ofNat.inj this
     rw [hq,Nat.beq_refl] at hbq;cases hbq
   · refine ⟨⟨by simp;omega,by simp;omega⟩,.inl ⟨m,[0,1,2],[],_,_,[(0,.p 0 0),(1,.i .i64 (ofNat q)),(6,.i .i64 (ofNat m-1))],[some (rsA 2 s),some (rsR s),some (rsP s)],⟨by omega,hb'⟩,Nat.lt_succ_self m,rfl,
      st_is [0,1,2] (by kernel_rfl) rfl rfl rfl (by refine ⟨?_,?_,?_,?_,?_,?_,trivial⟩<;>kernel_rfl) rfl,?_,.refl _⟩⟩
     unfold rdI
     rw [kI_eq];exact .refl _
theorem img_lay (s:SS) (q:Nat) (b:Nat→Int) (i j:Nat) (hj:j<1):CW (setRow (imgF s) q 0 [.sv 1 64 fun k _=>.i .u8 (b k)] i j) (imgF (s.lay q b false) i j):=by
 have:j=0:=by omega
 subst this
 refine (zipCV_CW (Nat.beq i q) (CV.sv 1 64 fun k _=>.i .u8 (b k)) (imgF s i 0)).trans (.of ?_)
 show (bif Nat.beq i q then CV.sv 1 64 (fun k _=>.i .u8 (b k)) else .sv 1 (bif s.torn i then 0 else 64) fun k _=>.i .u8 (s.dur i k))=(.sv 1 (bif (bif Nat.beq i q then false else s.torn i) then 0 else 64) fun k _=>.i .u8 ((bif Nat.beq i q then b else s.dur i) k))
 cases h:Nat.beq i q with
 | true=>exact Eq.refl _
 | false=>exact Eq.refl _
theorem oA_lt {s:SS} (ha:∀w∈s.P,w.1<s.n) {m:Nat} (h:m<s.P.length):(0:Int)≤ofNat (oA s.P m)∧ofNat (oA s.P m)<(s.n:Int):=by
 have hm:nthW s.P m∈s.P:=by
  have:=drop_s s.P h
  exact List.mem_of_mem_drop (by rw [this];exact List.mem_cons_self ..)
 exact ⟨by simp,by show (((nthW s.P m).1:Nat):Int)<_;have:=ha _ hm;omega⟩
def rbI (s:SS) (m:Nat):List (Nat×AV)×List (Option AObj):=([(0,.p 0 0),(3,.i .i64 (ofNat m))],[some (rsA 2 s),some (.rows 38 1 s.n (imgF (laidM s m))),some (rsP s)])
theorem rbarG_lp (s:SS) (hl:s.P.length≤1073741824) (ha:∀w∈s.P,w.1<s.n) :
 LDoes PG (loopAt PG 46 0) 42 3 (mkT [(0,.p 0 0),(3,.i .i64 0)]) [some (rsA 2 s),some (rsR s),some (rsP s)] (.exit 0) (mkT [(0,.p 0 0)]) [some (rsA 2 s),some (.rows 38 1 s.n (imgF (laidM s s.P.length))),some (rsP s)]:=by
 refine loop_indV (D:=Nat) (l':=[(0,.p 0 0)]) (rbI s) (fun m=>s.P.length-m) (fun m=>m≤s.P.length) ?_ 0 (Nat.zero_le _)
 intro m hm
 refine ⟨by simp [rbI],1000000,_,(rbarR_vc s m (imgF (laidM s m)) _).mpr ⟨trivial,fun h0=>?_,fun h0=>?_⟩⟩
 · have hlt:m<s.P.length:=by have:=of_decide_eq_true h0;simp at this;omega
   have h1:=pen_lt hlt
   have h2:=oA_lt ha hlt
   exact ⟨trivial,trivial,h1,trivial,hlt,trivial,h1,trivial,hlt,copied_con 64 _ (by decide),h2,by have:=h2.2;simp at this;omega,⟨by simp;omega,by simp;omega⟩,
    .inl ⟨m+1,[0,1,2],[],_,_,[(0,.p 0 0),(3,.i .i64 (ofNat m+1))],[some (rsA 2 s),some (.rows 38 1 s.n (setRow (imgF (laidM s m)) (oA s.P m) 0 [.sv 1 64 fun k _=>.i .u8 (oB s.P m k)])),some (rsP s)],hlt,by show s.P.length-(m+1)<s.P.length-m;omega,rfl,
     st_is [0,1,2] (by kernel_rfl) rfl rfl rfl (by refine ⟨?_,?_,?_,?_,?_,?_,trivial⟩<;>kernel_rfl) rfl,.refl _,.refl _,.rowsW fun i j _ hj=>img_lay _ _ _ i j hj,.refl _,trivial⟩⟩
 · have:m=s.P.length:=by have:=of_decide_eq_false h0;simp at this;omega
   subst this
   exact .inr ⟨[0,1,2],[],_,_,[(0,.p 0 0)],[some (rsA 2 s),some (.rows 38 1 s.n (imgF (laidM s s.P.length))),some (rsP s)],rfl,by simp,
    st_is [0,1,2] (by kernel_rfl) rfl rfl rfl (by refine ⟨?_,?_,?_,?_,?_,?_,trivial⟩<;>kernel_rfl) rfl,.refl _,.refl _⟩
theorem rreadH_vc (s:SS) (i:Int) (K:Res→Orc→Prop):runK PG 1000000 (.call 71 [.p 0 0,.i .i64 i] (mkH [some (rsA 2 s),some (rsR s),some (rsP s)])) (.s .z (.s (ot 6 (.f (.s .z (.lop [0,1,2] [0,1,6] 3 .ret [(4,.sv 1 64 fun q x=>CV.i .u8 (lbs (SS.P s) (Int.toNat i) q)),(5,.i .i64 0)] [some (rsA 2 s),some (rsR s),some (rsP s)] .z)))) (of_ 6 (.t (.c .z))))) K=((fun (q0:Int)=>(True∧(SS.off s=true→K (.rv (.tup [.l0,.i .i64 13]) ⟨t1 (rsA 2 s) (tl (rsR s)) (tl (rsP s)),3,[]⟩) .z)∧(SS.off s=false→((!decide (i<0))=true→(!decide (i<0))=true∧(!decide (i<0))=true∧(!decide (i<0))=true∧True∧(!decide (i<0))=true∧(!decide (i<0))=true∧(!decide (i<0))=true∧decide (i<0)=false∧(decide (ofNat (SS.n s)≤i)=true→K (.rv (.tup [.l0,.i .i64 2]) ⟨t1 (rsA 2 s) (tl (rsR s)) (tl (rsP s)),3,[]⟩) .z)∧(decide (ofNat (SS.n s)≤i)=false→True∧rg q0∧LDoes PG (loopAt PG 71 0) 68 3 (mkT [(0,.p 0 0),(1,.i .i64 i),(6,.i .i64 q0)]) [some (rsA 2 s),some (rsR s),some (rsP s)] .ret (mkT [(4,.sv 1 64 fun q x=>CV.i .u8 (lbs (SS.P s) (Int.toNat i) q)),(5,.i .i64 0)]) [some (rsA 2 s),some (rsR s),some (rsP s)]∧K (.rv (.tup [.sv 1 64 fun q x=>CV.i .u8 (lbs (SS.P s) (Int.toNat i) q),.i .i64 0]) ⟨t1 (rsA 2 s) (tl (rsR s)) (tl (rsP s)),3,[2,1,0]⟩) .z))∧((!decide (i<0))=false→(!decide (i<0))=false∧(!decide (i<0))=false∧(!decide (i<0))=false∧(!decide (i<0)) =
 false∧(!decide (i<0))=false∧(!decide (i<0))=false∧decide (i<0)=true∧K (.rv (.tup [.l0,.i .i64 2]) ⟨t1 (rsA 2 s) (tl (rsR s)) (tl (rsP s)),3,[]⟩) .z)))) (ofNat (List.length (SS.P s))-1)):=by kernel_rfl
theorem rreadM_vc (s:SS) (i:Int) (K:Res→Orc→Prop):runK PG 1000000 (.call 71 [.p 0 0,.i .i64 i] (mkH [some (rsA 2 s),some (rsR s),some (rsP s)])) (.s .z (.s (ot 6 (.f (.s .z (.lop [0,1,2] [0,1,6] 3 (.exit 0) [(0,.p 0 0),(1,.i .i64 i)] [some (rsA 2 s),some (rsR s),some (rsP s)] (.s .z (.cal [] (.sv 1 (bif SS.torn s (Int.toNat i) then 0 else 64) fun k x=>CV.i .u8 (SS.dur s (Int.toNat i) k)) [] .z)))))) (of_ 6 (.t (.c .z))))) K=((fun (q0:Int)=>(True∧(SS.off s=true→K (.rv (.tup [.l0,.i .i64 13]) ⟨t1 (rsA 2 s) (tl (rsR s)) (tl (rsP s)),3,[]⟩) .z)∧(SS.off s=false→((!decide (i<0))=true→(!decide (i<0))=true∧(!decide (i<0))=true∧(!decide (i<0))=true∧True∧(!decide (i<0))=true∧(!decide (i<0))=true∧(!decide (i<0))=true∧decide (i<0)=false∧(decide (ofNat (SS.n s)≤i)=true→K (.rv (.tup [.l0,.i .i64 2]) ⟨t1 (rsA 2 s) (tl (rsR s)) (tl (rsP s)),3,[]⟩) .z)∧(decide (ofNat (SS.n s)≤i)=false→True∧rg q0∧LDoes PG (loopAt PG 71 0) 68 3 (mkT [(0,.p 0 0),(1,.i .i64 i),(6,.i .i64 q0)]) [some (rsA 2 s),some (rsR s),some (rsP s)] (.exit 0) (mkT [(0,.p 0 0),(1,.i .i64 i)]) [some (rsA 2 s),some (rsR s),some (rsP s)]∧True∧(0≤i∧i<↑(SS.n s))∧Int.toNat i<SS.n s∧(decide (ofNat (bif SS.torn s (Int.toNat i) then 0 else 64)=0)=true→K (.rv (.tup [.l0,.i .i64 14]) ⟨t1 (rsA 2 s) (tl (rsR s)) (tl (rsP s)),3,[2,1,0]⟩) .z)∧(decide (ofNat (bif SS.torn s
 (Int.toNat i) then 0 else 64)=0)=false→True∧(0≤i∧i<↑(SS.n s))∧Int.toNat i<SS.n s∧Con PG 65 [.sv 1 (bif SS.torn s (Int.toNat i) then 0 else 64) fun k x=>CV.i .u8 (SS.dur s (Int.toNat i) k)] [] (.sv 1 (bif SS.torn s (Int.toNat i) then 0 else 64) fun k x=>CV.i .u8 (SS.dur s (Int.toNat i) k)) []∧K (.rv (.tup [.sv 1 (bif SS.torn s (Int.toNat i) then 0 else 64) fun k x=>CV.i .u8 (SS.dur s (Int.toNat i) k),.i .i64 0]) ⟨t1 (rsA 2 s) (tl (rsR s)) (tl (rsP s)),3,[2,1,0]⟩) .z)))∧((!decide (i<0))=false→(!decide (i<0))=false∧(!decide (i<0))=false∧(!decide (i<0))=false∧(!decide (i<0))=false∧(!decide (i<0))=false∧(!decide (i<0))=false∧decide (i<0)=true∧K (.rv (.tup [.l0,.i .i64 2]) ⟨t1 (rsA 2 s) (tl (rsR s)) (tl (rsP s)),3,[]⟩) .z)))) (ofNat (List.length (SS.P s))-1)):=by kernel_rfl
theorem rbar_vc (s:SS) (K:Res→Orc→Prop):runK PG 1000000 (.call 46 [.p 0 0] (mkH [some (rsA 2 s),some (rsR s),some (rsP s)])) (.s .z (.lop [0,1,2] [0,3] 3 (.exit 0) [(0,.p 0 0)] [some (rsA 2 s),some (.rows 38 1 (SS.n s) (imgF (laidM s (List.length (SS.P s))))),some (rsP s)] .z)) K=((fun (q0:AObj)=>(True∧(SS.off s=true→K (.rv (.i .i64 13) ⟨t1 (rsA 2 s) (tl (rsR s)) (tl (rsP s)),3,[]⟩) .z)∧(SS.off s=false→LDoes PG (loopAt PG 46 0) 42 3 (mkT [(0,.p 0 0),(3,.i .i64 0)]) [some (rsA 2 s),some (rsR s),some (rsP s)] (.exit 0) (mkT [(0,.p 0 0)]) [some (rsA 2 s),some q0,some (rsP s)]∧True∧K (.rv (.i .i64 0) ⟨t1 (AObj.cells 56 5 [] (t1 (.lr 1 1 0 (SS.n s) false) (t1 .l0 (tl (.i .i64 (SS.am s))) .e) (t1 (inv (SS.wr s)) (tl (.b (SS.off s))) .e))) (tl q0) (tl (rsP s)),3,[0,2,1,0]⟩) .z))) (.rows 38 1 (SS.n s) (imgF (laidM s (List.length (SS.P s)))))):=by kernel_rfl
theorem rwrite_vc (s:SS) (L:Nat) (i:Int) (bs:Nat→Int) (K:Res→Orc→Prop):runK PG 1000000 (.call 44 [.p 0 0,.i .i64 i,.sv 1 L (fun k _=>.i .u8 (bs k))] (mkH [some (rsA 2 s),some (rsR s),some (rsP s)])) (.s .z (.s (ot 6 (.f (.s (.t (.t (.f (.s .z (.cal [] (.sv 1 L fun k x=>CV.i .u8 (bs k)) [] (.s (.inl .z) (.s .z .z))))))) (.f (.f (.t (.c .z))))))) (of_ 6 (.t (.c (.c (.c (.c (.c .z))))))))) K=((fun (q4:AV)=>((fun (q3:AV)=>((fun (q2:Nat)=>((fun (q1:Bool)=>((fun (q0:Bool)=>(True∧(SS.off s=true→K (.rv (.i .i64 (13:Int)) ⟨t1 (rsA 2 s) (tl (rsR s)) (tl (rsP s)),3,[]⟩) .z)∧(SS.off s=false→(q0=true→q0=true∧q0=true∧q0=true∧True∧q0=true∧q0=true∧q0=true∧decide (i<(0:Int))=false∧(q1=true→q1=true∧q1=true∧decide (ofNat (SS.n s)≤i)=false∧((!decide (ofNat L=(64:Int)))=true→K (.rv (.i .i64 (2:Int)) ⟨t1 (rsA 2 s) (tl (rsR s)) (tl (rsP s)),3,[]⟩) .z)∧((!decide (ofNat L=(64:Int)))=false→True∧Con PG 65 [.sv 1 L fun k x=>CV.i .u8 (bs k)] [] (.sv 1 L fun k x=>CV.i .u8 (bs k)) []∧(0+List.length (SS.P s)≤List.length (SS.P s)∧True∧List.length (SS.P s)+1≤140737488355328∧(3*(List.length (SS.P s)+1)+1536)*32≤562949953421312)∧True∧True∧rg (ofNat (SS.wr s)+1)∧True∧True∧(decide (SS.am s=(0:Int))=true→True∧True∧K (.rv (.i .i64 (13:Int)) ⟨t1 (AObj.cells 56 5 [] (t1 q4 (t1 (.lr 4 2 0 (addN q2 1) false) (tl (.i .i64 (-1:Int))) .e) (t1 q3 tb .e))) (t1 (rsR s) (tl (.cells 115 2 [] (t1 (.i .i64 i) (tl (.sv 1 L fun k x=>CV.i .u8 (bs k))) .e))) .e) (t0 (tl (.rows 115 2 (addN q2 1) (appZ q2 (fun k j=>match j with | 0=>CV.i .i64 (ofNat (oA (SS.P s) k)) | x=>CV.sv 1 64 fun q x=>CV.i .u8 (oB (SS.P s) k q)) fun x j=>List.getD [CV.i .i64 i,CV.sv 1 L fun k x=>CV.i .u8 (bs k)] j CV.p0))) .e),5,[0,0,0,0,4,2,3]⟩) .z)∧(decide (SS.am s=(0:Int))=false→True∧(decide ((0:Int)<SS.am s)=true→True∧rg (SS.am s-1)∧True∧K (.rv (.i .i64 (0:Int)) ⟨t1 (AObj.cells 56 5 [] (t1 q4 (t1 (.lr 4 2 0 (addN q2 1) false) (tl (.i .i64 (SS.am s-(1:Int)))) .e) (t1 q3 (tl (.b (SS.off s))) .e))) (t1 (rsR s) (tl (.cells 115 2 [] (t1 (.i .i64 i) (tl (.sv 1 L fun k x=>CV.i .u8 (bs k))) .e))) .e) (t0 (tl (.rows 115 2 (addN q2 1) (appZ q2 (fun k j=>match j with | 0=>CV.i .i64 (ofNat (oA (SS.P s) k)) | x=>CV.sv 1 64 fun q x=>CV.i .u8 (oB (SS.P s) k q)) fun x j=>List.getD [CV.i .i64 i,CV.sv 1 L fun k x=>CV.i .u8 (bs k)] j CV.p0))) .e),5,[0,0,0,4,2,3]⟩) .z)∧(decide ((0:Int)<SS.am s)=false→K (.rv (.i .i64 (0:Int)) ⟨t1 (AObj.cells 56 5 [] (t1 q4 (t1 (.lr 4 2 0 (addN q2 1) false) (tl (.i .i64 (SS.am s))) .e) (t1 q3 (tl (.b (SS.off s))) .e))) (t1 (rsR s) (tl (.cells 115 2 [] (t1 (.i .i64 i) (tl (.sv 1 L fun k x=>CV.i .u8 (bs k))) .e))) .e) (t0 (tl (.rows 115 2 (addN q2 1) (appZ q2 (fun k j=>match j with | 0=>CV.i .i64 (ofNat (oA (SS.P s) k)) | x=>CV.sv 1 64 fun q x=>CV.i .u8 (oB (SS.P s) k q)) fun x j=>List.getD [CV.i .i64 i,CV.sv 1 L fun k x=>CV.i .u8 (bs k)] j CV.p0))) .e),5,[0,0,4,2,3]⟩) .z))))∧(q1=false→q1=false∧q1=false∧decide (ofNat (SS.n s)≤i)=true∧K (.rv (.i .i64 (2:Int)) ⟨t1 (rsA 2 s) (tl (rsR s)) (tl (rsP s)),3,[]⟩) .z))∧(q0=false→q0=false∧q0=false∧q0=false∧q0=false∧q0=false∧q0=false∧decide (i<(0:Int))=true∧K (.rv (.i .i64 (2:Int)) ⟨t1 (rsA 2 s) (tl (rsR s)) (tl (rsP s)),3,[]⟩) .z)))) (!decide (i<(0:Int))))) (!decide (ofNat (SS.n s)≤i)))) (List.length (SS.P s)))) (.i .i64 (ofNat (SS.wr s)+(1:Int))))) (.lr 1 1 0 (SS.n s) false)):=by kernel_rfl
theorem nd_t {a b:Int} (h:a<b):(!decide (a<b))=false:=by simp [h]
theorem nd_f {a b:Int} (h:¬a<b):(!decide (a<b))=true:=by simp only [decide_eq_false h];rfl
theorem rread2_con (s:SS) (i:Int) (hl:s.P.length≤1073741824):Con PG 71 [.p 0 0,.i .i64 i] [some (rsA 2 s),some (rsR s),some (rsP s)] (.tup [.sv 1 (s.rdN i) fun k _=>.i .u8 (s.rdB i k),.i .i64 (s.rdE i)]) [.keep,.keep,.keep]:=by
 have bad:∀e:Int,e≠0→s.rdE i=e→Con PG 71 [.p 0 0,.i .i64 i] [some (rsA 2 s),some (rsR s),some (rsP s)] (.tup [.l0,.i .i64 e]) [.keep,.keep,.keep]→Con PG 71 [.p 0 0,.i .i64 i] [some (rsA 2 s),some (rsR s),some (rsP s)] (.tup [.sv 1 (s.rdN i) fun k _=>.i .u8 (s.rdB i k),.i .i64 (s.rdE i)]) [.keep,.keep,.keep]:=fun e he h k=>by
  rw [SS.rdN_0 (by rw [h];exact he),h]
  exact k.post (.tup ⟨.nil _ _,.refl _,trivial⟩) (OVL.refl _)
 have hlen:(-9223372036854775808:Int)≤ofNat s.P.length-1∧ofNat s.P.length-1≤(9223372036854775807:Int):=⟨by simp;omega,by simp;omega⟩
 cases ho:s.off with
 | true=>
   have e1:s.rdE i=13:=by unfold SS.rdE;rw [ho]
   refine bad 13 (by decide) e1 (con_of_run [] [] ((rreadM_vc s i _).mpr ⟨trivial,fun _=>⟨_,_,rfl,ret_is (by kernel_rfl) rfl (by kernel_rfl) (by kernel_rfl) rfl (by refine ⟨?_,?_,?_,?_,?_,?_,trivial⟩<;>kernel_rfl)⟩,fun h=>(by rw [ho] at h;cases h)⟩))
 | false=>
   by_cases h0:i<0
   · have e1:s.rdE i=2:=by unfold SS.rdE;rw [ho,show decide (0≤i∧i<ofNat s.n)=false from decide_eq_false (by omega)]
     have d:=nd_t h0
     exact bad 2 (by decide) e1 (con_of_run [] [] ((rreadM_vc s i _).mpr ⟨trivial,fun h=>(by rw [ho] at h;cases h),fun _=>⟨fun h=>(by rw [d] at h;cases h),fun _=>⟨d,d,d,d,d,d,decide_eq_true h0,_,_,rfl,ret_is (by kernel_rfl) rfl (by kernel_rfl) (by kernel_rfl) rfl (by refine ⟨?_,?_,?_,?_,?_,?_,trivial⟩<;>kernel_rfl)⟩⟩⟩))
   · have d:=nd_f h0
     by_cases h1:ofNat s.n≤i
     · have e1:s.rdE i=2:=by unfold SS.rdE;rw [ho,show decide (0≤i∧i<ofNat s.n)=false from decide_eq_false (by omega)]
       exact bad 2 (by decide) e1 (con_of_run [] [] ((rreadM_vc s i _).mpr ⟨trivial,fun h=>(by rw [ho] at h;cases h),fun _=>⟨fun _=>⟨d,d,d,trivial,d,d,d,decide_eq_false h0,fun _=>⟨_,_,rfl,ret_is (by kernel_rfl) rfl (by kernel_rfl) (by kernel_rfl) rfl (by refine ⟨?_,?_,?_,?_,?_,?_,trivial⟩<;>kernel_rfl)⟩,fun h=>absurd h1 (of_decide_eq_false h)⟩,fun h=>(by rw [d] at h;cases h)⟩⟩))
     · obtain ⟨q,rfl⟩:∃q,i=ofNat q:=⟨i.toNat,by simp;omega⟩
       have hq:q<s.n:=by simp at h1;omega
       have hr:decide (0≤ofNat q∧ofNat q<ofNat s.n)=true:=decide_eq_true ⟨by simp,by simp;omega⟩
       cases hb:lB s.P q with
       | true=>
         have e1:s.rdE (ofNat q)=0:=by unfold SS.rdE;rw [ho,hr];show (match lB s.P q with | true=>(0:Int) | false=>_)=0;rw [hb]
         have e2:s.rdB (ofNat q)=lbs s.P q:=by unfold SS.rdB;show (match lB s.P q with | true=>_ | false=>_)= _;rw [hb];rfl
         rw [SS.rdN_64 e1,e1,e2]
         exact con_of_run [] [] ((rreadH_vc s (ofNat q) _).mpr ⟨trivial,fun h=>(by rw [ho] at h;cases h),fun _=>⟨fun _=>⟨d,d,d,trivial,d,d,d,decide_eq_false h0,fun h=>absurd (of_decide_eq_true h) h1,fun _=>⟨trivial,hlen,rreadH_lp s q hb hl,_,_,rfl,ret_is (by kernel_rfl) rfl (by kernel_rfl) (by kernel_rfl) rfl (by refine ⟨?_,?_,?_,?_,?_,?_,trivial⟩<;>kernel_rfl)⟩⟩,fun h=>(by rw [d] at h;cases h)⟩⟩)
       | false=>
         have hi:(0:Int)≤ofNat q∧ofNat q<(s.n:Int):=⟨by simp,by simp;omega⟩
         cases ht:s.torn q with
         | true=>
           have e1:s.rdE (ofNat q)=14:=by unfold SS.rdE;rw [ho,hr];show (match lB s.P q with | true=>(0:Int) | false=>match s.torn q with | true=>14 | false=>0)=14;rw [hb,ht]
           have dt:decide (ofNat (bif s.torn (Int.toNat (ofNat q)) then (0:Nat) else (64:Nat))=(0:Int))=true:=by
            show decide (ofNat (bif s.torn q then (0:Nat) else (64:Nat))=(0:Int))=true
            rw [ht];rfl
           exact bad 14 (by decide) e1 (con_of_run [] [] ((rreadM_vc s (ofNat q) _).mpr ⟨trivial,fun h=>(by rw [ho] at h;cases h),fun _=>⟨fun _=>⟨d,d,d,trivial,d,d,d,decide_eq_false h0,fun h=>absurd (of_decide_eq_true h) h1,fun _=>⟨trivial,hlen,rreadM_lp s q hb hl,trivial,hi,hq,fun _=>⟨_,_,rfl,ret_is (by kernel_rfl) rfl (by kernel_rfl) (by kernel_rfl) rfl (by refine ⟨?_,?_,?_,?_,?_,?_,trivial⟩<;>kernel_rfl)⟩,fun h=>(by rw [dt] at h;cases h)⟩⟩,fun h=>(by rw [d] at h;cases h)⟩⟩))
         | false=>
           have e1:s.rdE (ofNat q)=0:=by unfold SS.rdE;rw [ho,hr];show (match lB s.P q with | true=>(0:Int) | false=>match s.torn q with | true=>14 | false=>0)=0;rw [hb,ht]
           have e2:s.rdB (ofNat q)=s.dur q:=by unfold SS.rdB;show (match lB s.P q with | true=>_ | false=>_)= _;rw [hb];rfl
           have dt:decide (ofNat (bif s.torn (Int.toNat (ofNat q)) then (0:Nat) else (64:Nat))=(0:Int))=false:=by
            show decide (ofNat (bif s.torn q then (0:Nat) else (64:Nat))=(0:Int))=false
            rw [ht];rfl
           rw [SS.rdN_64 e1,e1,e2]
           have key:Con PG 71 [.p 0 0,.i .i64 (ofNat q)] [some (rsA 2 s),some (rsR s),some (rsP s)] (.tup [.sv 1 (bif s.torn q then 0 else 64) fun k _=>.i .u8 (s.dur q k),.i .i64 0]) [.keep,.keep,.keep]:=
            con_of_run [] [] ((rreadM_vc s (ofNat q) _).mpr ⟨trivial,fun h=>(by rw [ho] at h;cases h),fun _=>⟨fun _=>⟨d,d,d,trivial,d,d,d,decide_eq_false h0,fun h=>absurd (of_decide_eq_true h) h1,fun _=>⟨trivial,hlen,rreadM_lp s q hb hl,trivial,hi,hq,fun h=>(by rw [dt] at h;cases h),fun _=>⟨trivial,hi,hq,copied_con _ _ (by show (bif s.torn q then 0 else 64)≤_;rw [ht];decide),_,_,rfl,ret_is (by kernel_rfl) rfl (by kernel_rfl) (by kernel_rfl) rfl (by refine ⟨?_,?_,?_,?_,?_,?_,trivial⟩<;>kernel_rfl)⟩⟩⟩,fun h=>(by rw [d] at h;cases h)⟩⟩)
           rw [ht] at key;exact key
theorem rowsLe {e:TypeId} {sz n m:Nat} {f f':Nat→Nat→CV} (h:m≤n) (hf:∀i j,i<m→j<sz→CW (f i j) (f' i j)):OV (some (.rows e sz n f)) (some (.rows e sz m f')):=by
 refine .x fun x' hx=>?_
 cases hx
 refine ⟨_,rfl,fun hv=>?_,?_⟩
 · have hv:n=0:=hv
   show m=0
   omega
 · rintro ρ p w ⟨c,fr,h1,h2,h3,h4,h5⟩
   refine ⟨c,fr,h1,h2,h3,?_,fun i j hi hj=>?_⟩
   · have:=Nat.mul_le_mul_right sz h
     omega
   · obtain ⟨v',a,b⟩:=h5 i j (by omega) hj
     exact ⟨v',a,hf i j hi hj _ _ b⟩
theorem sv0_cw (sz:Nat) (f g:Nat→Nat→CV):CW (.sv sz 0 f) (.sv sz 0 g):=by
 intro ro v h
 cases h with
 | sv0=>exact .sv0 _ _
 | svz _ _ a c=>exact .svz _ _ a c
 | sv _ _ _ B o cap gg hc _ _=>exact .sv _ _ _ B o cap gg hc (fun i j hi _=>absurd hi (Nat.not_lt_zero _)) (fun i j hi _=>absurd hi (Nat.not_lt_zero _))
def rsZ (n wr:Nat) (am:Int) (off:Bool):AObj:=.cells 56 5 [] (setAll .e 0 [.lr 1 1 0 n false,.l0,.i .i64 (ofNat wr),.i .i64 am,.b off])
theorem rsZ_ov (n wr:Nat) (am:Int) (off:Bool):OV (some (rsZ n wr am off)) (some (rsQ 2 n 0 wr am off)):=
 .cellsD (dflt:=[]) (l:=[.lr 1 1 0 n false,.l0,.i .i64 (ofNat wr),.i .i64 am,.b off]) (l':=[.lr 1 1 0 n false,.lr 2 2 0 0 false,.i .i64 (ofNat wr),.i .i64 am,.b off]) ⟨.refl _,.l0_lr,.refl _,.refl _,.refl _,trivial⟩
theorem laid_img (s:SS) {m:Nat} (h:m≤s.P.length):imgF (laidM s m)=imgF (s.flush m):=by
 unfold laidM
 rw [laid_eq s m h];rfl
theorem rbar2_con (s:SS) (hl:s.P.length≤1073741824) (ha:∀w∈s.P,w.1<s.n):Con PG 46 [.p 0 0] [some (rsA 2 s),some (rsR s),some (rsP s)] (.i .i64 s.faultE) [.set (rsA 2 s.bar),.set (rsR s.bar),.set (rsP s.bar)]:=by
 cases ho:s.off with
 | true=>
   have e0:s.faultE=13:=by unfold SS.faultE;rw [ho];rfl
   have e1:s.bar=s:=by unfold SS.bar;rw [ho]
   rw [e0,e1]
   have k:Con PG 46 [.p 0 0] [some (rsA 2 s),some (rsR s),some (rsP s)] (.i .i64 13) [.keep,.keep,.keep]:=
    con_of_run [] [] ((rbar_vc s _).mpr ⟨trivial,fun _=>⟨_,_,rfl,ret_is (by kernel_rfl) rfl (by kernel_rfl) (by kernel_rfl) rfl (by refine ⟨?_,?_,?_,?_,?_,?_,trivial⟩<;>kernel_rfl)⟩,fun h=>(by rw [ho] at h;cases h)⟩)
   exact k.oeq (OEqL.refl _) (OEqL.refl _)
 | false=>
   have e0:s.faultE=0:=by unfold SS.faultE;rw [ho];rfl
   have e1:s.bar=s.flush s.P.length:=by unfold SS.bar;rw [ho]
   rw [e0,e1]
   have k:Con PG 46 [.p 0 0] [some (rsA 2 s),some (rsR s),some (rsP s)] (.i .i64 0) [.set (rsZ s.n s.wr s.am s.off),.set (.rows 38 1 s.n (imgF (laidM s s.P.length))),.keep]:=
    con_of_run [] [] ((rbar_vc s _).mpr ⟨trivial,fun h=>(by rw [ho] at h;cases h),fun _=>⟨rbarG_lp s hl ha,trivial,_,_,rfl,ret_is (by kernel_rfl) rfl (by kernel_rfl) (by kernel_rfl) rfl (by refine ⟨?_,?_,?_,?_,?_,?_,trivial⟩<;>kernel_rfl)⟩⟩)
   rw [laid_img s (Nat.le_refl _)] at k
   exact k.post (.refl _) ⟨rsZ_ov _ _ _ _,.refl _,rowsLe (Nat.zero_le _) fun i j hi _=>absurd hi (Nat.not_lt_zero _),trivial⟩
theorem appZ_cw {n:Nat} {f g f':Nat→Nat→CV} {i j:Nat} (h1:i<n→CW (f i j) (f' i j)) (h2:n≤i→CW (g (i-n) j) (f' i j)):CW (appZ n f g i j) (f' i j):=by
 cases n with
 | zero=>exact h2 (Nat.zero_le _)
 | succ n=>
   refine (zipCV_CW (Nat.blt i (n+1)) (f i j) (g (i-(n+1)) j)).trans ?_
   by_cases h:i<n+1
   · rw [show Nat.blt i (n+1)=true by rw [Nat.blt_eq];exact h]
     exact h1 h
   · rw [show Nat.blt i (n+1)=false by rw [Bool.eq_false_iff,ne_eq,Nat.blt_eq];exact h]
     exact h2 (by omega)
theorem nthW_lo (w:Nat×(Nat→Int)) (P:PW) {k:Nat} (h:k<P.length):nthW (w :: P) k=nthW P k:=by
 unfold nthW
 rw [show (w :: P).length-1-k=(P.length-1-k)+1 by simp;omega,List.drop_succ_cons]
theorem nthW_hi (w:Nat×(Nat→Int)) (P:PW):nthW (w :: P) P.length=w:=by
 unfold nthW
 rw [show (w :: P).length-1-P.length=0 by simp];rfl
theorem pen_app (q:Nat) (bs:Nat→Int) (P:PW) {i j:Nat} (hi:i<P.length+1) (hj:j<2) :
 CW (appZ P.length (penF (oA P) (oB P)) (fun _ j=>List.getD [CV.i .i64 (ofNat q),CV.sv 1 64 fun k _=>.i .u8 (bs k)] j .p0) i j) (penF (oA ((q,bs) :: P)) (oB ((q,bs) :: P)) i j):=by
 refine appZ_cw (fun h=>.of ?_) (fun h=>.of ?_)
 · unfold penF oA oB
   rw [nthW_lo _ _ h]
 · have:i=P.length:=by omega
   subst this
   unfold penF oA oB
   rw [nthW_hi]
   have hj:j=0∨j=1:=by omega
   rcases hj with rfl | rfl<;>exact Eq.refl _
theorem rwriteOk_con (s:SS) (q:Nat) (bs:Nat→Int) (ok:s.Ok) (hl:s.P.length≤1073741824) (ho:s.off=false) (hq:q<s.n) :
 Con PG 44 [.p 0 0,.i .i64 (ofNat q),.sv 1 64 fun k _=>.i .u8 (bs k)] [some (rsA 2 s),some (rsR s),some (rsP s)] (.i .i64 (s.wrote q bs).payE)
  [.set (rsA 3 (s.wrote q bs).pay),.keep,.gone,.set (rsP (s.wrote q bs).pay)]:=by
 have d0:=nd_f (a:=ofNat q) (b:=0) (by simp)
 have d1:(!decide (ofNat s.n≤ofNat q))=true:=by simp;omega
 have d1':decide (ofNat s.n≤ofNat q)=false:=by simp;omega
 have d2:(!decide (ofNat 64=(64:Int)))=false:=by decide
 have sz:0+s.P.length≤s.P.length∧True∧s.P.length+1≤140737488355328∧(3*(s.P.length+1)+1536)*32≤562949953421312:=⟨by omega,trivial,by omega,by omega⟩
 have hw:(-9223372036854775808:Int)≤ofNat s.wr+1∧ofNat s.wr+1≤(9223372036854775807:Int):=by have:=ok.wr;exact ⟨by simp;omega,by simp;omega⟩
 have fin:∀(s':SS) (am:Int) (off:Bool) (e:Int),s'.n=s.n→s'.P=(q,bs) :: s.P→s'.wr=s.wr+1→am=s'.am→off=s'.off→
  Con PG 44 [.p 0 0,.i .i64 (ofNat q),.sv 1 64 fun k _=>.i .u8 (bs k)] [some (rsA 2 s),some (rsR s),some (rsP s)] (.i .i64 e) [.set (rsQ 3 s.n (addN s.P.length 1) (s.wr+1) am off),.keep,.gone,
   .set (.rows 115 2 (addN s.P.length 1) (appZ s.P.length (penF (oA s.P) (oB s.P)) (fun _ j=>List.getD [CV.i .i64 (ofNat q),CV.sv 1 64 fun k _=>.i .u8 (bs k)] j .p0)))]→
  Con PG 44 [.p 0 0,.i .i64 (ofNat q),.sv 1 64 fun k _=>.i .u8 (bs k)] [some (rsA 2 s),some (rsR s),some (rsP s)] (.i .i64 e) [.set (rsA 3 s'),.keep,.gone,.set (rsP s')]:=fun s' am off e h1 h2 h3 h4 h5 k=>by
  rw [addN_eq] at k
  have e1:rsA 3 s'=rsQ 3 s.n (s.P.length+1) (s.wr+1) am off:=by
   unfold rsA
   rw [h1,h2,h3,h4,h5];rfl
  rw [e1]
  refine k.post (.refl _) ⟨.refl _,.refl _,.refl _,?_,trivial⟩
  unfold rsP
  rw [h2]
  exact .rowsW fun i j hi hj=>pen_app q bs s.P hi hj
 cases ha:s.armed with
 | false=>
   have e1:(s.wrote q bs).pay=s.wrote q bs:=by show (match s.armed with | false=>_ | true=>_)= _;rw [ha]
   have e2:(s.wrote q bs).payE=0:=by show (match s.armed with | false=>(0:Int) | true=>_)= _;rw [ha]
   have em:s.am=-1:=by unfold SS.am;rw [ha];rfl
   rw [e1,e2]
   refine fin (s.wrote q bs) s.am s.off 0 rfl rfl rfl rfl rfl (con_of_run [] [4] ((rwrite_vc s 64 (ofNat q) bs _).mpr ⟨trivial,fun h=>(by rw [ho] at h;cases h),fun _=>⟨fun _=>⟨d0,d0,d0,trivial,d0,d0,d0,decide_eq_false (by simp),fun _=>⟨d1,d1,d1',fun h=>(by rw [d2] at h;cases h),
    fun _=>⟨trivial,copied_con 64 bs (by decide),sz,trivial,trivial,hw,trivial,trivial,fun h=>(by rw [em] at h;cases h),fun _=>⟨trivial,fun h=>(by rw [em] at h;cases h),fun _=>⟨_,_,rfl,?_⟩⟩⟩⟩,fun h=>(by rw [d1] at h;cases h)⟩,fun h=>(by rw [d0] at h;cases h)⟩⟩))
   exact ret_is (by kernel_rfl) rfl (by kernel_rfl) (by kernel_rfl) rfl (by refine ⟨?_,?_,?_,?_,?_,?_,trivial⟩<;>kernel_rfl)
 | true=>
   cases hb:Nat.beq s.left 0 with
   | true=>
     have hl0:s.left=0:=by rwa [Nat.beq_eq] at hb
     have e1:(s.wrote q bs).pay={ s.wrote q bs with off:=true,armed:=false}:=by
      show (match s.armed with | false=>_ | true=>match Nat.beq s.left 0 with | true=>_ | false=>_)= _
      rw [ha,hb]
     have e2:(s.wrote q bs).payE=13:=by
      show (match s.armed with | false=>(0:Int) | true=>match Nat.beq s.left 0 with | true=>13 | false=>0)= _
      rw [ha,hb]
     have em:s.am=0:=by unfold SS.am;rw [ha,hl0];rfl
     rw [e1,e2]
     refine fin { s.wrote q bs with off:=true,armed:=false} (-1) true 13 rfl rfl rfl rfl rfl (con_of_run [] [4] ((rwrite_vc s 64 (ofNat q) bs _).mpr ⟨trivial,fun h=>(by rw [ho] at h;cases h),fun _=>⟨fun _=>⟨d0,d0,d0,trivial,d0,d0,d0,decide_eq_false (by simp),fun _=>⟨d1,d1,d1',fun h=>(by rw [d2] at h;cases h),
      fun _=>⟨trivial,copied_con 64 bs (by decide),sz,trivial,trivial,hw,trivial,trivial,fun _=>⟨trivial,trivial,_,_,rfl,?_⟩,fun h=>(by rw [em] at h;cases h)⟩⟩,fun h=>(by rw [d1] at h;cases h)⟩,fun h=>(by rw [d0] at h;cases h)⟩⟩))
     exact ret_is (by kernel_rfl) rfl (by kernel_rfl) (by kernel_rfl) rfl (by refine ⟨?_,?_,?_,?_,?_,?_,trivial⟩<;>kernel_rfl)
   | false=>
     have hl0:s.left≠0:=by intro e;rw [e] at hb;cases hb
     have e1:(s.wrote q bs).pay={ s.wrote q bs with left:=s.left-1}:=by
      show (match s.armed with | false=>_ | true=>match Nat.beq s.left 0 with | true=>_ | false=>_)= _
      rw [ha,hb];rfl
     have e2:(s.wrote q bs).payE=0:=by
      show (match s.armed with | false=>(0:Int) | true=>match Nat.beq s.left 0 with | true=>13 | false=>0)= _
      rw [ha,hb]
     have em:s.am=ofNat s.left:=by unfold SS.am;rw [ha];rfl
     have hle:=ok.left
     have e3:s.am-1=SS.am { s.wrote q bs with left:=s.left-1}:=by
      rw [em]
      show ofNat s.left-1=(bif s.armed then ofNat (s.left-1) else -1)
      rw [ha];simp;omega
     have dz:decide (s.am=0)=false:=by rw [em];simp;exact hl0
     have dp:decide (0<s.am)=true:=by rw [em];simp;omega
     rw [e1,e2]
     refine fin { s.wrote q bs with left:=s.left-1} (s.am-1) s.off 0 rfl rfl rfl e3 rfl (con_of_run [] [4] ((rwrite_vc s 64 (ofNat q) bs _).mpr ⟨trivial,fun h=>(by rw [ho] at h;cases h),fun _=>⟨fun _=>⟨d0,d0,d0,trivial,d0,d0,d0,decide_eq_false (by simp),fun _=>⟨d1,d1,d1',fun h=>(by rw [d2] at h;cases h),
      fun _=>⟨trivial,copied_con 64 bs (by decide),sz,trivial,trivial,hw,trivial,trivial,fun h=>(by rw [dz] at h;cases h),fun _=>⟨trivial,fun _=>⟨trivial,⟨by rw [em];simp;omega,by rw [em];simp;omega⟩,trivial,_,_,rfl,?_⟩,fun h=>(by rw [dp] at h;cases h)⟩⟩⟩,fun h=>(by rw [d1] at h;cases h)⟩,fun h=>(by rw [d0] at h;cases h)⟩⟩))
     exact ret_is (by kernel_rfl) rfl (by kernel_rfl) (by kernel_rfl) rfl (by refine ⟨?_,?_,?_,?_,?_,?_,trivial⟩<;>kernel_rfl)
theorem rwriteNo_con (s:SS) (i:Int) (L:Nat) (bs:Nat→Int) (h:s.off=true∨¬(0≤i∧i<ofNat s.n∧L=64)) :
 Con PG 44 [.p 0 0,.i .i64 i,.sv 1 L fun k _=>.i .u8 (bs k)] [some (rsA 2 s),some (rsR s),some (rsP s)] (.i .i64 (s.wrE i L)) [.keep,.keep,.keep]:=by
 cases ho:s.off with
 | true=>
   have e1:s.wrE i L=13:=by unfold SS.wrE;rw [ho]
   rw [e1]
   exact con_of_run [] [] ((rwrite_vc s L i bs _).mpr ⟨trivial,fun _=>⟨_,_,rfl,ret_is (by kernel_rfl) rfl (by kernel_rfl) (by kernel_rfl) rfl (by refine ⟨?_,?_,?_,?_,?_,?_,trivial⟩<;>kernel_rfl)⟩,fun h=>(by rw [ho] at h;cases h)⟩)
 | false=>
   have hn:¬(0≤i∧i<ofNat s.n∧L=64):=by
    rcases h with h | h
    · rw [ho] at h;cases h
    · exact h
   have e1:s.wrE i L=2:=by unfold SS.wrE;rw [ho,decide_eq_false hn]
   rw [e1]
   by_cases h0:i<0
   · have d:=nd_t h0
     exact con_of_run [] [] ((rwrite_vc s L i bs _).mpr ⟨trivial,fun h=>(by rw [ho] at h;cases h),fun _=>⟨fun h=>(by rw [d] at h;cases h),fun _=>⟨d,d,d,d,d,d,decide_eq_true h0,_,_,rfl,ret_is (by kernel_rfl) rfl (by kernel_rfl) (by kernel_rfl) rfl (by refine ⟨?_,?_,?_,?_,?_,?_,trivial⟩<;>kernel_rfl)⟩⟩⟩)
   · have d:=nd_f h0
     by_cases h1:ofNat s.n≤i
     · have d1:(!decide (ofNat s.n≤i))=false:=by rw [decide_eq_true h1];rfl
       exact con_of_run [] [] ((rwrite_vc s L i bs _).mpr ⟨trivial,fun h=>(by rw [ho] at h;cases h),fun _=>⟨fun _=>⟨d,d,d,trivial,d,d,d,decide_eq_false h0,fun h=>(by rw [d1] at h;cases h),fun _=>⟨d1,d1,decide_eq_true h1,_,_,rfl,ret_is (by kernel_rfl) rfl (by kernel_rfl) (by kernel_rfl) rfl (by refine ⟨?_,?_,?_,?_,?_,?_,trivial⟩<;>kernel_rfl)⟩⟩,fun h=>(by rw [d] at h;cases h)⟩⟩)
     · have d1:(!decide (ofNat s.n≤i))=true:=by rw [decide_eq_false h1];rfl
       have hL:(!decide (ofNat L=(64:Int)))=true:=by
        have:¬L=64:=fun e=>hn ⟨by omega,by omega,e⟩
        simp;omega
       exact con_of_run [] [] ((rwrite_vc s L i bs _).mpr ⟨trivial,fun h=>(by rw [ho] at h;cases h),fun _=>⟨fun _=>⟨d,d,d,trivial,d,d,d,decide_eq_false h0,fun _=>⟨d1,d1,decide_eq_false h1,fun _=>⟨_,_,rfl,ret_is (by kernel_rfl) rfl (by kernel_rfl) (by kernel_rfl) rfl (by refine ⟨?_,?_,?_,?_,?_,?_,trivial⟩<;>kernel_rfl)⟩,fun h=>(by rw [hL] at h;cases h)⟩,fun h=>(by rw [d1] at h;cases h)⟩,fun h=>(by rw [d] at h;cases h)⟩⟩)
end Go.Proofs.St
namespace Go.Proofs.Jn
open Go Go.Sim Go.Proofs Go.Proofs.Cd Go.Proofs.St Go.Proofs.Cl Go.Proofs.YtbilafnamckglaaDoor
theorem rall_vc (s:SS) (F:Nat→Nat→CV) (K:Res→Orc→Prop):runK PG 1000000 (.call 42 [.p 0 0] (mkH [some (rsA 2 s),some (rsR s),some (rsP s)])) (.lop [0,1,2] [0,3,4] 3 (.exit 0) [(3,.lr 3 1 0 122 false)] [some (rsA 2 s),some (rsR s),some (rsP s),some (.rows 38 1 122 F)] .z) K=(LDoes PG (loopAt PG 42 0) 22 3 (mkT [(0,.p 0 0),(3,.l0),(4,.i .i64 0)]) [some (rsA 2 s),some (rsR s),some (rsP s)] (.exit 0) (mkT [(3,.lr 3 1 0 122 false)]) [some (rsA 2 s),some (rsR s),some (rsP s),some (.rows 38 1 122 F)]∧K (.rv (.lr 3 1 0 122 false) ⟨t1 (rsA 2 s) (t1 (rsR s) (tl (.rows 38 1 122 F)) .e) (tl (rsP s)),4,[3,2,1,0]⟩) .z):=by kernel_rfl
theorem ralA_vc (s:SS) (N:Nat) (D:Nat→Int) (E:Int) (k:Nat) (F:Nat→Nat→CV) (h:decide (ofNat k<122)=true) (K:Res→Orc→Prop):runK PG 1000000 (.code (loopAt PG 42 0) 22 (mkT [(0,.p 0 0),(3,.lr 3 1 0 k false),(4,.i .i64 (ofNat k))]) (mkH [some (rsA 2 s),some (rsR s),some (rsP s),some (.rows 38 1 k F)])) (.t (.cal [0,1,2] (.tup [.sv 1 N fun k x=>CV.i .u8 (D k),.i .i64 E]) [.keep,.keep,.keep] .z)) K=(decide (ofNat k<122)=true∧Con PG 71 [.p 0 0,inv k] [some (rsA 2 s),some (rsR s),some (rsP s)] (.tup [.sv 1 N fun k x=>CV.i .u8 (D k),.i .i64 E]) [.keep,.keep,.keep]∧(0+k≤k∧True∧k+1≤140737488355328∧(3*(k+1)+1536)*24≤562949953421312)∧rg (ofNat k+1)∧K (.st .nrm (t1 (.p 0 0) (t0 (t1 (.lr 5 1 0 (addN k 1) false) (t1 (inv k) (tl (.sv 1 N fun k x=>CV.i .u8 (D k))) .e) (t1 (.tup [.sv 1 N fun k x=>CV.i .u8 (D k),.i .i64 E]) (tl (.l 4 0 1 1 1 true)) .e)) (t1 (.sv 1 N fun k x=>CV.i .u8 (D k)) (t1 (inv k) (tl (.lr 3 1 0 k false)) .e) (tn k))) (t0 (t1 (.i .i64 (ofNat k+1)) (t1 (.b (decide (ofNat k<122))) (tl (.i .i64 E)) .e) (t1 (.p 0 0) (tl (.lr 5 1 0 (addN k 1) false)) .e)) (t1 (.i .i64 E) (t1 (.i .i64 (ofNat k+1)) (tl (.sv 1 N fun k x=>CV.i .u8 (D k))) .e) (tl (.tup [.sv 1 N fun k x=>CV.i .u8 (D k),.i .i64 E]))))) ⟨t1 (rsA 2 s) (t1 (rsR s) (t0 .e .e) (tl (.rows 38 1 (addN k 1) (appZ k F (listF 1 [CV.sv 1 N fun k x=>CV.i .u8 (D k)] 1))))) (t1 (rsP s) (tl
 (.cells 38 1 [] (tl (.sv 1 N fun k x=>CV.i .u8 (D k))))) .e),6,[5,3,4]⟩) .z):=by kernel_rfl
theorem ralB_vc (s:SS) (k:Nat) (F:Nat→Nat→CV) (h:decide (ofNat k<122)=false) (K:Res→Orc→Prop):runK PG 1000000 (.code (loopAt PG 42 0) 22 (mkT [(0,.p 0 0),(3,.lr 3 1 0 k false),(4,.i .i64 (ofNat k))]) (mkH [some (rsA 2 s),some (rsR s),some (rsP s),some (.rows 38 1 k F)])) (.f .z) K=(decide (ofNat k<122)=false∧K (.st (.exit 0) (t1 (.p 0 0) (t0 (t1 (.lr 3 1 0 k false) (tn k) .e) .e) (t0 (t1 (inv k) (tl (.b (decide (ofNat k<122)))) .e) .e)) ⟨t1 (rsA 2 s) (t1 (rsR s) (tl (.rows 38 1 k F)) .e) (tl (rsP s)),4,[]⟩) .z):=by kernel_rfl
theorem rof_vc (n k:Nat) (F:Nat→Nat→CV) (V:AV):runK PG 1000000 (.call 48 [.sv 1 n F,inv k] (mkH [])) (.z) (fun r _=>rvIs V r)=(rg (ofNat k*60)∧rg (2+ofNat k*60)∧rg (ofNat k+1)∧rg ((ofNat k+1)*60)∧rg (2+(ofNat k+1)*60)∧((0:Int)≤(2:Int)+ofNat k*60∧(0:Int)≤(2:Int)+(ofNat k+1)*60∧Int.toNat (2+ofNat k*60)≤Int.toNat (2+(ofNat k+1)*60)∧Int.toNat (2+(ofNat k+1)*60)≤n)∧(AV.sv 1 (Int.toNat (2+(ofNat k+1)*60)-Int.toNat (2+ofNat k*60)) (shiftF (Int.toNat (2+ofNat k*60)) F))=V):=by kernel_rfl
theorem rlN_vc (L:Nat) (gg:Nat→Nat→CV) (hl:decide (ofNat L=64)=false) (V:AV):runK PG 1000000 (.call 72 [.sv 1 L gg] (mkH [])) (.t .z) (fun r _=>rvIs V r)=((!decide (ofNat L=64))=true∧(AV.agg [AV.i .i64 0,AV.i .i64 0,AV.i .i64 0,AV.i .i64 0,AV.l0])=V):=by kernel_rfl
theorem rlookN5_con (b:Nat→Nat) (hz:¬PtOk b) (L:Nat) (gg:Nat→Nat→CV) (h:L≠64):Con PG 72 [.sv 1 L gg] [] (ptV b) []:=by
 have d:decide (ofNat L=(64:Int))=false:=decide_eq_false (by simp;omega)
 exact zeroPt hz (con_pureX (rlN_vc L gg d _) rfl ⟨nt d,rfl⟩)
def alF (s:SS):Nat→Nat→CV:=fun i _=>.sv 1 (s.rdN (ofNat i)) fun k _=>.i .u8 (s.rdB (ofNat i) k)
theorem app_cw (F:Nat→Nat→CV) (v:CV) (k:Nat) (hv:v=F k 0) {i j:Nat} (hi:i<addN k 1) (hj:j<1):CW (appZ k F (listF 1 [v] 1) i j) (F i j):=by
 have:j=0:=by omega
 subst this
 rw [addN_eq] at hi
 subst hv
 cases k with
 | zero=>
   have:i=0:=by omega
   subst this
   exact .of (Eq.refl _)
 | succ k=>
   show CW (zipCV (Nat.blt i (k+1)) (F i 0) (listF 1 [F (k+1) 0] 1 (i-(k+1)) 0)) (F i 0)
   refine (zipCV_CW _ _ _).trans ?_
   by_cases h:i<k+1
   · rw [bltT' h];exact .of (Eq.refl _)
   · have:i=k+1:=by omega
     subst this
     rw [bltF' h,Nat.sub_self];exact .of (Eq.refl _)
def alI (s:SS) (k:Nat):List (Nat×AV)×List (Option AObj):=([(0,.p 0 0),(3,.lr 3 1 0 k false),(4,.i .i64 (ofNat k))],[some (rsA 2 s),some (rsR s),some (rsP s),some (.rows 38 1 k (alF s))])
theorem rall_lp (s:SS) (hl:s.P.length≤1073741824):LDoes PG (loopAt PG 42 0) 22 3 (mkT [(0,.p 0 0),(3,.l0),(4,.i .i64 0)]) [some (rsA 2 s),some (rsR s),some (rsP s)] (.exit 0) (mkT [(3,.lr 3 1 0 122 false)]) [some (rsA 2 s),some (rsR s),some (rsP s),some (.rows 38 1 122 (alF s))]:=by
 have key:LDoes PG (loopAt PG 42 0) 22 3 (mkT (alI s 0).1) (alI s 0).2 (.exit 0) (mkT [(3,.lr 3 1 0 122 false)]) [some (rsA 2 s),some (rsR s),some (rsP s),some (.rows 38 1 122 (alF s))]:=by
  refine loop_indV (D:=Nat) (l':=[(3,.lr 3 1 0 122 false)]) (alI s) (fun k=>122-k) (fun k=>k≤122) ?_ 0 (Nat.zero_le _)
  intro k hk
  by_cases c:k<122
  · have h:decide (ofNat k<(122:Int))=true:=decide_eq_true (by simp;omega)
    refine ⟨by show 3≤4;omega,1000000,_,(ralA_vc s (s.rdN (ofNat k)) (fun j=>s.rdB (ofNat k) j) (s.rdE (ofNat k)) k (alF s) h _).mpr ⟨h,rread2_con s _ hl,⟨by omega,trivial,by omega,by omega⟩,⟨by simp;omega,by simp;omega⟩,
     .inl ⟨k+1,[0,1,2,5],[],_,_,[(0,.p 0 0),(3,.lr 3 1 0 (addN k 1) false),(4,.i .i64 (ofNat k+1))],[some (rsA 2 s),some (rsR s),some (rsP s),some (.rows 38 1 (addN k 1) (appZ k (alF s) (listF 1 [CV.sv 1 (s.rdN (ofNat k)) fun j x=>CV.i .u8 (s.rdB (ofNat k) j)] 1)))],c,by show 122-(k+1)<122-k;omega,rfl,st_k [0,1,2,5] (by kernel_rfl),?_,.refl _,.refl _,.refl _,?_,trivial⟩⟩⟩
    · rw [addN_eq];exact .refl _
    · have:OV (some (.rows 38 1 (addN k 1) (appZ k (alF s) (listF 1 [CV.sv 1 (s.rdN (ofNat k)) fun j x=>CV.i .u8 (s.rdB (ofNat k) j)] 1)))) (some (.rows 38 1 (addN k 1) (alF s))):=.rowsW fun i j hi hj=>app_cw (alF s) _ k rfl hi hj
      rw [addN_eq] at this⊢;exact this
  · have e:k=122:=by omega
    subst e
    have h:decide (ofNat 122<(122:Int))=false:=by decide
    exact ⟨by show 3≤4;omega,1000000,_,(ralB_vc s 122 (alF s) h _).mpr ⟨h,.inr ⟨[0,1,2,3],[],_,_,[(3,.lr 3 1 0 122 false)],[some (rsA 2 s),some (rsR s),some (rsP s),some (.rows 38 1 122 (alF s))],rfl,by simp,st_k [0,1,2,3] (by kernel_rfl),.refl _,.refl _⟩⟩⟩
 refine key.weak ⟨rfl,.inl rfl,rfl,.inr ⟨rfl,.inl ⟨3,1,0,false,rfl⟩⟩,rfl,.inl rfl,trivial⟩ ?_
 exact ⟨.refl _,.refl _,.refl _,fun o ho=>by rw [List.mem_singleton.1 ho];exact ⟨_,rfl,rfl⟩⟩
theorem rall_con (s:SS) (hl:s.P.length≤1073741824):Con PG 42 [.p 0 0] [some (rsA 2 s),some (rsR s),some (rsP s)] (.sv 1 122 (alF s)) [.keep,.keep,.keep]:=by
 have k:Con PG 42 [.p 0 0] [some (rsA 2 s),some (rsR s),some (rsP s)] (.sv 1 122 (shiftF 0 (alF s))) [.keep,.keep,.keep]:=
  con_of_run [3] [] ((rall_vc s (alF s) _).mpr ⟨rall_lp s hl,_,_,rfl,ret_fz [3] ((1=1∧0+122≤122)∧True) (by kernel_rfl) (by kernel_rfl) ⟨⟨rfl,by omega⟩,trivial⟩ (by kernel_rfl) rfl (by kernel_rfl) (by kernel_rfl) rfl ⟨by kernel_rfl,by kernel_rfl,by kernel_rfl,by kernel_rfl,by kernel_rfl,by kernel_rfl,trivial⟩⟩)
 exact k.post (.svW fun i j hi hj=>.of (by rw [shiftF_eq,Nat.zero_add])) (OVL.refl _)
theorem rof_con (a:Nat) (ha:a≤1) (F:Nat→Nat→CV):Con PG 48 [.sv 1 122 F,.i .i64 (ofNat a)] [] (.sv 1 60 fun i j=>F (2+a*60+i) j) []:=by
 have e1:Int.toNat ((2:Int)+ofNat a*60)=2+a*60:=by simp;omega
 have e2:Int.toNat ((2:Int)+(ofNat a+1)*60)=62+a*60:=by simp;omega
 have e3:Int.toNat ((2:Int)+(ofNat a+1)*60)-Int.toNat ((2:Int)+ofNat a*60)=60:=by rw [e1,e2];omega
 have k:Con PG 48 [.sv 1 122 F,.i .i64 (ofNat a)] [] (.sv 1 (Int.toNat ((2:Int)+(ofNat a+1)*60)-Int.toNat ((2:Int)+ofNat a*60)) (shiftF (Int.toNat ((2:Int)+ofNat a*60)) F)) []:=
  con_pureX (rof_vc 122 a F _) rfl ⟨⟨by simp;omega,by simp;omega⟩,⟨by simp;omega,by simp;omega⟩,⟨by simp;omega,by simp;omega⟩,⟨by simp;omega,by simp;omega⟩,⟨by simp;omega,by simp;omega⟩,⟨by simp;omega,by simp;omega,by rw [e1,e2];omega,by rw [e2];omega⟩,rfl⟩
 rw [e3,e1] at k
 exact k.post (.svW fun i j hi hj=>.of (by rw [shiftF_eq])) (OVL.refl _)
theorem rhd_vc (N:Nat) (F:Nat→Nat→CV) (G Q I P L:Nat) (D:Nat→Nat) (odd:Nat) (V:AV):runK PG 1000000 (.call 43 [.sv 1 N F,inv odd] (mkH [])) (.cal [] (AV.agg [AV.i .i64 (ofNat G),AV.i .i64 (ofNat Q),AV.i .i64 (ofNat I),AV.i .i64 (ofNat P),AV.sv 1 L (byF D)]) [] (.s (.t (.t (.f (.s (ot 3 (.f (.s (ot 4 (.f (.s (ot 4 (.f (.s .z .z))) (of_ 4 (.t (.c .z)))))) (of_ 4 (.t (oc 7 .z)))))) (of_ 3 (.t (oc 13 .z))))))) (.f (.f (.t (oc 18 .z)))))) (fun r _=>rvIs V r)=((fun (q4:Bool)=>((fun (q3:Bool)=>((fun (q2:Bool)=>((fun (q1:Bool)=>((fun (q0:Bool)=>(Con PG 72 [AV.sv 1 N F] [] (AV.agg [AV.i .i64 (ofNat G),AV.i .i64 (ofNat Q),AV.i .i64 (ofNat I),AV.i .i64 (ofNat P),AV.sv 1 L (byF D)]) []∧True∧(q3=true→True∧q3=true∧q3=true∧(!decide (ofNat P=1))=false∧(q2=true→True∧q2=true∧q2=true∧q2=true∧(!decide (ofNat Q=0))=false∧(q1=true→True∧q1=true∧q1=true∧((0:Int)≤(0:Int)∧(0:Int)<↑L)∧q1=true∧True∧q1=true∧(!decide (ofNat L=1))=false∧(q0=true→True∧q0=true∧q0=true∧(2:Int)≠(0:Int)∧q0=true∧q0=true∧decide (1<ofNat (D 0))=false∧(q4=true→(AV.tup [AV.i .i64 0,AV.i .i64 0])=V)∧(q4=false→True∧True∧((0:Int)≤(0:Int)∧(0:Int)<↑L)∧True∧rg (ofNat (D 0))∧(AV.tup [AV.i .i64 (ofNat G),AV.i .i64 (ofNat (D 0))])=V))∧(q0=false→q0=false∧q0 =
 false∧q0=false∧q0=false∧decide (1<ofNat (D 0))=true∧(AV.tup [AV.i .i64 0,AV.i .i64 0])=V))∧(q1=false→q1=false∧q1=false∧q1=false∧q1=false∧(!decide (ofNat L=1))=true∧(AV.tup [AV.i .i64 0,AV.i .i64 0])=V))∧(q2=false→q2=false∧q2=false∧q2=false∧(!decide (ofNat Q=0))=true∧(AV.tup [AV.i .i64 0,AV.i .i64 0])=V))∧(q3=false→q3=false∧q3=false∧(!decide (ofNat P=1))=true∧(AV.tup [AV.i .i64 0,AV.i .i64 0])=V))) (!decide (1<ofNat (D 0))))) (!!decide (ofNat L=1)))) (!!decide (ofNat Q=0)))) (!!decide (ofNat P=1)))) (!decide (Int.tmod (ofNat G) 2=ofNat odd))):=by kernel_rfl
theorem rhd_con (b:Nat→Nat) (odd:Nat) (h11:b 11<256) (N:Nat) (F:Nat→Nat→CV) (k:Con PG 72 [.sv 1 N F] [] (ptV b) []) :
 Con PG 43 [.sv 1 N F,.i .i64 (ofNat odd)] [] (.tup [.i .i64 (ofNat (bif hdOk b odd then stG b else 0)),.i .i64 (ofNat (bif hdOk b odd then b 11 else 0))]) []:=by
 have vc:=fun V=>rhd_vc N F (stG b) (stN b) (stI b) (stP b) (stL b) (fun j=>b (11+j)) odd V
 have no:hdOk b odd=false→Con PG 43 [.sv 1 N F,.i .i64 (ofNat odd)] [] (.tup [.i .i64 0,.i .i64 0]) []→Con PG 43 [.sv 1 N F,.i .i64 (ofNat odd)] [] (.tup [.i .i64 (ofNat (bif hdOk b odd then stG b else 0)),.i .i64 (ofNat (bif hdOk b odd then b 11 else 0))]) []:=fun h q=>by rw [h];exact q
 by_cases c1:stP b=1
 rotate_left
 · have d:decide (ofNat (stP b)=(1:Int))=false:=decide_eq_false (by simp;omega)
   refine no (by unfold hdOk hdB;rw [ef c1];simp) (con_pureX (vc _) rfl ⟨k,trivial,?_⟩)
   simp only [d];simp
 have d1:decide (ofNat (stP b)=(1:Int))=true:=decide_eq_true (by rw [c1];rfl)
 by_cases c2:stN b=0
 rotate_left
 · have d:decide (ofNat (stN b)=(0:Int))=false:=decide_eq_false (by simp;omega)
   refine no (by unfold hdOk hdB;rw [ef c2];simp) (con_pureX (vc _) rfl ⟨k,trivial,?_⟩)
   simp only [d1,d];simp
 have d2:decide (ofNat (stN b)=(0:Int))=true:=decide_eq_true (by rw [c2];rfl)
 by_cases c3:stL b=1
 rotate_left
 · have d:decide (ofNat (stL b)=(1:Int))=false:=decide_eq_false (by simp;omega)
   refine no (by unfold hdOk hdB;rw [ef c3];simp) (con_pureX (vc _) rfl ⟨k,trivial,?_⟩)
   simp only [d1,d2,d];simp
 have d3:decide (ofNat (stL b)=(1:Int))=true:=decide_eq_true (by rw [c3];rfl)
 have r3:((0:Int)≤(0:Int)∧(0:Int)<↑(stL b)):=by rw [c3];decide
 by_cases c4:b 11≤1
 rotate_left
 · have d:decide ((1:Int)<ofNat (b (11+0)))=true:=decide_eq_true (by simp;omega)
   refine no (by unfold hdOk hdB;rw [bf c4];simp) (con_pureX (vc _) rfl ⟨k,trivial,?_⟩)
   simp only [d1,d2,d3,d];simp;omega
 have d4:decide ((1:Int)<ofNat (b (11+0)))=false:=decide_eq_false (by simp;omega)
 have tm:Int.tmod (ofNat (stG b)) 2=ofNat (stG b % 2):=rfl
 by_cases c5:stG b % 2=odd
 · have d5:decide (Int.tmod (ofNat (stG b)) 2=ofNat odd)=true:=decide_eq_true (by rw [tm,c5])
   have ok:hdOk b odd=true:=by unfold hdOk hdB;rw [c1,c2,c3,c5,bt c4];simp
   rw [ok,cond_true,cond_true]
   refine con_pureX (vc _) rfl ⟨k,trivial,?_⟩
   simp only [d1,d2,d3,d4,d5];simp;omega
 · have d5:decide (Int.tmod (ofNat (stG b)) 2=ofNat odd)=false:=decide_eq_false (by rw [tm];simp;omega)
   refine no (by unfold hdOk hdB;rw [ef c5];simp) (con_pureX (vc _) rfl ⟨k,trivial,?_⟩)
   simp only [d1,d2,d3,d4,d5];simp;omega
def scF (W:Nat→Nat) (X:Nat→Nat→Nat→CV):Nat→Nat→CV:=fun i _=>.sv 1 (W i) (X i)
def oneT (n gen num i q np:Nat) (W:Nat→Nat) (X:Nat→Nat→Nat→CV):List (Nat×AV):=
 [(0,.sv 1 n (scF W X)),(1,.i .i64 (ofNat gen)),(2,.i .i64 (ofNat num)),(8,.lr 0 1 0 q false),(9,.i .i64 (ofNat np)),(10,.i .i64 (ofNat i))]
def prV (G Q I P L:Nat) (D:Nat→Nat):AV:=.agg [.i .i64 (ofNat G),.i .i64 (ofNat Q),.i .i64 (ofNat I),.i .i64 (ofNat P),.sv 1 L (byF D)]
end Go.Proofs.Jn
