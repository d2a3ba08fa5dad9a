/- Runs over unknown values, told by the kernel: part GB. -/
import Derived.Test.YthhjjpofenjknaaDoorGA
noncomputable section
open Int (ofNat)
set_option linter.unusedSimpArgs false
set_option linter.unusedVariables false
set_option maxRecDepth 20000
namespace Go.Proofs.St
open Go Go.Sim Go.Proofs Go.Proofs.YthhjjpofenjknaaDoor
theorem ordL_vc (L:Nat) (i:Int) (q:Nat) (bs:Nat->Int) (Q:PW) (ff:Nat->Nat->CV) (K:Res->Orc->Prop):runK PG 1000000 (.code (loopAt PG 27 0) 33 (mkT [(3,.lr 0 1 0 L false),(4,.opv true 66 (pW ((q,bs) :: Q))),(5,.i .i64 i)]) (mkH [some (.rows 69 1 L ff)])) (.s .z .z) K=((fun (q0:AV)=>((decide (0<=i)=true->(0<=i/\i<↑L)/\Int.toNat i<L/\true=true/\True/\True/\rg (i-1)/\K (.st .nrm (zz0 (zz0 (zz1 (.lr 0 1 0 L false) (zz0 (zz0 (zzl (.opv (pB Q) 66 (List.rec (motive:=fun x=>Nat->CV) (fun x=>CV.p0) (fun w P ih=>wN (ofNat (Prod.fst w)) (Prod.snd w) (pB P) ih) Q))) .e) (zzl (.i .i64 (i-1)))) (zz0 .e (zzl (.pr 0 1 (Int.toNat i) 0)))) (zz1 (.i .i64 (i-1)) (zz0 .e (zzl (.i .i64 i))) (zz0 (zzl (.b (decide (0<=i)))) (zzl (.pv 66 (pW ((q,bs) :: Q))))))) (zz0 (zz1 (.opv (pB Q) 66 (List.rec (motive:=fun x=>Nat->CV) (fun x=>CV.p0) (fun w P ih=>wN (ofNat (Prod.fst w)) (Prod.snd w) (pB P) ih) Q)) (zz0 .e (zzl (.lr 0 1 0 L false))) (zz0 (zzl (.i .i64 i)) (zzl q0))) (zz0 (zz0 .e (zzl q0)) (zz0 (zzl (.i .i64 i)) (zzl (.pv 1 fun j=>pW ((q,bs) :: Q) (65+j))))))) ⟨zzl (AObj.rows 69 1 L (setRow ff (Int.toNat i) 0 [CV.opv true 66 (pW ((q,bs) :: Q))])),1,[0]⟩) .z)/\(decide (0<=i)=false->K (.st (.exit 0) (zz0 (zz0 (zzl (.lr 0 1 0 L false)) (zz1 (.i .i64 i) .e (zz0 (zzl (.b (decide (0<=i)))) .e))) (zz0 (zz1 q0 .e (zz0 (zzl (.i .i64 i)) .e)) .e)) ⟨zzl (AObj.rows 69 1 L ff),1,[]⟩) .z))) (.opv true 66 (pW ((q,bs)
 :: Q)))):=by kernel_rfl
theorem ordX_vc (L:Nat) (ff:Nat->Nat->CV) (K:Res->Orc->Prop):runK PG 1000000 (.code (loopAt PG 27 0) 33 (mkT [(3,.lr 0 1 0 L false),(4,.opv false 66 (pW [])),(5,.i .i64 (-1))]) (mkH [some (.rows 69 1 L ff)])) (.c .z) K=(K (.st (.exit 0) (zz0 (zz0 (zzl (.lr 0 1 0 L false)) (zz1 (.i .i64 (-1)) .e (zz0 (zzl (.b false)) .e))) (zz0 (zz1 (.opv false 66 (pW [])) .e (zz0 (zzl (.i .i64 (-1))) .e)) .e)) ⟨zzl (AObj.rows 69 1 L ff),1,[]⟩) .z):=by kernel_rfl
def ordF (P:PW):Nat->Nat->CV:=fun k _=>.opv true 66 (pW (P.drop (P.length-1-k)))
theorem ord_lp (P:PW) (hP:P.length<4611686018427387904) (f0:Nat->Nat->CV):LDoes PG (loopAt PG 27 0) 33 1 (mkT [(3,.lr 0 1 0 P.length false),(4,.opv (pB P) 66 (pW P)),(5,.i .i64 (ofNat P.length-1))]) [some (.rows 69 1 P.length f0)]
 (.exit 0) (mkT [(3,.lr 0 1 0 P.length false)]) [some (.rows 69 1 P.length (ordF P))]:=by
 refine loop_indV (D:=Nat×(Nat->Nat->CV)) (l':=[(3,.lr 0 1 0 P.length false)]) (fun d=>([(3,.lr 0 1 0 P.length false),(4,.opv (pB (P.drop d.1)) 66 (pW (P.drop d.1))),(5,.i .i64 (ofNat (P.drop d.1).length-1))],[some (.rows 69 1 P.length d.2)])) (fun d=>P.length-d.1)
  (fun d=>d.1<=P.length/\∀k,P.length-d.1<=k->k<P.length->CW (d.2 k 0) (ordF P k 0)) ?_ (0,f0) ⟨Nat.zero_le _,fun k h1 h2=>by omega⟩
 rintro ⟨m,f⟩ ⟨hm,hf⟩
 simp only at hm hf
 refine ⟨Nat.le_refl 1,?_⟩
 simp only
 cases hd:P.drop m with
 | nil=>
   have hl:P.length<=m:=by simpa using hd
   refine ⟨_,_,(ordX_vc P.length f _).mpr (.inr ⟨[0],[],_,_,_,[some (.rows 69 1 P.length f)],rfl,by simp,st_is (l:=[(3,.lr 0 1 0 P.length false)]) [0] (by kernel_rfl) rfl rfl rfl ⟨by kernel_rfl,by kernel_rfl,trivial⟩ rfl,.refl _,?_⟩)⟩
   refine ⟨.rowsW fun k j hk hj=>?_,trivial⟩
   obtain rfl:j=0:=by omega
   exact hf k (by omega) hk
 | cons w Q=>
   obtain ⟨q,bs⟩:=w
   have hml:m<P.length:=by
    apply Classical.byContradiction
    intro hn
    rw [List.drop_eq_nil_of_le (by omega)] at hd;simp at hd
   have hQl:Q.length=P.length-m-1:=by
    have:=congrArg List.length hd
    simp at this;omega
   have hQ:P.drop (m+1)=Q:=by
    rw [<-List.drop_drop,hd];rfl
   have hi:(ofNat ((q,bs) :: Q).length:Int)-1=ofNat Q.length:=by simp
   rw [hi]
   refine ⟨_,_,(ordL_vc P.length (ofNat Q.length) q bs Q f _).mpr ⟨fun hpos=>?_,fun hneg=>by simp at hneg⟩⟩
   refine ⟨by simp;omega,by simp;omega,rfl,trivial,trivial,by simp;omega,.inl ⟨(m+1,fun k j=>setRow f Q.length 0 [.opv true 66 (pW ((q,bs) :: Q))] k j),[0],[],_,_,[(3,.lr 0 1 0 P.length false),(4,.opv (pB Q) 66 (pW Q)),(5,.i .i64 (ofNat Q.length-1))],[some (.rows 69 1 P.length (setRow f Q.length 0 [.opv true 66 (pW ((q,bs) :: Q))]))],⟨hml,?_⟩,by simp only;omega,rfl,
    st_k [0] (by kernel_rfl),?_,OVL.refl _⟩⟩
   · intro k h1 h2
     simp only at h1⊢
     show CW (zipCV (Nat.beq k Q.length) (.opv true 66 (pW ((q,bs) :: Q))) (f k 0)) _
     refine (zipCV_CW _ _ _).trans ?_
     cases hb:Nat.beq k Q.length with
     | true=>
       have e:=Nat.eq_of_beq_eq_true hb
       subst e
       refine .of ?_
       show CV.opv true 66 (pW ((q,bs) :: Q))=.opv true 66 (pW (P.drop (P.length-1-Q.length)))
       rw [show P.length-1-Q.length=m by omega,hd]
     | false=>
       have e:k≠Q.length:=by rintro rfl;simp at hb
       exact hf k (by omega) h2
   · simp only [hQ]
     exact .refl _
theorem inOrder_vc (s:SS) (hl:s.P.length<4611686018427387904) (K:Res->Orc->Prop):runK PG 1000000 (.call 27 [.p 0 33281] (mkH [some s.o])) (.s (.lop [1] [3,4,5] 1 (.exit 0) [(3,.lr 0 1 0 (List.length (SS.P s)) false)] [some (.rows 69 1 (List.length (SS.P s)) (ordF (SS.P s)))] .z) .z) K=((fun (q0:Nat)=>(True/\True/\(0<=ofNat q0/\ofNat q0<=ofNat q0/\ofNat q0<=1073741824)/\True/\True/\True/\True/\rg (ofNat q0-1)/\LDoes PG (loopAt PG 27 0) 33 1 (mkT [(3,.lr 0 1 0 q0 false),(4,.opv (pB (SS.P s)) 66 (pW (SS.P s))),(5,.i .i64 (ofNat q0-1))]) [some (.rows 69 1 q0 fun x j=>List.getD [CV.p0] j CV.p0)] (.exit 0) (mkT [(3,.lr 0 1 0 q0 false)]) [some (.rows 69 1 q0 (ordF (SS.P s)))]/\K (.rv (.lr 1 1 0 q0 false) ⟨zz1 (SS.o s) (zzl (AObj.rows 69 1 q0 (ordF (SS.P s)))) .e,2,[1,1]⟩) .z)) (List.length (SS.P s))):=by kernel_rfl
def wsF (aa:Nat->Nat) (bb:Nat->Nat->Int) (pp:Nat->Bool) (ww:Nat->Nat->CV):Nat->Nat->CV:=fun k _=>.opv true 66 (wN (ofNat (aa k)) (bb k) (pp k) (ww k))
theorem inOrder_con (s:SS) (hl:s.P.length<=1073741824):Con PG 27 [.p 0 33281] [some s.o] (.sv 1 s.P.length (ordF s.P)) [.keep]:=by
 refine con_of_run [1] [] ((inOrder_vc s (by omega) _).mpr ⟨trivial,trivial,⟨by simp,Int.le_refl _,by simp;omega⟩,trivial,trivial,trivial,trivial,⟨by simp;omega,by simp;omega⟩,ord_lp s.P (by omega) _,_,_,rfl,ret_fz [1] ((1=1/\0+s.P.length<=s.P.length)/\True) (by kernel_rfl) (by kernel_rfl) ⟨⟨rfl,by omega⟩,trivial⟩ (by kernel_rfl) rfl (by kernel_rfl) (by kernel_rfl) rfl ⟨by kernel_rfl,by kernel_rfl,trivial⟩⟩)
theorem setL_vc (s:SS) (L k:Nat) (aa:Nat->Nat) (bb:Nat->Nat->Int) (pp:Nat->Bool) (ww:Nat->Nat->CV) (K:Res->Orc->Prop):runK PG 1000000 (.code (loopAt PG 28 0) 30 (mkT [(0,.p 0 0),(6,.sv 1 L (wsF aa bb pp ww)),(7,.i .i64 (ofNat L)),(8,.i .i64 (ofNat k))]) (mkH [some s.o])) (.s (.s .z .z) .z) K=((fun (q1:AV)=>((fun (q0:Nat)=>((decide (ofNat k<ofNat L)=true->(0<=ofNat k/\ofNat k<↑L)/\True/\true=true/\True/\True/\true=true/\True/\True/\True/\(0<=ofNat (aa k)/\ofNat (aa k)<512)/\aa k<512/\rg (ofNat k+1)/\K (.st .nrm (zz1 (.p 0 0) (zz0 (zz0 (zz1 (inv L) (zzl (.pv 66 fun j=>wN (ofNat (aa k)) (bb q0) (pp k) (ww q0) (0+j))) (zzl (.p 0 1))) (zz1 (.opv true 66 (wN (ofNat (aa q0)) (bb q0) (pp q0) (ww q0))) (zzl (.pv 65 fun j=>wN (ofNat (aa k)) (bb q0) (pp k) (ww q0) (1+j))) .e)) (zz1 (.opv true 66 (wN (ofNat (aa q0)) (bb q0) (pp q0) (ww q0))) (zz1 q1 (zzl (.opv true 66 (wN (ofNat (aa q0)) (bb q0) (pp q0) (ww q0)))) (zzl (.i .i64 (ofNat k+1)))) (zz1 (.opv true 66 (wN (ofNat (aa q0)) (bb q0) (pp q0) (ww q0))) (zzl (.agg [.i .u8 (bb k 0),.i .u8 (bb k 1),.i .u8 (bb k 2),.i .u8 (bb k 3),.i .u8 (bb k 4),.i .u8 (bb k 5),.i .u8 (bb k 6),.i .u8 (bb k 7),.i .u8 (bb k 8),.i .u8 (bb k 9),.i .u8 (bb k 10),.i .u8 (bb k 11),.i .u8 (bb k 12),.i .u8 (bb k 13),.i .u8 (bb k 14),.i .u8 (bb k 15),.i .u8 (bb k 16),.i .u8 (bb k 17),.i .u8 (bb k 18),.i .u8 (bb k 19),.i .u8 (bb k 20),.i .u8 (bb k 21),.i .u8 (bb k 22),.i .u8 (bb k 23),.i .u8 (bb k 24),.i .u8 (bb k 25),.i .u8 (bb k 26),.i .u8 (bb k 27),.i .u8 (bb k 28),.i .u8 (bb k 29),.i .u8 (bb k 30),.i .u8 (bb k 31),.i .u8 (bb k 32),.i .u8 (bb k 33),.i .u8 (bb k 34),.i .u8 (bb k 35),.i .u8 (bb k 36),.i .u8 (bb k 37),.i .u8 (bb k 38),.i .u8 (bb k 39),.i .u8 (bb k 40),.i .u8 (bb k 41),.i .u8 (bb k 42),.i .u8 (bb k 43),.i .u8 (bb k 44),.i .u8 (bb k 45),.i .u8 (bb k 46),.i .u8 (bb k 47),.i .u8 (bb k 48),.i .u8 (bb k 49),.i .u8 (bb k 50),.i .u8 (bb k 51),.i .u8 (bb k 52),.i .u8 (bb k 53),.i .u8 (bb k 54),.i .u8 (bb k 55),.i .u8 (bb k 56),.i .u8 (bb k 57),.i .u8 (bb k 58),.i .u8 (bb k 59),.i .u8 (bb k 60),.i .u8 (bb k 61),.i .u8 (bb k 62),.i .u8 (bb k 63),.b false])) .e))) (zz0 (zz0 (zz1 (.i .i64 (ofNat k+1)) (zzn (aa k)) (zzl (.ps 0 1 65 512 (aa k)))) (zz1 (.p 0 0) (zzl (.agg [.i .u8 (bb k 0),.i .u8 (bb k 1),.i .u8 (bb k 2),.i .u8 (bb k 3),.i .u8 (bb k 4),.i .u8 (bb k 5),.i .u8 (bb k 6),.i .u8 (bb k 7),.i .u8 (bb k 8),.i .u8 (bb k 9),.i .u8 (bb k 10),.i .u8 (bb k 11),.i .u8 (bb k 12),.i .u8 (bb k 13),.i .u8 (bb k 14),.i .u8 (bb k 15),.i .u8 (bb k 16),.i .u8 (bb k 17),.i .u8 (bb k 18),.i .u8 (bb k 19),.i .u8 (bb k 20),.i .u8 (bb k 21),.i .u8 (bb k 22),.i .u8 (bb k 23),.i .u8 (bb k 24),.i .u8 (bb k 25),.i .u8 (bb k 26),.i .u8 (bb k 27),.i .u8 (bb k 28),.i .u8 (bb k 29),.i .u8 (bb k 30),.i .u8 (bb k 31),.i .u8 (bb k 32),.i .u8 (bb k 33),.i .u8 (bb k 34),.i .u8 (bb k 35),.i .u8 (bb k 36),.i .u8 (bb k 37),.i .u8 (bb k 38),.i .u8 (bb k 39),.i .u8 (bb k 40),.i .u8 (bb k 41),.i .u8 (bb k 42),.i .u8 (bb k 43),.i .u8 (bb k 44),.i .u8 (bb k 45),.i .u8 (bb k 46),.i .u8 (bb k 47),.i .u8 (bb k 48),.i .u8 (bb k 49),.i .u8 (bb k 50),.i .u8 (bb k 51),.i .u8 (bb k 52),.i .u8 (bb k 53),.i .u8 (bb k 54),.i .u8 (bb k 55),.i .u8 (bb k 56),.i .u8 (bb k 57),.i .u8 (bb k 58),.i .u8 (bb k 59),.i .u8 (bb k 60),.i .u8 (bb k 61),.i .u8 (bb k 62),.i .u8 (bb k 63)])) .e)) (zz1 (.sv 1 L (wsF aa bb pp ww)) (zz1 (.pv 1 (wsF aa bb pp ww k)) (zzl (.pv 66 (wN (ofNat (aa q0)) (bb q0) (pp q0) (ww q0)))) .e) (zz1 (.pv 66 (wN (ofNat (aa q0)) (bb q0) (pp q0) (ww q0))) (zzl (.p 0 0)) .e)))) ⟨zzl (AObj.segs 74 33799 [⟨0,1,1,oneF (CV.i .i64 (ofNat (SS.n s)))⟩,⟨1,65,512,setRow (fun i j=>match Nat.blt j 64 with | true=>CV.i .u8 (SS.dur s i j) | false=>CV.b (SS.torn s i)) (aa k) 0 [CV.i .u8 (bb k 0),CV.i .u8 (bb k 1),CV.i .u8 (bb k 2),CV.i .u8 (bb k 3),CV.i .u8 (bb k 4),CV.i .u8 (bb k 5),CV.i .u8 (bb k 6),CV.i .u8 (bb k 7),CV.i .u8 (bb k 8),CV.i .u8 (bb k 9),CV.i .u8 (bb k 10),CV.i .u8 (bb k 11),CV.i .u8 (bb k 12),CV.i .u8 (bb k 13),CV.i .u8 (bb k 14),CV.i .u8 (bb k 15),CV.i .u8 (bb k 16),CV.i .u8 (bb k 17),CV.i .u8 (bb k 18),CV.i .u8 (bb k 19),CV.i .u8 (bb k 20),CV.i .u8 (bb k 21),CV.i .u8 (bb k 22),CV.i .u8 (bb k 23),CV.i .u8 (bb k 24),CV.i .u8 (bb k 25),CV.i .u8 (bb k 26),CV.i .u8 (bb k 27),CV.i .u8 (bb k 28),CV.i .u8 (bb k 29),CV.i .u8 (bb k 30),CV.i .u8 (bb k 31),CV.i .u8 (bb k 32),CV.i .u8 (bb k 33),CV.i .u8 (bb k 34),CV.i .u8 (bb k 35),CV.i .u8 (bb k 36),CV.i .u8 (bb k 37),CV.i .u8 (bb k 38),CV.i .u8 (bb k 39),CV.i .u8 (bb k 40),CV.i .u8 (bb k 41),CV.i .u8 (bb k 42),CV.i .u8 (bb k 43),CV.i .u8 (bb k 44),CV.i .u8 (bb k 45),CV.i .u8 (bb k 46),CV.i .u8 (bb k 47),CV.i .u8 (bb k 48),CV.i .u8 (bb k 49),CV.i .u8 (bb k 50),CV.i .u8 (bb k 51),CV.i .u8 (bb k 52),CV.i .u8 (bb k 53),CV.i .u8 (bb k 54),CV.i .u8 (bb k 55),CV.i .u8 (bb k 56),CV.i .u8 (bb k 57),CV.i .u8 (bb k 58),CV.i .u8 (bb k 59),CV.i .u8 (bb k 60),CV.i .u8 (bb k 61),CV.i .u8 (bb k 62),CV.i .u8 (bb k 63),CV.b false]⟩,⟨33281,1,1,oneF (CV.opv (pB (SS.P s)) 66 (pW (SS.P s)))⟩,⟨33282,1,512,latF (lB (SS.P s)) (lW (SS.P s))⟩,⟨33794,5,1,tailF (ofNat (List.length (SS.P s))) (ofNat (SS.wr s)) (SS.off s) (SS.armed s) (ofNat (SS.left s))⟩]),1,[0]⟩) .z)/\(decide (ofNat k<ofNat L)=false->K (.st (.exit 0) (zz1 (.p 0 0) (zz0 (zz0 (zzn L) .e) (zz0 (zzl q1) .e)) (zz0 (zz0 (zzn k) .e) (zzl (.sv 1 L (wsF aa bb pp ww))))) ⟨zzl (SS.o s),1,[]⟩) .z))) (Int.toNat (ofNat k)))) (.b (decide (ofNat k<ofNat L)))):=by kernel_rfl
def cellsP (bs:Nat->Int) (tb:Bool):List CV:=Nat.rec (motive:=fun _=>Nat->List CV) (fun _=>[.b tb]) (fun _ ih o=>.i .u8 (bs o) :: ih (o+1)) 64 0
theorem cellsP_at (bs:Nat->Int) (tb:Bool) (j:Nat) (hj:j<65):(cellsP bs tb)[j]? =some (match Nat.blt j 64 with | true=>.i .u8 (bs j) | false=>.b tb):=by
 have key:∀(m o k:Nat),k<=m->(Nat.rec (motive:=fun _=>Nat->List CV) (fun _=>[CV.b tb]) (fun _ ih o=>CV.i .u8 (bs o) :: ih (o+1)) m o)[k]? =some (match Nat.blt k m with | true=>CV.i .u8 (bs (o+k)) | false=>CV.b tb):=by
  intro m
  induction m with
  | zero=>intro o k hk;obtain rfl:k=0:=by omega
          rfl
  | succ m ih=>
    intro o k hk
    cases k with
    | zero=>rfl
    | succ k=>
      have h1:=ih (o+1) k (by omega)
      have e:Nat.blt (k+1) (m+1)=Nat.blt k m:=by
       rw [Bool.eq_iff_iff,Nat.blt_eq,Nat.blt_eq];omega
      rw [e]
      show (Nat.rec (motive:=fun _=>Nat->List CV) (fun _=>[CV.b tb]) (fun _ ih o=>CV.i .u8 (bs o) :: ih (o+1)) m (o+1))[k]? = _
      rw [h1,show o+1+k=o+(k+1) by omega]
 have h1:=key 64 0 j (by omega)
 rw [Nat.zero_add] at h1
 exact h1
def setD (dur:Nat->Nat->Int) (q:Nat) (bs:Nat->Int):Nat->Nat->Int:=fun i=>bif Nat.beq i q then bs else dur i
def setT (torn:Nat->Bool) (q:Nat) (tb:Bool):Nat->Bool:=fun i=>bif Nat.beq i q then tb else torn i
theorem setP (dur:Nat->Nat->Int) (torn:Nat->Bool) (q:Nat) (bs:Nat->Int) (tb:Bool) (i j:Nat) (hj:j<65):CW (setRow (durF dur torn) q 0 (cellsP bs tb) i j) (durF (setD dur q bs) (setT torn q tb) i j):=by
 have e:setRow (durF dur torn) q 0 (cellsP bs tb) i j=zipCV (Nat.beq i q) (match Nat.blt j 64 with | true=>.i .u8 (bs j) | false=>.b tb) (durF dur torn i j):=by
  unfold setRow
  rw [show Nat.ble 0 j=true by simp]
  simp only [Nat.sub_zero]
  rw [cellsP_at bs tb j hj]
 rw [e]
 refine (zipCV_CW _ _ _).trans (.of ?_)
 unfold durF setD setT
 cases Nat.beq i q<;>cases Nat.blt j 64<;>rfl
def SS.lay (s:SS) (q:Nat) (bs:Nat->Int) (tb:Bool):SS:={ s with dur:=setD s.dur q bs,torn:=setT s.torn q tb}
def SS.laid (s:SS) (aa:Nat->Nat) (bb:Nat->Nat->Int):Nat->SS
 | 0=>s
 | k+1=>(s.laid aa bb k).lay (aa k) (bb k) false
def layO (s:SS) (q:Nat) (bs:Nat->Int) (tb:Bool):AObj:=
 .segs 74 33799 [⟨0,1,1,oneF (.i .i64 (ofNat s.n))⟩,⟨1,65,512,setRow (durF s.dur s.torn) q 0 (cellsP bs tb)⟩,⟨33281,1,1,oneF (.opv (pB s.P) 66 (pW s.P))⟩,⟨33282,1,512,latF (lB s.P) (lW s.P)⟩,⟨33794,5,1,tailF (ofNat s.P.length) (ofNat s.wr) s.off s.armed (ofNat s.left)⟩]
theorem lay_ov (s:SS) (q:Nat) (bs:Nat->Int) (tb:Bool):OV (some (layO s q bs tb)) (some (s.lay q bs tb).o):=
 .segsW ⟨.refl _,⟨rfl,rfl,rfl,fun i j _ hj=>setP _ _ _ _ _ i j hj⟩,.refl _,.refl _,.refl _,trivial⟩
theorem settle_lp (s:SS) (L:Nat) (aa:Nat->Nat) (bb:Nat->Nat->Int) (pp:Nat->Bool) (ww:Nat->Nat->CV) (hL:L<4611686018427387904) (ha:∀k,k<L->aa k<512) :
 LDoes PG (loopAt PG 28 0) 30 1 (mkT [(0,.p 0 0),(6,.sv 1 L (wsF aa bb pp ww)),(7,.i .i64 (ofNat L)),(8,.i .i64 0)]) [some s.o] (.exit 0) (mkT [(0,.p 0 0)]) [some (s.laid aa bb L).o]:=by
 refine loop_indV (D:=Nat) (l':=[(0,.p 0 0)]) (fun k=>([(0,.p 0 0),(6,.sv 1 L (wsF aa bb pp ww)),(7,.i .i64 (ofNat L)),(8,.i .i64 (ofNat k))],[some (s.laid aa bb k).o])) (fun k=>L-k) (fun k=>k<=L) ?_ 0 (Nat.zero_le _)
 intro k hk
 refine ⟨Nat.le_refl 1,_,_,(setL_vc (s.laid aa bb k) L k aa bb pp ww _).mpr ⟨fun hlt=>?_,fun hge=>?_⟩⟩
 · have hlt:k<L:=by simpa using hlt
   have h5:=ha k hlt
   refine ⟨⟨by simp,by simp;omega⟩,trivial,rfl,trivial,trivial,rfl,trivial,trivial,trivial,⟨by simp,by simp;omega⟩,h5,⟨by simp;omega,by simp;omega⟩,.inl ⟨k+1,[0],[],_,_,[(0,.p 0 0),(6,.sv 1 L (wsF aa bb pp ww)),(7,.i .i64 (ofNat L)),(8,.i .i64 (ofNat k+1))],[some (layO (s.laid aa bb k) (aa k) (bb k) false)],by omega,by simp only;omega,rfl,
    st_k [0] (by kernel_rfl),.refl _,lay_ov _ _ _ _,trivial⟩⟩
 · have:k=L:=by simp at hge;omega
   subst this
   exact .inr ⟨[0],[],_,_,[(0,.p 0 0)],[some (s.laid aa bb k).o],rfl,by simp,st_k [0] (by kernel_rfl),.refl _,OVL.refl _⟩
def zBuf:List CV:=Nat.rec (motive:=fun _=>List CV) [.i .i64 0] (fun _ ih=>.p0 :: ih) 513
theorem settle_vc (s:SS) (L:Nat) (aa:Nat->Nat) (bb:Nat->Nat->Int) (pp:Nat->Bool) (ww:Nat->Nat->CV) (hL:L<4611686018427387904) (ha:∀k,k<L->aa k<512) (K:Res->Orc->Prop):runK PG 1000000 (.call 28 [.p 0 0,.sv 1 L (wsF aa bb pp ww)] (mkH [some s.o])) (.lop [0] [0,6,7,8] 1 (.exit 0) [(0,.p 0 0)] [some (SS.o (SS.laid s aa bb L))] .z) K=(LDoes PG (loopAt PG 28 0) 30 1 (mkT [(0,.p 0 0),(6,.sv 1 L (wsF aa bb pp ww)),(7,.i .i64 (ofNat L)),(8,.i .i64 0)]) [some (SS.o s)] (.exit 0) (mkT [(0,.p 0 0)]) [some (SS.o (SS.laid s aa bb L))]/\True/\True/\K (.rv (.tup []) ⟨zzl (AObj.segs 74 33799 [⟨0,1,1,oneF (CV.i .i64 (ofNat (SS.n (SS.laid s aa bb L))))⟩,⟨1,65,512,durF (SS.dur (SS.laid s aa bb L)) (SS.torn (SS.laid s aa bb L))⟩,⟨33281,1,1,fun i j=>List.getD zBuf (33281-33281+i*1+j) CV.p0⟩,⟨33282,1,512,fun i j=>List.getD zBuf (33282-33281+i*1+j) CV.p0⟩,⟨33794,5,1,fun i j=>match Nat.ble 33281 (33794+i*5+j) && Nat.blt (33794+i*5+j) 33795 with | true=>List.getD zBuf (33794+i*5+j-33281) CV.p0 | false=>Seg.f ⟨33794,5,1,tailF (ofNat (List.length (SS.P (SS.laid s aa bb L)))) (ofNat (SS.wr (SS.laid s aa bb L))) (SS.off (SS.laid s aa bb L)) (SS.armed (SS.laid s aa bb L)) (ofNat (SS.left (SS.laid s aa bb L)))⟩ i j⟩]),1,[0,0]⟩) .z):=by kernel_rfl
theorem zBuf_at (k:Nat) (h:k<513):zBuf.getD k .p0=.p0:=by
 have key:∀(m k:Nat),k<m->(Nat.rec (motive:=fun _=>List CV) [CV.i .i64 0] (fun _ ih=>CV.p0 :: ih) m:List CV).getD k .p0=.p0:=by
  intro m
  induction m with
  | zero=>intro k hk;omega
  | succ m ih=>
    intro k hk
    cases k with
    | zero=>rfl
    | succ k=>exact ih k (by omega)
 exact key 513 k h
def zO (s:SS):AObj:=
 .segs 74 33799 [⟨0,1,1,oneF (.i .i64 (ofNat s.n))⟩,⟨1,65,512,durF s.dur s.torn⟩,⟨33281,1,1,fun i j=>zBuf.getD (33281-33281+i*1+j) .p0⟩,⟨33282,1,512,fun i j=>zBuf.getD (33282-33281+i*1+j) .p0⟩,
  ⟨33794,5,1,overF 33281 zBuf 33794 5 (tailF (ofNat s.P.length) (ofNat s.wr) s.off s.armed (ofNat s.left))⟩]
theorem p0_opv (sz:Nat) (f:Nat->CV):CW .p0 (.opv false sz f):=by
 intro ro v h
 cases h;exact .op0 _ _
def SS.void (s:SS):SS:={ s with P:=[]}
theorem z_ov (s:SS):OV (some (zO s)) (some s.void.o):=by
 refine .segsW ⟨.refl _,.refl _,⟨rfl,rfl,rfl,fun i j hi hj=>?_⟩,⟨rfl,rfl,rfl,fun i j hi hj=>?_⟩,⟨rfl,rfl,rfl,fun i j hi hj=>?_⟩,trivial⟩
 · have hi:i<1:=hi
   have hj:j<1:=hj
   show CW (zBuf.getD (33281-33281+i*1+j) .p0) (.opv false 66 _)
   rw [zBuf_at _ (by omega)];exact p0_opv _ _
 · have hi:i<512:=hi
   have hj:j<1:=hj
   show CW (zBuf.getD (33282-33281+i*1+j) .p0) (.opv false 66 _)
   rw [zBuf_at _ (by omega)];exact p0_opv _ _
 · have hi:i=0:=by have:i<1:=hi;omega
   have hj:j<5:=hj
   subst hi
   have:j=0\/j=1\/j=2\/j=3\/j=4:=by omega
   rcases this with rfl | rfl | rfl | rfl | rfl<;>exact .of (by kernel_rfl)
theorem settle_con (s:SS) (L:Nat) (aa:Nat->Nat) (bb:Nat->Nat->Int) (pp:Nat->Bool) (ww:Nat->Nat->CV) (hL:L<4611686018427387904) (ha:∀k,k<L->aa k<512) :
 Con PG 28 [.p 0 0,.sv 1 L (wsF aa bb pp ww)] [some s.o] (.tup []) [.set (s.laid aa bb L).void.o]:=
 (con_of_run (us:=[.set (zO (s.laid aa bb L))]) [] [] ((settle_vc s L aa bb pp ww hL ha _).mpr ⟨settle_lp s L aa bb pp ww hL ha,trivial,trivial,_,_,rfl,ret_k (by kernel_rfl)⟩)).post (.refl _) ⟨z_ov _,trivial⟩
def nthW (P:PW) (k:Nat):Nat×(Nat->Int):=(P.drop (P.length-1-k)).headD (0,fun _=>0)
def oA (P:PW):Nat->Nat:=fun k=>(nthW P k).1
def oB (P:PW):Nat->Nat->Int:=fun k=>(nthW P k).2
def oP (P:PW):Nat->Bool:=fun k=>pB (P.drop (P.length-1-k)).tail
def oW (P:PW):Nat->Nat->CV:=fun k=>pW (P.drop (P.length-1-k)).tail
theorem inOrder2_con (s:SS) (hl:s.P.length<=1073741824):Con PG 27 [.p 0 33281] [some s.o] (.sv 1 s.P.length (wsF (oA s.P) (oB s.P) (oP s.P) (oW s.P))) [.keep]:=by
 refine (inOrder_con s hl).post (.svW fun i j hi hj=>.of ?_) (OVL.refl _)
 unfold ordF wsF oA oB oP oW nthW
 cases h:s.P.drop (s.P.length-1-i) with
 | nil=>
   have:=congrArg List.length h
   simp at this;omega
 | cons w Q=>rfl
def durL (dur:Nat->Nat->Int):PW->Nat->Nat->Int
 | []=>dur
 | w :: P=>setD (durL dur P) w.1 w.2
def tornL (torn:Nat->Bool):PW->Nat->Bool
 | []=>torn
 | w :: P=>setT (tornL torn P) w.1 false
theorem laid_eq (s:SS):∀m,m<=s.P.length->s.laid (oA s.P) (oB s.P) m={ s with dur:=durL s.dur (s.P.drop (s.P.length-m)),torn:=tornL s.torn (s.P.drop (s.P.length-m))}:=by
 intro m
 induction m with
 | zero=>intro _;rw [Nat.sub_zero,List.drop_length];rfl
 | succ m ih=>
   intro hm
   show (s.laid (oA s.P) (oB s.P) m).lay (oA s.P m) (oB s.P m) false= _
   rw [ih (by omega)]
   have e1:s.P.length-1-m=s.P.length-(m+1):=by omega
   unfold oA oB nthW
   rw [e1]
   cases h:s.P.drop (s.P.length-(m+1)) with
   | nil=>
     have:=congrArg List.length h
     simp at this;omega
   | cons w Q=>
     have hQ:s.P.drop (s.P.length-m)=Q:=by
      rw [show s.P.length-m=(s.P.length-(m+1))+1 by omega,<-List.drop_drop,h];rfl
     rw [hQ]
     rfl
def SS.flush (s:SS) (m:Nat):SS:={ s with dur:=durL s.dur (s.P.drop (s.P.length-m)),torn:=tornL s.torn (s.P.drop (s.P.length-m)),P:=[]}
theorem flush_con (s:SS) (m:Nat) (hl:s.P.length<=1073741824) (hm:m<=s.P.length) (h:∀w∈s.P,w.1<512) :
 Con PG 28 [.p 0 0,.sv 1 m (wsF (oA s.P) (oB s.P) (oP s.P) (oW s.P))] [some s.o] (.tup []) [.set (s.flush m).o]:=by
 have h1:=settle_con s m (oA s.P) (oB s.P) (oP s.P) (oW s.P) (by omega) (fun k hk=>by
  unfold oA nthW
  cases hd:s.P.drop (s.P.length-1-k) with
  | nil=>simp
  | cons w Q=>exact h w (List.mem_of_mem_drop (by rw [hd];exact List.mem_cons_self)))
 rw [laid_eq s m hm] at h1
 exact h1
theorem barrier_vc (s:SS) (hl:s.P.length<=1073741824) (ha:∀q∈s.P,q.1<512) (K:Res->Orc->Prop):runK PG 1000000 (.call 71 [.p 0 0] (mkH [some s.o])) (.cal [0] (.i .i64 (SS.faultE s)) [.keep] (.s .z (.cal [0] (.sv 1 (List.length (SS.P s)) (wsF (oA (SS.P s)) (oB (SS.P s)) (oP (SS.P s)) (oW (SS.P s)))) [.keep] (.cal [0] (.tup []) [.set (SS.o (SS.flush s (List.length (SS.P s))))] .z)))) K=((fun (q1:Nat->Nat->CV)=>((fun (q0:Nat)=>(Con PG 58 [.p 0 0] [some (SS.o s)] (.i .i64 (SS.faultE s)) [.keep]/\((!decide (SS.faultE s=0))=true->K (.rv (.i .i64 (SS.faultE s)) ⟨zzl (SS.o s),1,[]⟩) .z)/\((!decide (SS.faultE s=0))=false->True/\Con PG 27 [.p 0 33281] [some (SS.o s)] (.sv 1 q0 q1) [.keep]/\Con PG 28 [.p 0 0,.sv 1 q0 q1] [some (SS.o s)] (.tup []) [.set (SS.o (SS.flush s q0))]/\K (.rv (.i .i64 0) ⟨zzl (SS.o (SS.flush s q0)),1,[0]⟩) .z))) (List.length (SS.P s)))) (wsF (oA (SS.P s)) (oB (SS.P s)) (oP (SS.P s)) (oW (SS.P s)))):=by kernel_rfl
theorem revive_vc (s:SS) (kk:Int) (tt:Bool) (hl:s.P.length<=1073741824) (ha:∀q∈s.P,q.1<512) (K:Res->Orc->Prop):runK PG 1000000 (.call 18 [.p 0 0,.i .i64 kk,.b tt] (mkH [some s.o])) (.c (.s .z (.cal [0] (.sv 1 (List.length (SS.P s)) (wsF (oA (SS.P s)) (oB (SS.P s)) (oP (SS.P s)) (oW (SS.P s)))) [.keep] (.cal [0] (.tup []) [.set (SS.o (SS.flush s (Int.toNat (kpI kk (ofNat (List.length (SS.P s)))))))] (.s (ot 4 (.s (.s .z .z) .z)) (of_ 4 (.c .z))))))) K=((fun (q0:SS)=>(True/\True/\True/\True/\((!SS.off s)=true->K (.rv (.i .i64 26) ⟨zzl (SS.o s),1,[]⟩) .z)/\((!SS.off s)=false->True/\Con PG 27 [.p 0 33281] [some (SS.o s)] (.sv 1 (List.length (SS.P s)) (wsF (oA (SS.P s)) (oB (SS.P s)) (oP (SS.P s)) (oW (SS.P s)))) [.keep]/\(True/\(0<=if ofNat (List.length (SS.P s))<if 0>kk then 0 else kk then ofNat (List.length (SS.P s)) else if 0>kk then 0 else kk)/\0<=Int.toNat (kpI kk (ofNat (List.length (SS.P s))))/\Int.toNat (kpI kk (ofNat (List.length (SS.P s))))<=List.length (SS.P s))/\Con PG 28 [.p 0 0,.sv 1 (Int.toNat (kpI kk (ofNat (List.length (SS.P s))))) (wsF (oA (SS.P s)) (oB (SS.P s)) (oP (SS.P s)) (oW (SS.P s)))] [some (SS.o s)] (.tup []) [.set (SS.o q0)]/\(tt=true->tt=true/\tt=true/\tt=true/\tt=true/\(decide ((kpI kk (ofNat (List.length (SS.P s))))<ofNat (List.length (SS.P s)))=true->((0<=if ofNat (List.length (SS.P s))<if 0>kk then 0 else kk then ofNat (List.length (SS.P s)) else if 0>kk then 0 else kk)/\(kpI kk (ofNat (List.length (SS.P s))))<↑(List.length (SS.P s)))/\True/\true=true/\True/\True/\True/\(0<=ofNat (oA (SS.P s) (Int.toNat (kpI kk (ofNat (List.length (SS.P s))))))/\ofNat (oA (SS.P s) (Int.toNat (kpI kk (ofNat (List.length (SS.P s))))))<512)/\oA (SS.P s) (Int.toNat (kpI kk (ofNat (List.length (SS.P s)))))<512/\True/\True/\K (.rv (.i .i64 0) ⟨zzl (AObj.segs 74 33799 [⟨0,1,1,oneF (CV.i .i64 (ofNat (SS.n q0)))⟩,⟨1,65,512,setRow (fun i j=>match Nat.blt j 64 with | true=>CV.i .u8 (SS.dur q0 i j) | false=>CV.b (SS.torn q0 i)) (oA (SS.P s) (Int.toNat (kpI kk (ofNat (List.length (SS.P s)))))) 0 [CV.i .u8 0,CV.i .u8 0,CV.i .u8 0,CV.i .u8 0,CV.i .u8 0,CV.i .u8 0,CV.i .u8 0,CV.i .u8 0,CV.i .u8 0,CV.i .u8 0,CV.i .u8 0,CV.i .u8 0,CV.i .u8 0,CV.i .u8 0,CV.i .u8 0,CV.i .u8 0,CV.i .u8 0,CV.i .u8 0,CV.i .u8 0,CV.i .u8 0,CV.i .u8 0,CV.i .u8 0,CV.i .u8 0,CV.i .u8 0,CV.i .u8 0,CV.i .u8 0,CV.i .u8 0,CV.i .u8 0,CV.i .u8 0,CV.i .u8 0,CV.i .u8 0,CV.i .u8 0,CV.i .u8 0,CV.i .u8 0,CV.i .u8 0,CV.i .u8 0,CV.i .u8 0,CV.i .u8 0,CV.i .u8 0,CV.i .u8 0,CV.i .u8 0,CV.i .u8 0,CV.i .u8 0,CV.i .u8 0,CV.i .u8 0,CV.i .u8 0,CV.i .u8 0,CV.i .u8 0,CV.i .u8 0,CV.i .u8 0,CV.i .u8 0,CV.i .u8 0,CV.i .u8 0,CV.i .u8 0,CV.i .u8 0,CV.i .u8 0,CV.i .u8 0,CV.i .u8 0,CV.i .u8 0,CV.i .u8 0,CV.i .u8 0,CV.i .u8 0,CV.i .u8 0,CV.i .u8 0,CV.b true]⟩,⟨33281,1,1,oneF (CV.opv (pB (SS.P q0)) 66 (pW (SS.P q0)))⟩,⟨33282,1,512,latF (lB (SS.P q0)) (lW (SS.P q0))⟩,⟨33794,5,1,setRow (fun x j=>match j with | 0=>CV.i .i64 (ofNat 0) | 1=>CV.i .i64 (ofNat (SS.wr q0)) | 2=>CV.b (SS.off q0) | 3=>CV.b (SS.armed q0) | x=>CV.i .i64 (ofNat (SS.left q0))) 0 2 [CV.b false]⟩]),1,[0,0,0]⟩) .z)/\(decide ((kpI kk (ofNat (List.length (SS.P s))))<ofNat (List.length (SS.P s)))=false->True/\True/\K (.rv (.i .i64 0) ⟨zzl (AObj.segs 74 33799 [⟨0,1,1,oneF (CV.i .i64 (ofNat (SS.n q0)))⟩,⟨1,65,512,durF (SS.dur q0) (SS.torn q0)⟩,⟨33281,1,1,oneF (CV.opv (pB (SS.P q0)) 66 (pW (SS.P q0)))⟩,⟨33282,1,512,latF (lB (SS.P q0)) (lW (SS.P q0))⟩,⟨33794,5,1,setRow (fun x j=>match j with | 0=>CV.i .i64 (ofNat 0) | 1=>CV.i .i64 (ofNat (SS.wr q0)) | 2=>CV.b (SS.off q0) | 3=>CV.b (SS.armed q0) | x=>CV.i .i64 (ofNat (SS.left q0))) 0 2 [CV.b false]⟩]),1,[0,0]⟩) .z))/\(tt=false->tt=false/\tt=false/\tt=false/\tt=false/\True/\True/\K (.rv (.i .i64 0) ⟨zzl (AObj.segs 74 33799 [⟨0,1,1,oneF (CV.i .i64 (ofNat (SS.n q0)))⟩,⟨1,65,512,durF (SS.dur q0) (SS.torn q0)⟩,⟨33281,1,1,oneF (CV.opv (pB (SS.P q0)) 66 (pW (SS.P q0)))⟩,⟨33282,1,512,latF (lB (SS.P q0)) (lW (SS.P q0))⟩,⟨33794,5,1,setRow (fun x j=>match j with | 0=>CV.i .i64 (ofNat 0) | 1=>CV.i .i64 (ofNat (SS.wr q0)) | 2=>CV.b (SS.off q0) | 3=>CV.b (SS.armed q0) | x=>CV.i .i64 (ofNat (SS.left q0))) 0 2 [CV.b false]⟩]),1,[0,0]⟩) .z)))) (SS.flush s (Int.toNat (kpI kk (ofNat (List.length (SS.P s))))))):=by kernel_rfl
theorem barrierOff_con (s:SS) (ho:s.off=true) (hl:s.P.length<=1073741824) (ha:∀q∈s.P,q.1<512):Con PG 71 [.p 0 0] [some s.o] (.i .i64 13) [.keep]:=by
 have e0:s.faultE=13:=by unfold SS.faultE;rw [ho];rfl
 refine con_of_run [] [] ((barrier_vc s hl ha _).mpr ⟨fault2_con _,fun h=>?_,fun h=>by rw [e0] at h;simp at h⟩)
 rw [e0]
 exact ⟨_,_,rfl,ret_k (by kernel_rfl)⟩
theorem barrierOn_con (s:SS) (ho:s.off=false) (hl:s.P.length<=1073741824) (ha:∀q∈s.P,q.1<512):Con PG 71 [.p 0 0] [some s.o] (.i .i64 0) [.set (s.flush s.P.length).o]:=by
 have e0:s.faultE=0:=by unfold SS.faultE;rw [ho];rfl
 exact con_of_run [] [] ((barrier_vc s hl ha _).mpr ⟨fault2_con _,fun h=>by rw [e0] at h;simp at h,fun _=>⟨trivial,inOrder2_con s hl,flush_con s _ hl (Nat.le_refl _) ha,_,_,rfl,ret_k (by kernel_rfl)⟩⟩)
def SS.bar (s:SS):SS:=match s.off with
 | true=>s
 | false=>s.flush s.P.length
theorem barrier_con (s:SS) (hl:s.P.length<=1073741824) (ha:∀q∈s.P,q.1<512):Con PG 71 [.p 0 0] [some s.o] (.i .i64 s.faultE) [.set s.bar.o]:=by
 cases ho:s.off with
 | true=>
   have e0:s.faultE=13:=by unfold SS.faultE;rw [ho];rfl
   have e1:s.bar=s:=by unfold SS.bar;rw [ho]
   rw [e0,e1];exact (barrierOff_con s ho hl ha).oeq (OEqL.refl _) (OEqL.refl _)
 | false=>
   have e0:s.faultE=0:=by unfold SS.faultE;rw [ho];rfl
   have e1:s.bar=s.flush s.P.length:=by unfold SS.bar;rw [ho]
   rw [e0,e1];exact barrierOn_con s ho hl ha
def keepN (kk:Int) (L:Nat):Nat:=min kk.toNat L
theorem keepN_eq (kk:Int) (L:Nat):(if ofNat L<(if 0>kk then 0 else kk) then ofNat L else if 0>kk then 0 else kk)=ofNat (keepN kk L):=by
 unfold keepN
 simp only [Int.ofNat_eq_natCast]
 split<;>split<;>omega
def SS.on (s:SS):SS:={ s with off:=false}
def SS.revived (s:SS) (kk:Int) (tt:Bool):SS:=match s.off with
 | false=>s
 | true=>match tt && Nat.blt (keepN kk s.P.length) s.P.length with
   | true=>((s.flush (keepN kk s.P.length)).lay (oA s.P (keepN kk s.P.length)) (fun _=>0) true).on
   | false=>(s.flush (keepN kk s.P.length)).on
def SS.revE (s:SS):Int:=bif s.off then 0 else 26
def onO (s:SS):AObj:=tO (ofNat s.n) s.dur s.torn (pB s.P) (pW s.P) (lB s.P) (lW s.P) (setRow (tailF (ofNat s.P.length) (ofNat s.wr) s.off s.armed (ofNat s.left)) 0 2 [.b false])
def tornO (s:SS) (q:Nat):AObj:=
 .segs 74 33799 [⟨0,1,1,oneF (.i .i64 (ofNat s.n))⟩,⟨1,65,512,setRow (durF s.dur s.torn) q 0 (cellsP (fun _=>0) true)⟩,⟨33281,1,1,oneF (.opv (pB s.P) 66 (pW s.P))⟩,⟨33282,1,512,latF (lB s.P) (lW s.P)⟩,⟨33794,5,1,setRow (tailF (ofNat s.P.length) (ofNat s.wr) s.off s.armed (ofNat s.left)) 0 2 [.b false]⟩]
theorem tail_on (s:SS) (i j:Nat) (hi:i<1) (hj:j<5):setRow (tailF (ofNat s.P.length) (ofNat s.wr) s.off s.armed (ofNat s.left)) 0 2 [.b false] i j=tailF (ofNat s.P.length) (ofNat s.wr) false s.armed (ofNat s.left) i j:=by
 have hi:i=0:=by omega
 subst hi
 have:j=0\/j=1\/j=2\/j=3\/j=4:=by omega
 rcases this with rfl | rfl | rfl | rfl | rfl<;>rfl
theorem on_ov (s:SS):OV (some (onO s)) (some s.on.o):=.segsW ⟨.refl _,.refl _,.refl _,.refl _,⟨rfl,rfl,rfl,fun i j hi hj=>.of (tail_on s i j hi hj)⟩,trivial⟩
theorem torn_ov (s:SS) (q:Nat):OV (some (tornO s q)) (some (s.lay q (fun _=>0) true).on.o):=.segsW ⟨.refl _,⟨rfl,rfl,rfl,fun i j _ hj=>setP _ _ _ _ _ i j hj⟩,.refl _,.refl _,⟨rfl,rfl,rfl,fun i j hi hj=>.of (tail_on s i j hi hj)⟩,trivial⟩
theorem revive_con (s:SS) (kk:Int) (tt:Bool) (hl:s.P.length<=1073741824) (ha:∀q∈s.P,q.1<512):Con PG 18 [.p 0 0,.i .i64 kk,.b tt] [some s.o] (.i .i64 s.revE) [.set (s.revived kk tt).o]:=by
 cases ho:s.off with
 | false=>
   have e0:s.revE=26:=by unfold SS.revE;rw [ho];rfl
   have e1:s.revived kk tt=s:=by unfold SS.revived;rw [ho]
   rw [e0,e1]
   have h:Con PG 18 [.p 0 0,.i .i64 kk,.b tt] [some s.o] (.i .i64 26) [.keep]:=
    con_of_run [] [] ((revive_vc s kk tt hl ha _).mpr ⟨trivial,trivial,trivial,trivial,fun _=>⟨_,_,rfl,ret_k (by kernel_rfl)⟩,fun h=>by rw [ho] at h;simp at h⟩)
   exact h.oeq (OEqL.refl _) (OEqL.refl _)
 | true=>
   have e0:s.revE=0:=by unfold SS.revE;rw [ho];rfl
   rw [e0]
   have hk:keepN kk s.P.length<=s.P.length:=Nat.min_le_right _ _
   have hA:oA s.P (keepN kk s.P.length)<512:=by
    unfold oA nthW
    cases hd:s.P.drop (s.P.length-1-keepN kk s.P.length) with
    | nil=>simp
    | cons w Q=>exact ha w (List.mem_of_mem_drop (by rw [hd];exact List.mem_cons_self))
   have hf:=flush_con s (keepN kk s.P.length) hl hk ha
   have vc:=fun K=>revive_vc s kk tt hl ha K
   simp only [keepN_eq] at vc
   generalize hm:keepN kk s.P.length=m at *
   have e1:s.revived kk tt=match tt && Nat.blt m s.P.length with
    | true=>((s.flush m).lay (oA s.P m) (fun _=>0) true).on
    | false=>(s.flush m).on:=by unfold SS.revived;rw [ho,hm]
   have hb:(!s.off)=true->False:=fun h=>by rw [ho] at h;simp at h
   cases tt with
   | true=>
     rcases Nat.lt_or_ge m s.P.length with c | c
     · have e2:s.revived kk true=((s.flush m).lay (oA s.P m) (fun _=>0) true).on:=by
        rw [e1,show Nat.blt m s.P.length=true by rw [Nat.blt_eq];exact c];rfl
       rw [e2]
       have h:Con PG 18 [.p 0 0,.i .i64 kk,.b true] [some s.o] (.i .i64 0) [.set (tornO (s.flush m) (oA s.P m))]:=
        con_of_run [] [] ((vc _).mpr ⟨trivial,trivial,trivial,trivial,fun h=>(hb h).elim,fun _=>⟨trivial,inOrder2_con s hl,⟨trivial,by simp,Nat.zero_le _,by simpa using hk⟩,hf,fun _=>⟨rfl,rfl,rfl,rfl,fun _=>⟨⟨by simp,by simp;omega⟩,trivial,trivial,trivial,trivial,trivial,⟨by simp,by simp;omega⟩,hA,trivial,trivial,_,_,rfl,ret_k (by kernel_rfl)⟩,fun h=>by simp at h;omega⟩,fun h=>by simp at h⟩⟩)
       exact h.post (.refl _) ⟨torn_ov _ _,trivial⟩
     · have e2:s.revived kk true=(s.flush m).on:=by
        have:Nat.blt m s.P.length=false:=by
         rw [Bool.eq_false_iff,ne_eq,Nat.blt_eq];omega
        rw [e1,this];rfl
       rw [e2]
       have h:Con PG 18 [.p 0 0,.i .i64 kk,.b true] [some s.o] (.i .i64 0) [.set (onO (s.flush m))]:=
        con_of_run [] [] ((vc _).mpr ⟨trivial,trivial,trivial,trivial,fun h=>(hb h).elim,fun _=>⟨trivial,inOrder2_con s hl,⟨trivial,by simp,Nat.zero_le _,by simpa using hk⟩,hf,fun _=>⟨rfl,rfl,rfl,rfl,fun h=>by simp at h;omega,fun _=>⟨trivial,trivial,_,_,rfl,ret_k (by kernel_rfl)⟩⟩,fun h=>by simp at h⟩⟩)
       exact h.post (.refl _) ⟨on_ov _,trivial⟩
   | false=>
     have e2:s.revived kk false=(s.flush m).on:=by rw [e1];rfl
     rw [e2]
     have h:Con PG 18 [.p 0 0,.i .i64 kk,.b false] [some s.o] (.i .i64 0) [.set (onO (s.flush m))]:=
      con_of_run [] [] ((vc _).mpr ⟨trivial,trivial,trivial,trivial,fun h=>(hb h).elim,fun _=>⟨trivial,inOrder2_con s hl,⟨trivial,by simp,Nat.zero_le _,by simpa using hk⟩,hf,fun h=>by simp at h,fun _=>⟨rfl,rfl,rfl,rfl,trivial,trivial,_,_,rfl,ret_k (by kernel_rfl)⟩⟩⟩)
     exact h.post (.refl _) ⟨on_ov _,trivial⟩
set_option maxRecDepth 100000
def newL (n:Int):List AV:=putAt ((zeroCellsOf PG 74).getD []) 0 [.i .i64 n]
def eqZ (a:AV) (c:CV):Bool:=match a,c with
 | .i .u8 x,.i .u8 y=>match x,y with
   | .ofNat a,.ofNat b=>Nat.beq a b
   | _,_=>false
 | .i .i64 x,.i .i64 y=>match x,y with
   | .ofNat a,.ofNat b=>Nat.beq a b
   | _,_=>false
 | .b x,.b y=>match x,y with
   | false,false=>true
   | _,_=>false
 | .p0,.p0=>true
 | _,_=>false
theorem eqZ_CR {a:AV} {c:CV} (h:eqZ a c=true) {ρ:Rho} {x:Value} (hv:VR ρ a x):CR ρ.ro c x:=by
 unfold eqZ at h
 split at h
 · split at h
   · have e:=Nat.eq_of_beq_eq_true h
     subst e
     cases hv;exact .i _ _
   · simp at h
 · split at h
   · have e:=Nat.eq_of_beq_eq_true h
     subst e
     cases hv;exact .i _ _
   · simp at h
 · split at h
   · cases hv;exact .b _
   · simp at h
 · cases hv;exact .p0
 · simp at h
def chkL (f:Nat->CV) (m:Nat) (l:List AV):Nat->Bool:=
 List.rec (motive:=fun _=>Nat->Bool) (fun p=>Nat.beq p m) (fun a _ ih p=>match eqZ a (f p) with | true=>ih (Nat.succ p) | false=>false) l
theorem chkL_ok {f:Nat->CV} {m:Nat}:∀{l:List AV} {p:Nat},chkL f m l p=true->p+l.length=m/\∀i,i<l.length->∃a,l[i]? =some a/\eqZ a (f (p+i))=true
 | [],p,h=>⟨by have:=Nat.eq_of_beq_eq_true h;simpa using this,fun i hi=>absurd hi (Nat.not_lt_zero i)⟩
 | a :: l,p,h=>by
   have h':(match eqZ a (f p) with | true=>chkL f m l (Nat.succ p) | false=>false)=true:=h
   split at h'
   · rename_i ha
     obtain ⟨k1,k2⟩:=chkL_ok h'
     refine ⟨by simp;omega,?_⟩
     intro i hi
     cases i with
     | zero=>exact ⟨a,rfl,ha⟩
     | succ i=>
       obtain ⟨b,b1,b2⟩:=k2 i (by simpa using hi)
       exact ⟨b,by simpa using b1,by rw [show p+(i+1)=Nat.succ p+i by omega];exact b2⟩
   · simp at h'
def kd (p:Nat):CV:=match Nat.blt p 33281 with
 | true=>match Nat.blt (Nat.mod (p-1) 65) 64 with
   | true=>.i .u8 0
   | false=>.b false
 | false=>match Nat.blt p 33794 with
   | true=>.p0
   | false=>match Nat.beq p 33796 || Nat.beq p 33797 with
     | true=>.b false
     | false=>.i .i64 0
theorem newL_chk (n:Int):chkL kd 33799 (newL n).tail 1=true:=by kernel_rfl
theorem newL_head (n:Int):(newL n).head? =some (.i .i64 n):=by kernel_rfl
set_option maxRecDepth 100000
set_option maxRecDepth 100000 in
theorem new_vc (n:Int) (K:Res->Orc->Prop):runK PG 1000000 (.call 26 [.i .i64 n] (mkH [])) (.s (.t (.f (.s .z (.c .z)))) (.f (.t (.c .z)))) K=(((!decide (n<1))=true->(!decide (n<1))=true/\decide (n<1)=false/\(decide (512<n)=true->K (.rv (.tup [.p0,.i .i64 2]) (mkH [])) .z)/\(decide (512<n)=false->K (.rv (.tup [.p 0 0,.i .i64 0]) (newList (mkH []) 74 (newL n))) .z))/\((!decide (n<1))=false->(!decide (n<1))=false/\decide (n<1)=true/\K (.rv (.tup [.p0,.i .i64 2]) (mkH [])) .z)):=by kernel_rfl
theorem con_of_call {P:Program} {g:FuncId} {pargs:List AV} {v:AV} {H1:AH} {objs':List (Option AObj)} (h:CallDoes P g pargs (mkH []) v H1) (hn:H1.next=objs'.length)
 (hx:∀A o,(mkH objs').get A=some o->∃u,H1.get A=some u/\(u.void->o.void)/\∀(ρ:Rho) p w,BR ρ u p w->BR ρ o p w) (us:List Upd) (hu:postL [] us=objs'):Con P g pargs [] v us:=by
 intro ρ w args' hva hh hoff
 refine (h.2 ρ w args' hva hh (fun A q1 _=>hoff A (by simp))).mono ?_
 rintro e w' ⟨v',ρ',rfl,k1,k2,k3⟩
 rw [hu]
 refine ⟨v',ρ',rfl,k1,⟨?_,?_,k2.range,k2.ro,?_⟩,⟨Nat.le_trans k3.next (Nat.le_of_eq hn),k3.ext,?_,k3.size,k3.frame,?_,k3.roimg,k3.tape,k3.os,k3.output⟩⟩
 · intro A o hA
   obtain ⟨u,h1,h2,h3⟩:=hx A o hA
   rcases k2.live A u h1 with ⟨p,hp,hb⟩ | ⟨hv,hn⟩
   · exact .inl ⟨p,hp,h3 _ _ _ hb⟩
   · exact .inr ⟨h2 hv,hn⟩
 · intro A A' o o' x x' hA hA' hx1 hx' e
   obtain ⟨u,h1,_⟩:=hx A o hA
   obtain ⟨u',h1',_⟩:=hx A' o' hA'
   exact k2.inj A A' u u' x x' h1 h1' hx1 hx' e
 · intro B j v hv A o x hA hx1
   obtain ⟨u,h1,_⟩:=hx A o hA
   exact k2.rox B j v hv A u x h1 hx1
 · intro A x hA
   rcases k3.dom A x hA with q | ⟨q1,q2⟩
   · exact .inl q
   · exact .inr ⟨q1,by show A<objs'.length;omega⟩
 · intro A o x hA hx1
   obtain ⟨u,h1,_⟩:=hx A o hA
   exact k3.img A u x h1 hx1
def SS.new (n:Nat):SS:={ n:=n,dur:=fun _ _=>0,torn:=fun _=>false,P:=[],wr:=0,off:=false,armed:=false,left:=0}
theorem newL_len (n:Int):(newL n).length=33799:=by
 have h1:=(chkL_ok (newL_chk n)).1
 have h2:=newL_head n
 cases h:newL n with
 | nil=>rw [h] at h2;simp at h2
 | cons a l=>rw [h] at h1;simp at h1⊢;omega
theorem newL_at (n:Int) (p:Nat) (h0:0<p) (h:p<33799):∃a,(newL n)[p]? =some a/\∀(ρ:Rho) (x:Value),VR ρ a x->CR ρ.ro (kd p) x:=by
 obtain ⟨h1,h2⟩:=chkL_ok (newL_chk n)
 have h3:=newL_len n
 obtain ⟨a,a1,a2⟩:=h2 (p-1) (by simp;omega)
 refine ⟨a,?_,fun ρ x hx=>?_⟩
 · rw [<-a1,List.getElem?_tail,show p-1+1=p by omega]
 · rw [show 1+(p-1)=p by omega] at a2
   exact eqZ_CR a2 hx
theorem kd_dur (i j:Nat) (hi:i<512) (hj:j<65):kd (1+i*65+j)=durF (fun _ _=>0) (fun _=>false) i j:=by
 unfold kd durF
 have e1:Nat.blt (1+i*65+j) 33281=true:=by rw [Nat.blt_eq];omega
 have e2:Nat.mod (1+i*65+j-1) 65=j:=by
  show (1+i*65+j-1) % 65=j
  omega
 first | (rw [e1,e2];done) | (rw [e1,e2];cases Nat.blt j 64<;>rfl)
theorem new_ox (n:Nat):OX (some (cellsO 74 (newL (ofNat n)))) (some (SS.new n).o):=by
 have hl:=newL_len (ofNat n)
 unfold cellsO
 rw [hl]
 refine .cellsSegs fun g hg=>?_
 have key:∀p,0<p->p<33799->∀c,kd p=c->∃v,cellAt 33799 [] (setAll .e 0 (newL (ofNat n))) p=some v/\∀(ρ:Rho) (x:Value),VR ρ v x->CR ρ.ro c x:=by
  intro p h0 h c hc
  obtain ⟨a,a1,a2⟩:=newL_at (ofNat n) p h0 h
  refine ⟨a,?_,fun ρ x hx=>hc▸a2 ρ x hx⟩
  rw [<-hl,cellsD_at (by omega)];exact a1
 simp only [List.mem_cons,List.mem_nil_iff,or_false] at hg
 rcases hg with rfl | rfl | rfl | rfl | rfl
 · refine ⟨by simp only;omega,fun i j hi hj=>?_⟩
   have hi:i<1:=hi
   have hj:j<1:=hj
   obtain rfl:i=0:=by omega
   obtain rfl:j=0:=by omega
   refine ⟨.i .i64 (ofNat n),?_,fun ρ x hx=>by cases hx;exact .i _ _⟩
   have h1:=newL_head (ofNat n)
   show cellAt 33799 [] (setAll .e 0 (newL (ofNat n))) 0= _
   rw [<-hl,cellsD_at (by omega)]
   cases h:newL (ofNat n) with
   | nil=>rw [h] at h1;simp at h1
   | cons a l=>rw [h] at h1;simpa using h1
 · refine ⟨by simp only;omega,fun i j hi hj=>?_⟩
   have hi:i<512:=hi
   have hj:j<65:=hj
   exact key (1+i*65+j) (by omega) (by omega) _ (kd_dur i j hi hj)
 · refine ⟨by simp only;omega,fun i j hi hj=>?_⟩
   have hi:i<1:=hi
   have hj:j<1:=hj
   obtain rfl:i=0:=by omega
   obtain rfl:j=0:=by omega
   obtain ⟨v,h1,h2⟩:=key 33281 (by omega) (by omega) .p0 (by kernel_rfl)
   exact ⟨v,h1,fun ρ x hx=>p0_opv _ _ _ _ (h2 ρ x hx)⟩
 · refine ⟨by simp only;omega,fun i j hi hj=>?_⟩
   have hi:i<512:=hi
   have hj:j<1:=hj
   obtain rfl:j=0:=by omega
   obtain ⟨v,h1,h2⟩:=key (33282+i*1+0) (by omega) (by omega) .p0 (by
    unfold kd
    rw [show Nat.blt (33282+i*1+0) 33281=false by rw [Bool.eq_false_iff,ne_eq,Nat.blt_eq];omega,show Nat.blt (33282+i*1+0) 33794=true by rw [Nat.blt_eq];omega])
   exact ⟨v,h1,fun ρ x hx=>p0_opv _ _ _ _ (h2 ρ x hx)⟩
 · refine ⟨by simp only;omega,fun i j hi hj=>?_⟩
   have hi:i<1:=hi
   have hj:j<5:=hj
   obtain rfl:i=0:=by omega
   have:j=0\/j=1\/j=2\/j=3\/j=4:=by omega
   rcases this with rfl | rfl | rfl | rfl | rfl
   · exact key 33794 (by omega) (by omega) _ (by kernel_rfl)
   · exact key 33795 (by omega) (by omega) _ (by kernel_rfl)
   · exact key 33796 (by omega) (by omega) _ (by kernel_rfl)
   · exact key 33797 (by omega) (by omega) _ (by kernel_rfl)
   · exact key 33798 (by omega) (by omega) _ (by kernel_rfl)
theorem new_con (n:Nat) (h1:1<=n) (h2:n<=512):Con PG 26 [.i .i64 (ofNat n)] [] (.tup [.p 0 0,.i .i64 0]) [.set (SS.new n).o]:=by
 have e1:decide (ofNat n<1)=false:=by simp;omega
 have e2:decide (512<ofNat n)=false:=by simp;omega
 have h:=(new_vc (ofNat n) (fun r _=>r=.rv (.tup [.p 0 0,.i .i64 0]) (newList (mkH []) 74 (newL (ofNat n))))).mpr ⟨fun _=>⟨by rw [e1];rfl,e1,fun h=>by rw [e2] at h;simp at h,fun _=>rfl⟩,fun h=>by rw [e1] at h;simp at h⟩
 obtain ⟨r,o',rfl,hd⟩:=runK_ok PG _ _ _ _ h
 refine con_of_call (objs':=[some (SS.new n).o]) hd rfl ?_ _ rfl
 intro A o hA
 rw [mkH_get] at hA
 cases A with
 | succ A=>simp at hA
 | zero=>
   have hA':some (SS.new n).o=some o:=hA
   obtain ⟨x,hx,h3,h4⟩:=new_ox n o hA'
   refine ⟨x,?_,h3,h4⟩
   rw [<-hx]
   show ((mkH []).new (cellsO 74 (newL (ofNat n)))).get 0= _
   rfl
end Go.Proofs.St
namespace Go.Proofs.Jn
open Go Go.Sim Go.Proofs Go.Proofs.Cd Go.Proofs.St Go.Proofs.YthhjjpofenjknaaDoor
theorem sealF_by (gg:Nat->Nat->CV) (b:Nat->Nat) (h:∀k,gg k 0=.i .u8 (ofNat (b k))) (i:Nat):sealF gg i 0=.i .u8 (ofNat (bif Nat.blt i 60 then b i else fourB (sumN b 60) (i-60))):=by
 have e:sumN (bOf gg) 60=sumN b 60:=sumN_congr fun k _=>by
  show cvN (gg k 0)=b k
  rw [h k];exact Eq.refl (b k)
 unfold sealF
 rw [e]
 refine (appZ_i (h i) (Eq.refl _)).trans ?_
 by_cases c:i<60
 · rw [if_pos c,show Nat.blt i 60=true from by rw [Nat.blt_eq];exact c,cond_true]
 · rw [if_neg c,show Nat.blt i 60=false from by rw [Bool.eq_false_iff,ne_eq,Nat.blt_eq];exact c,cond_false]
theorem seal60R_con (gg:Nat->Nat->CV) (h:IsBy 60 gg):Con PG 88 [.lr 0 1 0 60 false] [some (.rows 5 1 60 gg)] (.sv 1 64 (sealF gg)) [.gone]:=
 ((seal60_con gg h).slot rfl (by kernel_rfl) (by kernel_rfl)).thaw (us0:=[.gone]) 0 (e:=5) (sz:=1) (n:=60) (f:=gg) rfl ⟨rfl,trivial⟩ ⟨.inr ⟨by kernel_rfl,⟨rfl,by omega⟩,rfl⟩,trivial⟩ rfl
def pbodyB (gen num idx np m:Nat) (b:Nat->Nat) (k:Nat):Nat:=
 bif Nat.ble 11 k && Nat.blt k (11+m) then b (k-11) else
 bif Nat.beq k 10 then m % 256 else
 bif Nat.beq k 9 then np % 256 else
 bif Nat.beq k 8 then idx % 256 else
 bif Nat.ble 4 k && Nat.blt k 8 then fourB (num % 4294967296) (k-4) else
 bif Nat.ble 0 k && Nat.blt k 4 then fourB (gen % 4294967296) k else 0
def psecB (gen num idx np m:Nat) (b:Nat->Nat) (k:Nat):Nat:=bif Nat.blt k 60 then pbodyB gen num idx np m b k else fourB (sumN (pbodyB gen num idx np m b) 60) (k-60)
def pbodyF (gen num idx np m:Nat) (b:Nat->Nat):Nat->Nat->CV:=copyF 11 m (fun k x=>CV.i IntKind.u8 (ofNat (b k))) (setRow (setRow (setRow (copyF 4 4 (fun k x=>CV.i IntKind.u8 (ofNat (fourB (Int.toNat (wrapA IntKind.u32 (ofNat num))) k))) (copyF 0 4 (fun k x=>CV.i IntKind.u8 (ofNat (fourB (Int.toNat (wrapA IntKind.u32 (ofNat gen))) k))) fun x j=>List.getD [CV.i IntKind.u8 (0:Int)] j CV.p0)) 8 0 [CV.i IntKind.u8 (wrapA IntKind.u8 (ofNat idx))]) 9 0 [CV.i IntKind.u8 (wrapA IntKind.u8 (ofNat np))]) 10 0 [CV.i IntKind.u8 (wrapA IntKind.u8 (ofNat m))])
theorem pbodyF_at (gen num idx np m:Nat) (b:Nat->Nat) (k:Nat):pbodyF gen num idx np m b k 0=.i .u8 (ofNat (pbodyB gen num idx np m b k)):=by
 have h:pbodyF gen num idx np m b k 0=zipCV (Nat.ble 11 k && Nat.blt k (11+m)) (.i .u8 (ofNat (b (k-11)))) (zipCV (Nat.beq k 10) (.i .u8 (ofNat (m % 256))) (zipCV (Nat.beq k 9) (.i .u8 (ofNat (np % 256))) (zipCV (Nat.beq k 8) (.i .u8 (ofNat (idx % 256)))
  (zipCV (Nat.ble 4 k && Nat.blt k 8) (.i .u8 (ofNat (fourB (num % 4294967296) (k-4)))) (zipCV (Nat.ble 0 k && Nat.blt k (0+4)) (.i .u8 (ofNat (fourB (gen % 4294967296) (k-0)))) (.i .u8 0)))))):=Eq.refl _
 rw [h,Nat.sub_zero,Nat.zero_add]
 unfold pbodyB
 cases (Nat.ble 11 k && Nat.blt k (11+m))<;>cases Nat.beq k 10<;>cases Nat.beq k 9<;>cases Nat.beq k 8<;>cases (Nat.ble 4 k && Nat.blt k 8)<;>cases (Nat.ble 0 k && Nat.blt k 4)<;>exact Eq.refl _
theorem pbodyB_lt {gen num idx np m:Nat} {b:Nat->Nat} (hb:∀k,k<m->b k<256) (k:Nat):pbodyB gen num idx np m b k<256:=by
 unfold pbodyB
 cases c0:(Nat.ble 11 k && Nat.blt k (11+m)) with
 | true=>
   rw [cond_true]
   rw [Bool.and_eq_true,Nat.ble_eq,Nat.blt_eq] at c0
   exact hb _ (by omega)
 | false=>
   rw [cond_false]
   cases Nat.beq k 10 with
   | true=>rw [cond_true];exact Nat.mod_lt _ (by decide)
   | false=>
     rw [cond_false]
     cases Nat.beq k 9 with
     | true=>rw [cond_true];exact Nat.mod_lt _ (by decide)
     | false=>
       rw [cond_false]
       cases Nat.beq k 8 with
       | true=>rw [cond_true];exact Nat.mod_lt _ (by decide)
       | false=>
         rw [cond_false]
         cases (Nat.ble 4 k && Nat.blt k 8) with
         | true=>rw [cond_true];exact fourB_lt _ _
         | false=>
           rw [cond_false]
           cases (Nat.ble 0 k && Nat.blt k 4) with
           | true=>rw [cond_true];exact fourB_lt _ _
           | false=>rw [cond_false];decide
theorem pbodyF_by {gen num idx np m:Nat} {b:Nat->Nat} (hb:∀k,k<m->b k<256):IsBy 60 (pbodyF gen num idx np m b):=fun k _=>by
 have e:bOf (pbodyF gen num idx np m b) k=pbodyB gen num idx np m b k:=by show cvN (pbodyF gen num idx np m b k 0)= _;rw [pbodyF_at];exact Eq.refl _
 rw [e];exact ⟨pbodyF_at gen num idx np m b k,pbodyB_lt hb k⟩
theorem psecB_lt {gen num idx np m:Nat} {b:Nat->Nat} (hb:∀k,k<m->b k<256) (k:Nat):psecB gen num idx np m b k<256:=by
 unfold psecB
 cases Nat.blt k 60 with
 | true=>rw [cond_true];exact pbodyB_lt hb k
 | false=>rw [cond_false];exact fourB_lt _ _
theorem psec_vc (fourB:Nat->Nat->Nat) (gen num idx np m:Nat) (b:Nat->Nat) (K:Res->Orc->Prop):runK PG 1000000 (.call 70 [.agg [inv gen,inv num,inv idx,inv np,.sv 1 m (byF b)]] (mkH [])) (.s (.cal [] (.sv 1 4 (byF (fourB (Int.toNat (wrapA .u32 (ofNat gen)))))) [] (.cal [] (.sv 1 4 (byF (fourB (Int.toNat (wrapA .u32 (ofNat num)))))) [] (.cal [1] (.sv 1 64 (sealF (copyF 11 m (fun k x=>CV.i .u8 (ofNat (b k))) (setRow (setRow (setRow (copyF 4 4 (fun k x=>CV.i .u8 (ofNat (fourB (Int.toNat (wrapA .u32 (ofNat num))) k))) (copyF 0 4 (fun k x=>CV.i .u8 (ofNat (fourB (Int.toNat (wrapA .u32 (ofNat gen))) k))) fun x j=>List.getD [CV.i .u8 0] j CV.p0)) 8 0 [CV.i .u8 (wrapA .u8 (ofNat idx))]) 9 0 [CV.i .u8 (wrapA .u8 (ofNat np))]) 10 0 [CV.i .u8 (wrapA .u8 (ofNat m))])))) [.gone] .z))) .z) K=((fun (q1:Nat)=>((fun (q0:Nat)=>(((0:Int)<=(60:Int)/\(60:Int)<=(60:Int)/\(60:Int)<=(1073741824:Int))/\True/\True/\Con PG 87 [.i .u32 (wrapA .u32 (ofNat gen))] [] (.sv 1 4 (byF (fourB q0))) []/\(True/\0<60/\0<60/\4<=60/\60<=60)/\((0:Int)<=(4:Int)/\True/\4<=60/\60<=60/\(4=0\/4<60))/\True/\True/\Con PG 87 [.i .u32 (wrapA .u32 (ofNat num))] [] (.sv 1 4 (byF (fourB q1))) []/\(True/\0<56/\0<60/\4<=56/\60<=60)/\True/\True/\((0:Int)<=(8:Int)/\(8:Int)<(60:Int))/\8<60/\True/\True/\((0:Int)<=(9:Int)/\(9:Int)<(60:Int))/\9<60/\True/\
 True/\((0:Int)<=(10:Int)/\(10:Int)<(60:Int))/\10<60/\((0:Int)<=(11:Int)/\True/\11<=60/\60<=60/\(11=0\/11<60))/\True/\(True/\0<49/\0<60/\m<=49/\60<=60)/\Con PG 88 [.lr 0 1 0 60 false] [some (.rows 5 1 60 (copyF 11 m (fun k x=>CV.i .u8 (ofNat (b k))) (setRow (setRow (setRow (copyF 4 4 (fun k x=>CV.i .u8 (ofNat (fourB q1 k))) (copyF 0 4 (fun k x=>CV.i .u8 (ofNat (fourB q0 k))) fun x j=>List.getD [CV.i .u8 0] j CV.p0)) 8 0 [CV.i .u8 (wrapA .u8 (ofNat idx))]) 9 0 [CV.i .u8 (wrapA .u8 (ofNat np))]) 10 0 [CV.i .u8 (wrapA .u8 (ofNat m))])))] (.sv 1 64 (sealF (copyF 11 m (fun k x=>CV.i .u8 (ofNat (b k))) (setRow (setRow (setRow (copyF 4 4 (fun k x=>CV.i .u8 (ofNat (fourB q1 k))) (copyF 0 4 (fun k x=>CV.i .u8 (ofNat (fourB q0 k))) fun x j=>List.getD [CV.i .u8 0] j CV.p0)) 8 0 [CV.i .u8 (wrapA .u8 (ofNat idx))]) 9 0 [CV.i .u8 (wrapA .u8 (ofNat np))]) 10 0 [CV.i .u8 (wrapA .u8 (ofNat m))])))) [.gone]/\K (.rv (.sv 1 64 (sealF (copyF 11 m (fun k x=>CV.i .u8 (ofNat (b k))) (setRow (setRow (setRow (copyF 4 4 (fun k x=>CV.i .u8 (ofNat (fourB q1 k))) (copyF 0 4 (fun k x=>CV.i .u8 (ofNat (fourB q0 k))) fun x j=>List.getD [CV.i .u8 0] j CV.p0)) 8 0 [CV.i .u8 (wrapA .u8 (ofNat idx))]) 9 0 [CV.i .u8 (wrapA .u8 (ofNat np))]) 10 0 [CV.i .u8 (wrapA .u8 (ofNat m))])))) ⟨zz1 (AObj.cells 101 5 [] (zz1 (inv gen) (zz1 (inv num) (zzn np) .e) (zz1 (inv idx) (zzl (.sv
 1 m (byF b))) .e))) (zz0 .e .e) .e,2,[1,1,1,1,1,1,1,1,0]⟩) .z)) (Int.toNat (wrapA .u32 (ofNat gen))))) (Int.toNat (wrapA .u32 (ofNat num)))):=by kernel_rfl
theorem psec_con (gen num idx np m:Nat) (b:Nat->Nat) (hb:∀k,k<m->b k<256) (hm:m<=47) :
 Con PG 70 [.agg [.i .i64 (ofNat gen),.i .i64 (ofNat num),.i .i64 (ofNat idx),.i .i64 (ofNat np),.sv 1 m (byF b)]] [] (.sv 1 64 (byF (psecB gen num idx np m b))) []:=by
 have k0:∀q:Nat,Con PG 87 [AV.i IntKind.u32 (wrapA IntKind.u32 (ofNat q))] [] (AV.sv 1 4 (byF (fourB (Int.toNat (wrapA IntKind.u32 (ofNat q)))))) []:=fun q=>by
  rw [show wrapA IntKind.u32 (ofNat q)=ofNat (q % 4294967296) from Eq.refl _];exact four0_con _
 have k:Con PG 70 [.agg [.i .i64 (ofNat gen),.i .i64 (ofNat num),.i .i64 (ofNat idx),.i .i64 (ofNat np),.sv 1 m (byF b)]] [] (.sv 1 64 (sealF (pbodyF gen num idx np m b))) []:=
  con_of_run [] [] ((psec_vc fourB gen num idx np m b _).mpr (by
   refine ⟨by decide,trivial,trivial,k0 gen,⟨trivial,by decide,by decide,by decide,by decide⟩,⟨by decide,trivial,by decide,by decide,.inr (by decide)⟩,trivial,trivial,k0 num,⟨trivial,by decide,by decide,by decide,by decide⟩,trivial,trivial,by decide,by decide,trivial,trivial,by decide,by decide,trivial,trivial,by decide,by decide,
    ⟨by decide,trivial,by decide,by decide,.inr (by decide)⟩,trivial,⟨trivial,by decide,by decide,by omega,by decide⟩,seal60R_con _ (pbodyF_by hb),_,_,rfl,ret_k (by kernel_rfl)⟩))
 refine k.post (.sv fun i j hi hj=>?_) (OVL.refl _)
 obtain rfl:j=0:=by omega
 rw [sealF_by _ (pbodyB gen num idx np m b) (pbodyF_at gen num idx np m b)]
 exact Eq.refl _
end Go.Proofs.Jn
namespace Go.Proofs.St
open Go Go.Sim Go.Proofs Go.Proofs.YthhjjpofenjknaaDoor
theorem writeSA_vc (s:SS) (q:Nat) (bs:Nat->Int) (K:Res->Orc->Prop):runK PG 1000000 (.call 69 [.p 0 0,inv q,.sv 1 64 fun k _=>.i .u8 (bs k)] (mkH [some s.o])) (.cal [0] (.i .i64 (SS.faultE s)) [.keep] (.s .z (.cal [0] (.b (decide ((0:Int)<=ofNat q/\ofNat q<ofNat (SS.n s)))) [.keep] (.s (.t (.t (.f (.c (.cal [0] (.tup []) [.set (SS.o (SS.put s q bs))] (.inl (.s .z (.s (.inl (.c .z)) .z)))))))) (.f (.f (.t (.c .z)))))))) K=((fun (q3:Nat)=>((fun (q2:Nat)=>((fun (q1:Int)=>((fun (q0:Bool)=>(Con PG 58 [.p 0 0] [some (SS.o s)] (.i .i64 (SS.faultE s)) [.keep]/\((!decide (SS.faultE s=(0:Int)))=true->K (.rv (.i .i64 (SS.faultE s)) ⟨zzl (SS.o s),1,[]⟩) .z)/\((!decide (SS.faultE s=(0:Int)))=false->Con PG 59 [.p 0 0,inv q] [some (SS.o s)] (.b (decide ((0:Int)<=ofNat q/\ofNat q<ofNat (SS.n s)))) [.keep]/\True/\(q0=true->q0=true/\q0=true/\(!decide ((0:Int)<=ofNat q/\ofNat q<ofNat (SS.n s)))=false/\True/\(64<=64/\0<64)/\True/\Con PG 85 [.p 0 33281,inv q,.agg (cvL (fun k=>CV.i .u8 (bs k)) 0 64)] [some (SS.o s)] (.tup []) [.set (SS.o (SS.put s q bs))]/\True/\True/\rg (ofNat (SS.wr (SS.put s q bs))+1)/\True/\True/\True/\True/\True/\((!SS.armed (SS.put s q bs))=true->K (.rv (.i .i64 (0:Int)) ⟨zzl (AObj.segs 74 33799 [⟨0,1,1,oneF (CV.i .i64 (ofNat (SS.n (SS.put s q bs))))⟩,⟨1,65,512,durF (SS.dur (SS.put s q bs)) (SS.torn (SS.put s q bs))⟩,⟨33281,1,1,oneF (CV.opv (pB (SS.P (SS.put s q bs))) 66 (pW (SS.P (SS.put s q bs))))⟩,⟨33282,1,512,latF (lB (SS.P (SS.put s q bs))) (lW (SS.P (SS.put s q bs)))⟩,⟨33794,5,1,setRow (fun x j=>match j with | 0=>CV.i .i64 (ofNat q2) | 1=>CV.i .i64 (ofNat (SS.wr (SS.put s q bs))) | 2=>CV.b (SS.off (SS.put s q bs)) | 3=>CV.b (SS.armed (SS.put s q bs)) | x=>CV.i .i64 q1) 0 1 [CV.i .i64 (ofNat (SS.wr (SS.put s q bs))+(1:Int))]⟩]),1,[0,0]⟩) .z)/\((!SS.armed (SS.put s q bs))=false->True/\True/\(decide (ofNat (SS.left (SS.put s q bs))=(0:Int))=true->True/\True/\True/\True/\True/\K (.rv (.i .i64 (13:Int)) ⟨zzl (AObj.segs 74 33799 [⟨0,1,1,oneF (CV.i .i64 (ofNat (SS.n (SS.put s q bs))))⟩,⟨1,65,512,durF (SS.dur (SS.put s q bs)) (SS.torn (SS.put s q bs))⟩,⟨33281,1,1,oneF (CV.opv (pB (SS.P (SS.put s q bs))) 66 (pW (SS.P (SS.put s q bs))))⟩,⟨33282,1,512,latF (lB (SS.P (SS.put s q bs))) (lW (SS.P (SS.put s q bs)))⟩,⟨33794,5,1,setRow (fun i j=>match Nat.ble 2 j with | true=>(match [CV.b true][j-2 % 5]? with | some c=>zipCV (Nat.beq i 0) c (Seg.f ⟨33794,5,1,setRow (fun x j=>match j with | 0=>CV.i .i64 (ofNat q2) | 1=>CV.i .i64 (ofNat (SS.wr (SS.put s q bs))) | 2=>CV.b (SS.off (SS.put s q bs)) | 3=>CV.b (SS.armed (SS.put s q bs)) | x=>CV.i .i64 q1) 0 1 [CV.i .i64 (ofNat (SS.wr (SS.put s q bs))+(1:Int))]⟩ i j) | none=>Seg.f ⟨33794,5,1,setRow (fun x j=>match j with | 0=>CV.i .i64 (ofNat q2) | 1=>CV.i .i64 (ofNat (SS.wr (SS.put s q bs))) | 2=>CV.b (SS.off (SS.put s q bs)) | 3=>CV.b (SS.armed (SS.put s q bs)) | x=>CV.i .i64 q1) 0 1 [CV.i .i64 (ofNat (SS.wr (SS.put s q bs))+(1:Int))]⟩ i j) | false=>Seg.f ⟨33794,5,1,setRow (fun x j=>match j with | 0=>CV.i .i64 (ofNat q2) | 1=>CV.i .i64 (ofNat (SS.wr (SS.put s q bs))) | 2=>CV.b (SS.off (SS.put s q bs)) | 3=>CV.b (SS.armed (SS.put s q bs)) | x=>CV.i .i64 q1) 0 1 [CV.i .i64 (ofNat (SS.wr (SS.put s q bs))+(1:Int))]⟩ i j) 0 3 [CV.b false]⟩]),1,[0,0,0,0]⟩) .z)/\(decide (ofNat (SS.left (SS.put s q bs))=(0:Int))=false->True/\True/\rg (ofNat (SS.left (SS.put s q bs))-1)/\True/\True/\K (.rv (.i .i64 (0:Int)) ⟨zzl (AObj.segs 74 33799 [⟨0,1,1,oneF (CV.i .i64 (ofNat (SS.n (SS.put s q bs))))⟩,⟨1,65,512,durF (SS.dur (SS.put s q bs)) (SS.torn (SS.put s q bs))⟩,⟨33281,1,1,oneF (CV.opv (pB (SS.P (SS.put s q bs))) 66 (pW (SS.P (SS.put s q bs))))⟩,⟨33282,1,512,latF (lB (SS.P (SS.put s q bs))) (lW (SS.P (SS.put s q bs)))⟩,⟨33794,5,1,setRow (fun i j=>match Nat.ble 1 j with | true=>(match [CV.i .i64 (ofNat (SS.wr (SS.put s q bs))+(1:Int))][j-1 % 5]? with | some c=>zipCV (Nat.beq i 0) c (Seg.f ⟨33794,5,1,tailF (ofNat q3) (ofNat (SS.wr (SS.put s q bs))) (SS.off (SS.put s q bs)) (SS.armed (SS.put s q bs)) q1⟩ i j) | none=>Seg.f ⟨33794,5,1,tailF (ofNat q3) (ofNat (SS.wr (SS.put s q bs))) (SS.off (SS.put s q bs)) (SS.armed (SS.put s q bs)) q1⟩ i j) | false=>Seg.f ⟨33794,5,1,tailF (ofNat q3) (ofNat (SS.wr (SS.put s q bs))) (SS.off (SS.put s q bs)) (SS.armed (SS.put s q bs)) q1⟩ i j) 0 4 [CV.i .i64 (ofNat (SS.left (SS.put s q bs))-(1:Int))]⟩]),1,[0,0,0]⟩) .z)))/\(q0=false->q0=false/\q0=false/\(!decide ((0:Int)<=ofNat q/\ofNat q<ofNat (SS.n s)))=true/\K (.rv (.i .i64 (2:Int)) ⟨zzl (SS.o s),1,[]⟩) .z)))) (!!decide ((0:Int)<=ofNat q/\ofNat q<ofNat (SS.n s))))) (ofNat (SS.left (SS.put s q bs))))) (List.length ((q,bs) :: SS.P s)))) (List.length (SS.P (SS.put s q bs)))):=by kernel_rfl
theorem writeV_con (s:SS) (q:Nat) (bs:Nat->Int) (ok:s.Ok) (ho:s.off=false) (hq:q<s.n) :
 Con PG 69 [.p 0 0,.i .i64 (ofNat q),.sv 1 64 fun k _=>.i .u8 (bs k)] [some s.o] (.i .i64 (s.wrote q bs).payE) [.set (s.wrote q bs).pay.o]:=by
 have e0:s.faultE=0:=by unfold SS.faultE;rw [ho];rfl
 have e:(!!decide (0<=ofNat q/\ofNat q<ofNat s.n))=true:=by simp;omega
 have e1:(!decide (0<=ofNat q/\ofNat q<ofNat s.n))=false:=by simp;omega
 obtain ⟨h1,h2,h3,h4,h5⟩:=ok
 have hb:(-9223372036854775808:Int)<=ofNat (s.put q bs).wr+1/\ofNat (s.put q bs).wr+1<=9223372036854775807:=by
  have:(s.put q bs).wr=s.wr:=rfl
  rw [this];simp<;>omega
 have ha:=add2_con s q bs (by omega) h2
 obtain ⟨n,dur,torn,P,wr,off,armed,left⟩:=s
 cases armed with
 | false=>
   refine Con.runE (us:=[.set (tO (ofNat n) dur torn (pB ((q,bs) :: P)) (pW ((q,bs) :: P)) (lB ((q,bs) :: P)) (lW ((q,bs) :: P)) (setRow (tailF (ofNat (P.length+1)) (ofNat wr) off false (ofNat left)) 0 1 [.i .i64 (ofNat wr+1)]))]) [] []
    ((writeSA_vc _ q bs _).mpr ⟨fault2_con _,fun h=>by rw [e0] at h;simp at h,fun _=>⟨has2_con _ _,trivial,fun _=>⟨e,e,e1,trivial,⟨Nat.le_refl _,by omega⟩,trivial,ha,trivial,trivial,hb,trivial,trivial,trivial,trivial,trivial,
      fun _=>⟨_,_,rfl,ret_k (by kernel_rfl)⟩,fun h=>by simp [SS.put] at h⟩,fun h=>by rw [e] at h;simp at h⟩⟩)
    ⟨(tail_oeq (cnt:=ofNat (P.length+1)) (wr:=ofNat (wr+1)) (off:=off) (armed:=false) (left:=ofNat left) ⟨rfl,rfl,rfl,rfl,rfl⟩).1,trivial⟩
 | true=>
   cases left with
   | zero=>
     refine Con.runE (us:=[.set (tO (ofNat n) dur torn (pB ((q,bs) :: P)) (pW ((q,bs) :: P)) (lB ((q,bs) :: P)) (lW ((q,bs) :: P)) (setRow (setRow (setRow (tailF (ofNat (P.length+1)) (ofNat wr) off true 0) 0 1 [.i .i64 (ofNat wr+1)]) 0 2 [.b true]) 0 3 [.b false]))]) [] []
      ((writeSA_vc _ q bs _).mpr ⟨fault2_con _,fun h=>by rw [e0] at h;simp at h,fun _=>⟨has2_con _ _,trivial,fun _=>⟨e,e,e1,trivial,⟨Nat.le_refl _,by omega⟩,trivial,ha,trivial,trivial,hb,trivial,trivial,trivial,trivial,trivial,
        fun h=>by simp [SS.put] at h,fun _=>⟨trivial,trivial,fun _=>⟨trivial,trivial,trivial,trivial,trivial,_,_,rfl,ret_k (by kernel_rfl)⟩,fun h=>by simp [SS.put] at h⟩⟩,fun h=>by rw [e] at h;simp at h⟩⟩)
      ⟨(tail_oeq (cnt:=ofNat (P.length+1)) (wr:=ofNat (wr+1)) (off:=true) (armed:=false) (left:=0) ⟨rfl,rfl,rfl,rfl,rfl⟩).1,trivial⟩
   | succ left=>
     refine Con.runE (us:=[.set (tO (ofNat n) dur torn (pB ((q,bs) :: P)) (pW ((q,bs) :: P)) (lB ((q,bs) :: P)) (lW ((q,bs) :: P)) (setRow (setRow (tailF (ofNat (P.length+1)) (ofNat wr) off true (ofNat (left+1))) 0 1 [.i .i64 (ofNat wr+1)]) 0 4 [.i .i64 (ofNat (left+1)-1)]))]) [] []
      ((writeSA_vc _ q bs _).mpr ⟨fault2_con _,fun h=>by rw [e0] at h;simp at h,fun _=>⟨has2_con _ _,trivial,fun _=>⟨e,e,e1,trivial,⟨Nat.le_refl _,by omega⟩,trivial,ha,trivial,trivial,hb,trivial,trivial,trivial,trivial,trivial,
        fun h=>by simp [SS.put] at h,fun _=>⟨trivial,trivial,fun h=>by have h':ofNat (left+1)=0:=of_decide_eq_true h;exact absurd h' (by simp<;>omega),fun _=>⟨trivial,trivial,?_,trivial,trivial,_,_,rfl,ret_k (by kernel_rfl)⟩⟩⟩,fun h=>by rw [e] at h;simp at h⟩⟩)
      ⟨(tail_oeq (cnt:=ofNat (P.length+1)) (wr:=ofNat (wr+1)) (off:=off) (armed:=true) (left:=ofNat left) ⟨rfl,rfl,rfl,rfl,by show CV.i .i64 (ofNat (left+1)-1)= _;simp⟩).1,trivial⟩
     simp [SS.put] at h4⊢
     omega
theorem writeVB_con (s:SS) (q:Nat) (bs:Nat->Int) (ho:s.off=true) :
 Con PG 69 [.p 0 0,.i .i64 (ofNat q),.sv 1 64 fun k _=>.i .u8 (bs k)] [some s.o] (.i .i64 13) [.set s.o]:=by
 have e0:s.faultE=13:=by unfold SS.faultE;rw [ho];rfl
 have h:Con PG 69 [.p 0 0,.i .i64 (ofNat q),.sv 1 64 fun k _=>.i .u8 (bs k)] [some s.o] (.i .i64 13) [.keep]:=by
  obtain ⟨n,dur,torn,P,wr,off,armed,left⟩:=s
  refine con_of_run [] [] ((writeSA_vc _ q bs _).mpr ⟨fault2_con _,fun _=>?_,fun h=>(by rw [e0] at h;simp at h)⟩)
  rw [e0]
  exact ⟨_,_,rfl,ret_k (by kernel_rfl)⟩
 exact h.oeq (OEqL.refl _) (OEqL.refl _)
theorem writeW_con (s:SS) (q:Nat) (bs:Nat->Int) (ok:s.Ok) (hq:q<s.n) :
 Con PG 69 [.p 0 0,.i .i64 (ofNat q),.sv 1 64 fun k _=>.i .u8 (bs k)] [some s.o] (.i .i64 (s.wrE (ofNat q) 64)) [.set (s.wrS (ofNat q) 64 bs).o]:=by
 cases ho:s.off with
 | true=>
   have e1:s.wrE (ofNat q) 64=13:=by unfold SS.wrE;rw [ho]
   have e2:s.wrS (ofNat q) 64 bs=s:=by unfold SS.wrS;rw [ho]
   rw [e1,e2]
   exact writeVB_con s q bs ho
 | false=>
   have hd:decide (0<=ofNat q/\ofNat q<ofNat s.n/\64=64)=true:=by simp;omega
   have e1:s.wrE (ofNat q) 64=(s.wrote q bs).payE:=by unfold SS.wrE;rw [ho,hd];exact Eq.refl _
   have e2:s.wrS (ofNat q) 64 bs=(s.wrote q bs).pay:=by unfold SS.wrS;rw [ho,hd];exact Eq.refl _
   rw [e1,e2]
   exact writeV_con s q bs ok ho hq
end Go.Proofs.St
namespace Go.Proofs.Cl
open Go Go.Sim Go.Proofs Go.Proofs.Cd Go.Proofs.St Go.Proofs.YthhjjpofenjknaaDoor
structure Byt (s:SS):Prop where
 dur:∀i j,∃n:Nat,n<256/\s.dur i j=ofNat n
 P:∀w∈s.P,∀j,∃n:Nat,n<256/\w.2 j=ofNat n
theorem lbs_mem:∀{P:PW} {k:Nat},lB P k=true->∃w∈P,w.1=k/\lbs P k=w.2
 | [],k,h=>by cases h
 | w :: P,k,h=>by
   have h':(bif Nat.beq k w.1 then true else lB P k)=true:=h
   show ∃w'∈w :: P,w'.1=k/\(bif Nat.beq k w.1 then w.2 else lbs P k)=w'.2
   cases hb:Nat.beq k w.1 with
   | true=>exact ⟨w,List.mem_cons_self,(Nat.eq_of_beq_eq_true hb).symm,rfl⟩
   | false=>
     rw [hb] at h'
     obtain ⟨w',q1,q2,q3⟩:=lbs_mem (P:=P) h'
     exact ⟨w',List.mem_cons_of_mem _ q1,q2,q3⟩
theorem Byt.rd {s:SS} (h:Byt s) (i:Int) (j:Nat):∃n:Nat,n<256/\s.rdB i j=ofNat n:=by
 unfold SS.rdB
 cases hb:lB s.P i.toNat with
 | true=>
   obtain ⟨w,q1,_,q3⟩:=lbs_mem hb
   simp only [q3]
   exact h.P w q1 j
 | false=>exact h.dur i.toNat j
def rdC (s:SS) (i:Int):Nat->Nat:=fun k=>(s.rdB i k).toNat
theorem rdC_eq {s:SS} (h:Byt s) (i:Int) (j:Nat):s.rdB i j=ofNat (rdC s i j):=by
 obtain ⟨n,_,e⟩:=h.rd i j
 unfold rdC;rw [e];exact Eq.refl _
theorem rdC_lt {s:SS} (h:Byt s) (i:Int) (j:Nat):rdC s i j<256:=by
 obtain ⟨n,hn,e⟩:=h.rd i j
 unfold rdC;rw [e];exact hn
theorem readZ_con (s:SS) (i:Int) (hn:s.n<=512):Con PG 39 [.p 0 0,.i .i64 i] [some s.o] (.tup [.sv 1 (s.rdN i) fun k _=>.i .u8 (s.rdB i k),.i .i64 (s.rdE i)]) [.keep,.gone]:=
 ((read_con s i hn).freeze (us':=[.keep,.gone]) (v':=.tup [.sv 1 (s.rdN i) (shiftF 0 fun k _=>.i .u8 (s.rdB i k)),.i .i64 (s.rdE i)]) 1 rfl ⟨.refl _,rfl,trivial⟩ (.inr ⟨by kernel_rfl,⟨rfl,by omega⟩,trivial,trivial⟩))
theorem readT_con (s:SS) (i:Int) (hn:s.n<=512) (hb:Byt s) (h:s.rdE i=0):Con PG 39 [.p 0 0,.i .i64 i] [some s.o] (.tup [.sv 1 64 (byF (rdC s i)),.i .i64 0]) [.keep,.gone]:=by
 have k:=readZ_con s i hn
 rw [SS.rdN_64 h,h] at k
 exact k.post (.tup ⟨.sv fun a j _ _=>by show CV.i .u8 (s.rdB i a)=CV.i .u8 (ofNat (rdC s i a));rw [rdC_eq hb],.refl _,trivial⟩) (OVL.refl _)
theorem readF_con (s:SS) (i:Int) (hn:s.n<=512) (h:s.rdE i≠0):Con PG 39 [.p 0 0,.i .i64 i] [some s.o] (.tup [.sv 1 0 fun _ _=>.p0,.i .i64 (s.rdE i)]) [.keep,.gone]:=by
 have k:=readZ_con s i hn
 rw [SS.rdN_0 h] at k
 exact k.post (.tup ⟨.sv fun a j h0 _=>by omega,.refl _,trivial⟩) (OVL.refl _)
structure OkM (s:SS) (m:Nat):Prop where
 n:s.n<=512
 P:s.P.length<=m
 wr:s.wr<=m
 left:s.left<9223372036854775808
 at_:∀w∈s.P,w.1<s.n
theorem OkM.ok {s:SS} {m:Nat} (h:OkM s m) (hm:m<1073741824):s.Ok:=⟨h.n,by have:=h.P;omega,by have:=h.wr;omega,h.left,h.at_⟩
theorem OkM.mono {s:SS} {m k:Nat} (h:OkM s m) (hm:m<=k):OkM s k:=⟨h.n,by have:=h.P;omega,by have:=h.wr;omega,h.left,h.at_⟩
theorem wrS_off {s:SS} (ho:s.off=true) (a:Int) (bs:Nat->Int):s.wrS a 64 bs=s:=by unfold SS.wrS;rw [ho]
theorem wrS_on {s:SS} {q:Nat} (ho:s.off=false) (hq:q<s.n) (bs:Nat->Int):s.wrS (ofNat q) 64 bs=(s.wrote q bs).pay:=by
 have hd:decide (0<=ofNat q/\ofNat q<ofNat s.n/\64=64)=true:=by simp;omega
 unfold SS.wrS;rw [ho,hd];exact Eq.refl _
theorem pay_or (s:SS):s.pay=s\/s.pay={ s with off:=true,armed:=false}\/s.pay={ s with left:=s.left-1}:=by
 unfold SS.pay
 cases s.armed with
 | false=>exact .inl rfl
 | true=>
   cases Nat.beq s.left 0 with
   | true=>exact .inr (.inl rfl)
   | false=>exact .inr (.inr rfl)
theorem OkM.wrS {s:SS} {m q:Nat} (h:OkM s m) (hq:q<s.n) (bs:Nat->Int):OkM (s.wrS (ofNat q) 64 bs) (m+1):=by
 cases ho:s.off with
 | true=>rw [wrS_off ho];exact h.mono (Nat.le_succ m)
 | false=>
   rw [wrS_on ho hq]
   have base:OkM (s.wrote q bs) (m+1):=⟨h.n,by have:=h.P;show (s.P.length+1)<=_;omega,by have:=h.wr;show s.wr+1<=_;omega,h.left,fun w hw=>by
    rcases List.mem_cons.1 hw with rfl | hw
    · exact hq
    · exact h.at_ w hw⟩
   rcases pay_or (s.wrote q bs) with e | e | e<;>rw [e]
   · exact base
   · exact ⟨base.n,base.P,base.wr,base.left,base.at_⟩
   · exact ⟨base.n,base.P,base.wr,by have:=base.left;show (s.wrote q bs).left-1<_;omega,base.at_⟩
theorem Byt.wrS {s:SS} {q:Nat} {bs:Nat->Int} (h:Byt s) (hq:q<s.n) (hb:∀j,∃n:Nat,n<256/\bs j=ofNat n):Byt (s.wrS (ofNat q) 64 bs):=by
 cases ho:s.off with
 | true=>rw [wrS_off ho];exact h
 | false=>
   rw [wrS_on ho hq]
   have base:Byt (s.wrote q bs):=⟨h.dur,fun w hw j=>by
    rcases List.mem_cons.1 hw with rfl | hw
    · exact hb j
    · exact h.P w hw j⟩
   rcases pay_or (s.wrote q bs) with e | e | e<;>rw [e]
   · exact base
   · exact ⟨base.dur,base.P⟩
   · exact ⟨base.dur,base.P⟩
theorem durL_byt {dur:Nat->Nat->Int} (h:∀i j,∃n:Nat,n<256/\dur i j=ofNat n):∀(P:PW),(∀w∈P,∀j,∃n:Nat,n<256/\w.2 j=ofNat n)->∀i j,∃n:Nat,n<256/\durL dur P i j=ofNat n
 | [],_,i,j=>h i j
 | w :: P,hP,i,j=>by
   have ih:=durL_byt h P (fun w hw=>hP w (List.mem_cons_of_mem _ hw)) i j
   have hw:=hP w List.mem_cons_self j
   first
   | (show ∃n:Nat,n<256/\(bif Nat.beq i w.1 then w.2 else durL dur P i) j=ofNat n
      cases Nat.beq i w.1
      · exact ih
      · exact hw)
   | (show ∃n:Nat,n<256/\durL (fun k=>bif Nat.beq k w.1 then w.2 else dur k) P i j=ofNat n
      exact durL_byt (fun i j=>by
       show ∃n:Nat,n<256/\(bif Nat.beq i w.1 then w.2 else dur i) j=ofNat n
       cases Nat.beq i w.1
       · exact h i j
       · exact hP w List.mem_cons_self j) P (fun w hw=>hP w (List.mem_cons_of_mem _ hw)) i j)
theorem Byt.flush {s:SS} (h:Byt s) (m:Nat):Byt (s.flush m):=
 ⟨durL_byt h.dur _ fun w hw=>h.P w (List.mem_of_mem_drop hw),fun w hw=>by cases hw⟩
theorem Byt.bar {s:SS} (h:Byt s):Byt s.bar:=by
 unfold SS.bar
 split
 · exact h
 · exact h.flush _
theorem OkM.bar {s:SS} {m:Nat} (h:OkM s m):OkM s.bar m:=by
 unfold SS.bar
 split
 · exact h
 · exact ⟨h.n,Nat.zero_le _,h.wr,h.left,fun w hw=>by cases hw⟩
end Go.Proofs.Cl
namespace Go.Proofs.Jn
open Go Go.Sim Go.Proofs Go.Proofs.Cd Go.Proofs.St Go.Proofs.Cl Go.Proofs.YthhjjpofenjknaaDoor
def recF (m:Nat->Nat) (b:Nat->Nat->Nat):Nat->Nat->CV:=fun i _=>.sv 1 (m i) (byF (b i))
def cmP:Array Tmp:=rfPrm PG 50 0
def cmA:Code:=rfAsg PG 50 0
def cmB:Code:=rfBody PG 50 0
def cutV:AV:=.fn (.func 72) [] [.p 1 0,.p 2 0,.p 3 0]
def resO:AObj:=.cells 23 1 [.i .i64 0] .e
def resE (e:Int):AObj:=.cells 23 1 [.i .i64 0] (setAll .e 0 [.i .i64 e])
def cmR (s:SS) (at0 at_:Int) (res:AObj) (st:Nat) (gen first n:Nat) (m:Nat->Nat) (b:Nat->Nat->Nat):List (Option AObj):=
 [some s.o,some (cellsO 46 [.sv 1 n (recF m b)]),some (cellsO 3 [.i .i64 (ofNat gen)]),some (cellsO 3 [.i .i64 (ofNat first)]),some (cellsO 36 [.p 0 0]),some (cellsO 3 [.i .i64 at_]),some res,
  some (lpO PG 50 0 st 23 [(0,.p 0 0),(1,.i .i64 at0),(2,cutV),(3,.p 4 0),(4,.p 5 0),(6,.p 6 0),(9,cutV)])]
def inT (n i np k mi:Nat) (bi:Nat->Nat) (m:Nat->Nat) (b:Nat->Nat->Nat):List (Nat×AV):=
 [(0,.yf 7),(2,.p 2 0),(3,.p 3 0),(5,.i .i64 (ofNat i)),(6,.sv 1 mi (byF bi)),(7,.i .i64 (ofNat np)),(10,.sv 1 n (recF m b)),(11,.i .i64 (ofNat n)),(12,.i .i64 (ofNat i)),(19,.i .i64 (ofNat np)),(20,.i .i64 (ofNat k))]
def oT (n i:Nat) (m:Nat->Nat) (b:Nat->Nat->Nat):List (Nat×AV):=
 [(0,.yf 7),(2,.p 2 0),(3,.p 3 0),(10,.sv 1 n (recF m b)),(11,.i .i64 (ofNat n)),(12,.i .i64 (ofNat i))]
theorem partsA_vc (m:Nat) (b:Nat->Nat) (K:Res->Orc->Prop):runK PG 1000000 (.call 68 [.sv 1 m (byF b)] (mkH [])) (.z) K=(rg (ofNat m+47)/\rg (ofNat m+47-1)/\((47:Int)≠(0:Int)/\(-9223372036854775808)<=Int.tdiv (ofNat m+(47:Int)-(1:Int)) 47/\Int.tdiv (ofNat m+(47:Int)-(1:Int)) (47:Int)<=(9223372036854775807:Int))/\K (.rv (.i .i64 (if Int.tdiv (ofNat m+(47:Int)-(1:Int)) (47:Int)>(1:Int) then Int.tdiv (ofNat m+(47:Int)-(1:Int)) 47 else 1)) ⟨.e,0,[]⟩) .z):=by kernel_rfl
theorem in_vc (s S2:SS) (E2:Int) (C2:Nat->Nat) (at0 at_:Int) (gen first n i np k mi:Nat) (bi m:Nat->Nat) (b:Nat->Nat->Nat) (K:Res->Orc->Prop):runK PG 1000000 (.code (loopAt PG 72 1) 46 (mkT (inT n i np k mi bi m b)) (mkH (cmR s at0 at_ resO 0 gen first n m b))) (.s (.cal [] (.sv 1 64 (byF C2)) [] (.cal [0] (.i .i64 E2) [.set (SS.o S2)] (.s (.c .z) (.c .z)))) .z) K=((fun (q4:List AV)=>((fun (q3:AV)=>((fun (q2:List AV)=>((fun (q1:Int)=>((fun (q0:AV)=>((decide (ofNat k<ofNat np)=true->rg (ofNat k*47)/\rg (ofNat k+1)/\rg ((ofNat k+1)*47)/\(0<=ofNat k*47/\(0<=if ofNat mi<(ofNat k+1)*47 then ofNat mi else (ofNat k+1)*47)/\Int.toNat (ofNat k*47)<=Int.toNat q1/\Int.toNat q1<=mi)/\rg (ofNat first+ofNat i)/\Con PG 70 [.agg [inv gen,.i .i64 (ofNat first+ofNat i),inv k,inv np,.sv 1 (Int.toNat q1-Int.toNat (ofNat k*47)) (shiftF (Int.toNat (ofNat k*47)) (byF bi))]] [] (.sv 1 64 (byF C2)) []/\Con PG 69 [.p 0 0,.i .i64 at_,.sv 1 64 (byF C2)] [some (SS.o s)] (.i .i64 E2) [.set (SS.o S2)]/\((!decide (E2=0))=true->True/\K (.st .ret (zz1 (.yf 7) (zz0 (zz1 (.p 3 0) (zz1 (inv np) (zz0 (zzl (.i .i64 q1)) .e) (zz1 (.sv 1 mi (byF bi)) (zzn np) .e)) (zz1 (inv n) (zz1 (inv np) (zzn first) .e) (zz1 (.i .i64 (ofNat k+1)) zzb .e))) (zz1 (inv i) (zz1 q0 (zz0 (zzl (.yf 7)) .e) (zz1 (.i .i64 (ofNat k*47)) (zzl (.agg [inv
 gen,.i .i64 (ofNat first+ofNat i),inv k,inv np,.sv 1 (Int.toNat q1-Int.toNat (ofNat k*47)) (shiftF (Int.toNat (ofNat k*47)) (byF bi))])) .e)) (zz0 (zz1 (.b (decide (ofNat k<ofNat np))) (zzl (.i .i64 (ofNat first+ofNat i))) .e) (zzl (.sv 1 mi (byF bi)))))) (zz1 (.p 2 0) (zz0 (zz1 (inv k) (zz0 (zzl q0) .e) (zz1 (inv k) (zzl q0) .e)) (zz1 (inv i) (zz1 (inv k) (zzn i) .e) (zzl (.i .i64 ((ofNat k+1)*47))))) (zz1 (.sv 1 mi (byF bi)) (zz1 q3 (zz0 (zzn gen) .e) (zz1 (inv k) (zzl (.b false)) .e)) (zz0 (zz1 (inv k) (zzn k) .e) (zzn mi))))) ⟨zz1 (SS.o S2) (zz1 (AObj.cells 46 1 [] (zzl q3)) (zz1 (AObj.cells 3 1 [] (zzn first)) (zzl (AObj.lp 1 23 cmP cmA cmB (zz1 (.p 0 0) (zz1 (.i .i64 at0) (zzl (.p 4 0)) (zz0 (zzl (.fn (Fn.func 72) [] q2)) .e)) (zz1 (.fn (Fn.func 72) [] q2) (zzl (.p 5 0)) (zzl (.p 6 0)))))) .e) (zzl (AObj.cells 3 1 [] (zzl (.i .i64 at_))))) (zz1 (AObj.cells 3 1 [] (zzn gen)) (zz1 (AObj.cells 36 1 [] (zzl (.p 0 0))) (zzl (AObj.cells 101 5 q4 (zz1 (inv gen) (zz1 (.i .i64 (ofNat first+ofNat i)) (zzn np) .e) (zz1 (inv k) (zzl q0) .e)))) .e) (zzl (AObj.cells 23 1 [.i .i64 0] (zzl (.i .i64 E2))))),9,[7,6,0,8,8,7]⟩) .z)/\((!decide (E2=0))=false->rg (at_+1)/\True/\rg (ofNat k+1)/\K (.st .nrm (zz1 (.yf 7) (zz0 (zz1 (.p 3 0) (zz1 (inv np) (zz0 (zzl (.i .i64 q1)) .e) (zz1 (.sv 1 mi (byF bi)) (zzn np) .e)) (zz1 (inv n) (zz1 (inv np) (zzn first) .e) (zz1 (.i .i64 (ofNat k+1)) (zzl (.b
 false)) .e))) (zz1 (inv i) (zz1 q0 (zz0 (zzl (.yf 7)) .e) (zz1 (.i .i64 (ofNat k*47)) (zzl (.agg [inv gen,.i .i64 (ofNat first+ofNat i),inv k,inv np,.sv 1 (Int.toNat q1-Int.toNat (ofNat k*47)) (shiftF (Int.toNat (ofNat k*47)) (byF bi))])) .e)) (zz0 (zz1 (.b (decide (ofNat k<ofNat np))) (zzl (.i .i64 (ofNat first+ofNat i))) .e) (zzl (.sv 1 mi (byF bi)))))) (zz1 (.p 2 0) (zz0 (zz1 (inv k) (zz0 (zzl q0) .e) (zz1 (inv k) (zzl q0) .e)) (zz1 (inv i) (zz1 (.i .i64 (ofNat k+1)) (zzn i) .e) (zz1 (.i .i64 ((ofNat k+1)*47)) (zzl (.i .i64 (ofNat k+1))) .e))) (zz1 (.sv 1 mi (byF bi)) (zz1 q3 (zz0 (zzn gen) .e) (zz1 (inv k) zzb .e)) (zz0 (zz1 (inv k) (zzn k) .e) (zzn mi))))) ⟨zz1 (SS.o S2) (zz1 (AObj.cells 46 1 [] (zzl q3)) (zz1 (AObj.cells 3 1 [] (zzn first)) (zzl (AObj.lp 0 23 cmP cmA cmB (zz1 (.p 0 0) (zz1 (.i .i64 at0) (zzl (.p 4 0)) (zz0 (zzl (.fn (Fn.func 72) [] q2)) .e)) (zz1 (.fn (Fn.func 72) [] q2) (zzl (.p 5 0)) (zzl (.p 6 0)))))) .e) (zzl (AObj.cells 3 1 [] (zzl (.i .i64 (at_+1)))))) (zz1 (AObj.cells 3 1 [] (zzn gen)) (zz1 (AObj.cells 36 1 [] (zzl (.p 0 0))) (zzl (AObj.cells 101 5 q4 (zz1 (inv gen) (zz1 (.i .i64 (ofNat first+ofNat i)) (zzn np) .e) (zz1 (inv k) (zzl q0) .e)))) .e) (zzl (AObj.cells 23 1 [.i .i64 0] .e))),9,[7,5,0,8,8,7]⟩) .z))/\(decide (ofNat k<ofNat np)=false->K (.st (.exit 2) (zz1 (.yf 7) (zz0 (zz1 (.p 3 0) (zzn np) (zz1 (inv n) (zzn np) .e)) (zz1 (inv i)
 .e (zz0 (zzl (.b (decide (ofNat k<ofNat np)))) .e))) (zz1 (.p 2 0) (zz0 .e (zz1 (inv i) (zzn k) .e)) (zz1 (.sv 1 mi (byF bi)) (zzl q3) .e))) ⟨zz1 (SS.o s) (zz1 (AObj.cells 46 1 [] (zzl q3)) (zz1 (AObj.cells 3 1 [] (zzn first)) (zzl (AObj.lp 0 23 cmP cmA cmB (zz1 (.p 0 0) (zz1 (.i .i64 at0) (zzl (.p 4 0)) (zz0 (zzl (.fn (Fn.func 72) [] q2)) .e)) (zz1 (.fn (Fn.func 72) [] q2) (zzl (.p 5 0)) (zzl (.p 6 0)))))) .e) (zzl (AObj.cells 3 1 [] (zzl (.i .i64 at_))))) (zz1 (AObj.cells 3 1 [] (zzn gen)) (zzl (AObj.cells 36 1 [] (zzl (.p 0 0)))) (zzl (AObj.cells 23 1 [.i .i64 0] .e))),8,[]⟩) .z))) (.sv 1 (Int.toNat q1-Int.toNat (ofNat k*47)) (shiftF (Int.toNat (ofNat k*47)) (byF bi))))) (if ofNat mi<(ofNat k+1)*47 then ofNat mi else (ofNat k+1)*47))) [.p 1 0,.p 2 0,.p 3 0])) (.sv 1 n (recF m b)))) [.i .i64 0,.i .i64 0,.i .i64 0,.i .i64 0,.l0]):=by kernel_rfl
theorem outA_vc (s S2:SS) (A2:Int) (N2:Nat) (at0 at_:Int) (gen first n i:Nat) (m:Nat->Nat) (b:Nat->Nat->Nat) (K:Res->Orc->Prop):runK PG 1000000 (.code (loopAt PG 72 0) 46 (mkT (oT n i m b)) (mkH (cmR s at0 at_ resO 0 gen first n m b))) (.s (.cal [] (inv N2) [] (.lop [0,1,2,3,4,5,6,7] [0,2,3,5,6,7,10,11,12,19,20] 8 (.exit 2) (oT n i m b) (cmR S2 at0 A2 resO 0 gen first n m b) .z)) .z) K=((fun (q1:AV)=>((fun (q0:List AV)=>((decide (ofNat i<ofNat n)=true->(0<=ofNat i/\ofNat i<↑n)/\True/\Con PG 68 [.sv 1 (m i) (byF (b (Int.toNat (ofNat i))))] [] (inv N2) []/\LDoes PG (loopAt PG 72 1) 46 8 (mkT (inT n i N2 0 (m i) (b (Int.toNat (ofNat i))) m b)) (cmR s at0 at_ resO 0 gen first n m b) (.exit 2) (mkT (oT n i m b)) (cmR S2 at0 A2 resO 0 gen first n m b)/\rg (ofNat i+1)/\K (.st .nrm (zz1 (.yf 7) (zz0 (zz1 (.p 3 0) .e (zzn n)) (zz0 .e (zz0 .e (zz0 (zzl (.i .i64 (ofNat i+1))) .e)))) (zz1 (.p 2 0) (zz0 .e (zzl (.i .i64 (ofNat i+1)))) (zz0 (zzl q1) .e))) ⟨zz1 (SS.o S2) (zz1 (AObj.cells 46 1 [] (zzl q1)) (zz1 (AObj.cells 3 1 [] (zzn first)) (zzl (AObj.lp 0 23 cmP cmA cmB (zz1 (.p 0 0) (zz1 (.i .i64 at0) (zzl (.p 4 0)) (zz0 (zzl (.fn (Fn.func 72) [] q0)) .e)) (zz1 (.fn (Fn.func 72) [] q0) (zzl (.p 5 0)) (zzl (.p 6 0)))))) .e) (zzl (AObj.cells 3 1 [] (zzl (.i .i64 A2))))) (zz1 (AObj.cells 3 1 [] (zzn gen)) (zzl (AObj.cells 36 1 [] (zzl (.p 0 0)))) (zzl (AObj.cells 23 1 [.i .i64 0] .e))),
 8,[7,6,5,4,3,2,1,0]⟩) .z)/\(decide (ofNat i<ofNat n)=false->K (.st (.exit 0) (zz1 (.yf 7) (zz0 (zz1 (.p 3 0) .e (zzn n)) (zz0 .e (zzl (.b (decide (ofNat i<ofNat n)))))) (zz1 (.p 2 0) (zz0 .e (zzn i)) (zz0 (zzl q1) .e))) ⟨zz1 (SS.o s) (zz1 (AObj.cells 46 1 [] (zzl q1)) (zz1 (AObj.cells 3 1 [] (zzn first)) (zzl (AObj.lp 0 23 cmP cmA cmB (zz1 (.p 0 0) (zz1 (.i .i64 at0) (zzl (.p 4 0)) (zz0 (zzl (.fn (Fn.func 72) [] q0)) .e)) (zz1 (.fn (Fn.func 72) [] q0) (zzl (.p 5 0)) (zzl (.p 6 0)))))) .e) (zzl (AObj.cells 3 1 [] (zzl (.i .i64 at_))))) (zz1 (AObj.cells 3 1 [] (zzn gen)) (zzl (AObj.cells 36 1 [] (zzl (.p 0 0)))) (zzl (AObj.cells 23 1 [.i .i64 0] .e))),8,[]⟩) .z))) [.p 1 0,.p 2 0,.p 3 0])) (.sv 1 n (recF m b))):=by kernel_rfl
theorem outB_vc (s S2:SS) (E2 A2:Int) (N2:Nat) (at0 at_:Int) (gen first n i:Nat) (m:Nat->Nat) (b:Nat->Nat->Nat) (K:Res->Orc->Prop):runK PG 1000000 (.code (loopAt PG 72 0) 46 (mkT (oT n i m b)) (mkH (cmR s at0 at_ resO 0 gen first n m b))) (.s (.cal [] (inv N2) [] (.lop [0,1,2,3,4,5,6,7] [0,2,3,5,6,7,10,11,12,19,20] 8 .ret [] (cmR S2 at0 A2 (resE E2) 1 gen first n m b) .z)) .z) K=((fun (q1:AV)=>((fun (q0:List AV)=>((decide (ofNat i<ofNat n)=true->(0<=ofNat i/\ofNat i<↑n)/\True/\Con PG 68 [.sv 1 (m i) (byF (b (Int.toNat (ofNat i))))] [] (inv N2) []/\LDoes PG (loopAt PG 72 1) 46 8 (mkT (inT n i N2 0 (m i) (b (Int.toNat (ofNat i))) m b)) (cmR s at0 at_ resO 0 gen first n m b) .ret (mkT []) (cmR S2 at0 A2 (resE E2) 1 gen first n m b)/\K (.st .ret .e ⟨zz1 (SS.o S2) (zz1 (AObj.cells 46 1 [] (zzl q1)) (zz1 (AObj.cells 3 1 [] (zzn first)) (zzl (AObj.lp 1 23 cmP cmA cmB (zz1 (.p 0 0) (zz1 (.i .i64 at0) (zzl (.p 4 0)) (zz0 (zzl (.fn (Fn.func 72) [] q0)) .e)) (zz1 (.fn (Fn.func 72) [] q0) (zzl (.p 5 0)) (zzl (.p 6 0)))))) .e) (zzl (AObj.cells 3 1 [] (zzl (.i .i64 A2))))) (zz1 (AObj.cells 3 1 [] (zzn gen)) (zzl (AObj.cells 36 1 [] (zzl (.p 0 0)))) (zzl (AObj.cells 23 1 [.i .i64 0] (zzl (.i .i64 E2))))),8,[7,6,5,4,3,2,1,0]⟩) .z)/\(decide (ofNat i<ofNat n)=false->K (.st (.exit 0) (zz1 (.yf 7) (zz0 (zz1 (.p 3 0) .e (zzn n)) (zz0 .e (zzl (.b (decide (ofNat i<ofNat n))))))
 (zz1 (.p 2 0) (zz0 .e (zzn i)) (zz0 (zzl q1) .e))) ⟨zz1 (SS.o s) (zz1 (AObj.cells 46 1 [] (zzl q1)) (zz1 (AObj.cells 3 1 [] (zzn first)) (zzl (AObj.lp 0 23 cmP cmA cmB (zz1 (.p 0 0) (zz1 (.i .i64 at0) (zzl (.p 4 0)) (zz0 (zzl (.fn (Fn.func 72) [] q0)) .e)) (zz1 (.fn (Fn.func 72) [] q0) (zzl (.p 5 0)) (zzl (.p 6 0)))))) .e) (zzl (AObj.cells 3 1 [] (zzl (.i .i64 at_))))) (zz1 (AObj.cells 3 1 [] (zzn gen)) (zzl (AObj.cells 36 1 [] (zzl (.p 0 0)))) (zzl (AObj.cells 23 1 [.i .i64 0] .e))),8,[]⟩) .z))) [.p 1 0,.p 2 0,.p 3 0])) (.sv 1 n (recF m b))):=by kernel_rfl
theorem cmA_vc (s S2:SS) (E2:Int) (S3:SS) (A2:Int) (at_ gen first n:Nat) (m:Nat->Nat) (b:Nat->Nat->Nat) (K:Res->Orc->Prop):runK PG 1000000 (.call 50 [.p 0 0,inv at_,cutV] (mkH [some s.o,some (cellsO 46 [.sv 1 n (recF m b)]),some (cellsO 3 [inv gen]),some (cellsO 3 [inv first])])) (.inl (.lop [0,1,2,3,4,5,6,7] [0,2,3,10,11,12] 8 (.exit 0) [] (cmR S2 (ofNat at_) A2 resO 0 gen first n m b) (.cal [0] (.i .i64 E2) [.set (SS.o S3)] .z))) K=(LDoes PG (loopAt PG 72 0) 46 8 (mkT (oT n 0 m b)) (cmR s (ofNat at_) (ofNat at_) resO 0 gen first n m b) (.exit 0) (mkT []) (cmR S2 (ofNat at_) A2 resO 0 gen first n m b)/\Con PG 71 [.p 0 0] [some (SS.o S2)] (.i .i64 E2) [.set (SS.o S3)]/\K (.rv (.i .i64 E2) ⟨zz1 (SS.o S3) (zz1 (AObj.cells 46 1 [] (zzl (.sv 1 n (recF m b)))) (zz1 (AObj.cells 3 1 [] (zzn first)) (zz0 .e .e) .e) (zzl (AObj.cells 3 1 [] (zzl (.i .i64 A2))))) (zz1 (AObj.cells 3 1 [] (zzn gen)) (zzl (AObj.cells 36 1 [] (zzl (.p 0 0)))) (zzl (AObj.cells 23 1 [.i .i64 0] (zzl (.i .i64 E2))))),8,[6,0,7,7,6,5,4,3,2,1,0,7,6,5,4]⟩) .z):=by kernel_rfl
theorem cmB_vc (s S2:SS) (E2 A2:Int) (at_ gen first n:Nat) (m:Nat->Nat) (b:Nat->Nat->Nat) (K:Res->Orc->Prop):runK PG 1000000 (.call 50 [.p 0 0,inv at_,cutV] (mkH [some s.o,some (cellsO 46 [.sv 1 n (recF m b)]),some (cellsO 3 [inv gen]),some (cellsO 3 [inv first])])) (.inl (.lop [0,1,2,3,4,5,6,7] [0,2,3,10,11,12] 8 .ret [] (cmR S2 (ofNat at_) A2 (resE E2) 1 gen first n m b) .z)) K=(LDoes PG (loopAt PG 72 0) 46 8 (mkT (oT n 0 m b)) (cmR s (ofNat at_) (ofNat at_) resO 0 gen first n m b) .ret (mkT []) (cmR S2 (ofNat at_) A2 (resE E2) 1 gen first n m b)/\K (.rv (.i .i64 E2) ⟨zz1 (SS.o S2) (zz1 (AObj.cells 46 1 [] (zzl (.sv 1 n (recF m b)))) (zz1 (AObj.cells 3 1 [] (zzn first)) (zz0 .e .e) .e) (zzl (AObj.cells 3 1 [] (zzl (.i .i64 A2))))) (zz1 (AObj.cells 3 1 [] (zzn gen)) (zzl (AObj.cells 36 1 [] (zzl (.p 0 0)))) (zzl (AObj.cells 23 1 [.i .i64 0] (zzl (.i .i64 E2))))),8,[7,7,6,5,4,3,2,1,0,7,6,5,4]⟩) .z):=by kernel_rfl
def npF (m:Nat):Nat:=if (m+46) / 47>1 then (m+46) / 47 else 1
theorem npF_le {m:Nat} (h:m<=4611686018427387904):npF m<=4611686018427387904:=by unfold npF;split<;>omega
theorem npF_pos (m:Nat):1<=npF m:=by unfold npF;split<;>omega
theorem npF_cov {m k:Nat} (hk:k<npF m):k*47<=m:=by
 unfold npF at hk;split at hk<;>omega
theorem parts_con (m:Nat) (b:Nat->Nat) (hm:m<=4611686018427387904):Con PG 68 [.sv 1 m (byF b)] [] (.i .i64 (ofNat (npF m))) []:=by
 have e:Int.tdiv (ofNat m+(47:Int)-(1:Int)) (47:Int)=ofNat ((m+46) / 47):=by
  rw [show ofNat m+(47:Int)-(1:Int)=ofNat (m+46) from by simp;omega];exact Eq.refl _
 refine con_plain rfl ((partsA_vc m b _).mpr ?_)
 rw [e]
 refine ⟨⟨by simp;omega,by simp;omega⟩,⟨by simp;omega,by simp;omega⟩,⟨by decide,by simp;omega,by simp;omega⟩,_,_,rfl,?_⟩
 have:(if ofNat ((m+46) / 47)>(1:Int) then ofNat ((m+46) / 47) else (1:Int))=ofNat (npF m):=by
  unfold npF
  by_cases h:(m+46) / 47>1
  · rw [if_pos h,if_pos (by simp;omega)]
  · rw [if_neg h,if_neg (by simp;omega)];exact Eq.refl _
 rw [this]
def pl (mi k:Nat):Nat:=min ((k+1)*47) mi-k*47
def pcB (gen num np mi:Nat) (bi:Nat->Nat) (k:Nat):Nat->Nat:=psecB gen num k np (pl mi k) fun j=>bi (k*47+j)
def runW (c:Nat->Nat->Nat):Nat->SS->Nat->Nat->Int×SS×Nat
 | 0,s,a,_=>(0,s,a)
 | j+1,s,a,k=>match decide (s.wrE (ofNat a) 64=0) with
   | true=>runW c j (s.wrS (ofNat a) 64 fun t=>ofNat (c k t)) (a+1) (k+1)
   | false=>(s.wrE (ofNat a) 64,s.wrS (ofNat a) 64 (fun t=>ofNat (c k t)),a)
theorem wrS_n (s:SS) (i:Int) (bs:Nat->Int):(s.wrS i 64 bs).n=s.n:=by
 unfold SS.wrS
 cases s.off with
 | true=>rfl
 | false=>
   simp only
   split
   · rcases pay_or (s.wrote i.toNat bs) with e | e | e<;>rw [e]<;>rfl
   · rfl
theorem shift_by (q:Nat) (bi:Nat->Nat):shiftF q (byF bi)=byF (fun j=>bi (q+j)):=by
 funext i j;rw [shiftF_eq];rfl
section
variable (at0:Int) (gen first n i mi:Nat) (bi:Nat->Nat) (m:Nat->Nat) (b:Nat->Nat->Nat)
def inI (at0:Int) (gen first n i mi:Nat) (bi:Nat->Nat) (m:Nat->Nat) (b:Nat->Nat->Nat) (d:SS×Nat×Nat):List (Nat×AV)×List (Option AObj):=
 (inT n i (npF mi) d.2.2 mi bi m b,cmR d.1 at0 (ofNat d.2.1) resO 0 gen first n m b)
structure InOk (gen num mi:Nat) (bi:Nat->Nat) (R:Int×SS×Nat) (d:SS×Nat×Nat):Prop where
 k:d.2.2<=npF mi
 run:runW (pcB gen num (npF mi) mi bi) (npF mi-d.2.2) d.1 d.2.1 d.2.2=R
 ok:∃mm,OkM d.1 mm/\mm+(npF mi-d.2.2)<1073741823
 at_:d.2.1+(npF mi-d.2.2)<=d.1.n
theorem in_lp (hm:mi<=1073741824) (hb:∀t,bi t<256) (hn:first+i<4611686018427387904) (R:Int×SS×Nat) (x:XO) (l':List (Nat×AV)) (objs':List (Option AObj))
 (hx:(R.1=0/\x=.exit 2/\l'=oT n i m b/\objs'=cmR R.2.1 at0 (ofNat R.2.2) resO 0 gen first n m b)\/
   (R.1≠0/\x=.ret/\l'=[]/\objs'=cmR R.2.1 at0 (ofNat R.2.2) (resE R.1) 1 gen first n m b)) (d:SS×Nat×Nat) (hd:InOk gen (first+i) mi bi R d) :
 LDoes PG (loopAt PG 72 1) 46 8 (mkT (inI at0 gen first n i mi bi m b d).1) (inI at0 gen first n i mi bi m b d).2 x (mkT l') objs':=by
 refine loop_ind (D:=SS×Nat×Nat) (l':=l') (inI at0 gen first n i mi bi m b) (fun d=>npF mi-d.2.2) (InOk gen (first+i) mi bi R) ?_ d hd
 rintro ⟨s,a,k⟩ ⟨hk,hR,⟨mm,ok,hmm⟩,ha⟩
 simp only at hk hR ok hmm ha
 have hn512:=ok.n
 have hnp:npF mi<=4611686018427387904:=npF_le (by omega)
 refine ⟨Nat.le_refl _,1000000,_,(in_vc s (s.wrS (ofNat a) 64 fun t=>ofNat (pcB gen (first+i) (npF mi) mi bi k t)) (s.wrE (ofNat a) 64) (pcB gen (first+i) (npF mi) mi bi k) at0 (ofNat a) gen first n i (npF mi) k mi bi m b _).mpr ⟨fun hlt=>?_,fun hge=>?_⟩⟩
 · have hlt:k<npF mi:=by simpa using hlt
   have hcov:=npF_cov hlt
   have e2:Int.toNat (ofNat k*(47:Int))=k*47:=Eq.refl _
   have e3:Int.toNat (if ofNat mi<(ofNat k+(1:Int))*(47:Int) then ofNat mi else (ofNat k+(1:Int))*(47:Int))=min ((k+1)*47) mi:=by
    split
    · rename_i h;simp at h;simp;omega
    · rename_i h;simp at h;simp;omega
   have e4:(0:Int)<=(if ofNat mi<(ofNat k+(1:Int))*(47:Int) then ofNat mi else (ofNat k+(1:Int))*(47:Int)):=by
    split<;>simp<;>omega
   have hps:=psec_con gen (first+i) k (npF mi) (pl mi k) (fun j=>bi (k*47+j)) (fun t _=>hb _) (by unfold pl;omega)
   have kS:Con PG 70 [AV.agg [AV.i .i64 (ofNat gen),AV.i .i64 (ofNat first+ofNat i),AV.i .i64 (ofNat k),AV.i .i64 (ofNat (npF mi)),AV.sv 1 (Int.toNat (if ofNat mi<(ofNat k+1)*47 then ofNat mi else (ofNat k+1)*47)-Int.toNat (ofNat k*47)) (shiftF
    (Int.toNat (ofNat k*47)) (byF bi))]] [] (AV.sv 1 64 (byF (pcB gen (first+i) (npF mi) mi bi k))) []:=by
    rw [e3,e2,shift_by];exact hps
   have kW:=writeW_con s a (fun t=>ofNat (pcB gen (first+i) (npF mi) mi bi k t)) (ok.ok (by omega)) (by omega)
   have hstep:∀c:Bool,decide (s.wrE (ofNat a) 64=0)=c->(match c with
    | true=>runW (pcB gen (first+i) (npF mi) mi bi) (npF mi-(k+1)) (s.wrS (ofNat a) 64 fun t=>ofNat (pcB gen (first+i) (npF mi) mi bi k t)) (a+1) (k+1)
    | false=>(s.wrE (ofNat a) 64,s.wrS (ofNat a) 64 (fun t=>ofNat (pcB gen (first+i) (npF mi) mi bi k t)),a))=R:=by
    intro c hc
    rw [<-hR,show npF mi-k=(npF mi-(k+1))+1 by omega]
    show _=(match decide (s.wrE (ofNat a) 64=0) with | true=>_ | false=>_)
    rw [hc]
   refine ⟨⟨by simp;omega,by simp;omega⟩,⟨by simp;omega,by simp;omega⟩,⟨by simp;omega,by simp;omega⟩,⟨by simp;omega,e4,by rw [e3,e2];omega,by rw [e3];omega⟩,⟨by simp;omega,by simp;omega⟩,kS,kW,fun hE=>?_,fun hE=>?_⟩
   · have hc:decide (s.wrE (ofNat a) 64=0)=false:=by simpa using hE
     have hr:=hstep false hc
     simp only at hr
     rcases hx with ⟨h0,_⟩ | ⟨_,rfl,rfl,rfl⟩
     · rw [<-hr] at h0;exact absurd h0 (of_decide_eq_false hc)
     · subst hr
       exact ⟨trivial,.inr ⟨[0,1,2,3,4,5,6,7],[],_,_,rfl,by simp,st_k [0,1,2,3,4,5,6,7] (by kernel_rfl)⟩⟩
   · have hc:decide (s.wrE (ofNat a) 64=0)=true:=by simpa using hE
     have hr:=hstep true hc
     simp only at hr
     refine ⟨⟨by simp;omega,by simp;omega⟩,trivial,⟨by simp;omega,by simp;omega⟩,.inl ⟨(s.wrS (ofNat a) 64 (fun t=>ofNat (pcB gen (first+i) (npF mi) mi bi k t)),a+1,k+1),[0,1,2,3,4,5,6,7],[],_,_,⟨hlt,hr,⟨mm+1,ok.wrS (by omega) _,by simp only;omega⟩,by simp only [wrS_n];omega⟩,by simp only;omega,rfl,st_k [0,1,2,3,4,5,6,7] (by kernel_rfl)⟩⟩
 · have hk':k=npF mi:=by simp at hge;omega
   subst hk'
   rw [Nat.sub_self] at hR
   have hR':(0,s,a)=R:=hR
   subst hR'
   rcases hx with ⟨_,rfl,rfl,rfl⟩ | ⟨h0,_⟩
   · exact .inr ⟨[0,1,2,3,4,5,6,7],[],_,_,rfl,by simp,st_k [0,1,2,3,4,5,6,7] (by kernel_rfl)⟩
   · exact absurd rfl h0
end
end Go.Proofs.Jn
