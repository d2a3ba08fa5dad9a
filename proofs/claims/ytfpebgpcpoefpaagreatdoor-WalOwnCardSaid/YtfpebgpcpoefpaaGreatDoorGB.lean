/- Runs over unknown values, told by the kernel: part GB. -/
import Derived.Test.YtfpebgpcpoefpaaGreatDoorGA
noncomputable section
open Int (ofNat)
set_option linter.unusedSimpArgs false
set_option linter.unusedVariables false
set_option maxRecDepth 20000
namespace Go.Proofs.St
open Go Go.Sim Go.Proofs Go.Proofs.YtfpebgpcpoefpaaGreatDoor
theorem ordL_vc (L:Nat) (i:Int) (q:Nat) (bs:Nat->Int) (Q:PW) (ff:Nat->Nat->CV) (K:Res->Orc->Prop):runK Tryz.prog 1000000 (.code (loopAt Tryz.prog 98 0) 33 (mkT [(3,.lr 0 1 0 L false),(4,.opv true 66 (pW ((q,bs) :: Q))),(5,.i .i64 i)]) (mkH [some (.rows 115 1 L ff)])) (.s .z .z) K=((fun (q0:AV)=>((decide (0<=i)=true->(0<=i/\i<↑L)/\Int.toNat i<L/\true=true/\True/\True/\rg (i-1)/\K (.st .nrm (zz0 (zz0 (zz1 (.lr 0 1 0 L false) (zz0 (zz0 (zzl (.opv (pB Q) 66 (List.rec (motive:=fun x=>Nat->CV) (fun x=>CV.p0) (fun w P ih=>wN (ofNat (Prod.fst w)) (Prod.snd w) (pB P) ih) Q))) .e) (zzl (.i .i64 (i-1)))) (zz0 .e (zzl (.pr 0 1 (Int.toNat i) 0)))) (zz1 (.i .i64 (i-1)) (zz0 .e (zzl (.i .i64 i))) (zz0 (zzl (.b (decide (0<=i)))) (zzl (.pv 66 (pW ((q,bs) :: Q))))))) (zz0 (zz1 (.opv (pB Q) 66 (List.rec (motive:=fun x=>Nat->CV) (fun x=>CV.p0) (fun w P ih=>wN (ofNat (Prod.fst w)) (Prod.snd w) (pB P) ih) Q)) (zz0 .e (zzl (.lr 0 1 0 L false))) (zz0 (zzl (.i .i64 i)) (zzl q0))) (zz0 (zz0 .e (zzl q0)) (zz0 (zzl (.i .i64 i)) (zzl (.pv 1 fun j=>pW ((q,bs) :: Q) (65+j))))))) ⟨zzl (AObj.rows 115 1 L (setRow ff (Int.toNat i) 0 [CV.opv true 66 (pW ((q,bs) :: Q))])),1,[0]⟩) .z)/\(decide (0<=i)=false->K (.st (.exit 0) (zz0 (zz0 (zzl (.lr 0 1 0 L false)) (zz1 (.i .i64 i) .e (zz0 (zzl (.b (decide (0<=i)))) .e))) (zz0 (zz1 q0 .e (zz0 (zzl (.i .i64 i)) .e)) .e)) ⟨zzl (AObj.rows 115 1 L ff),1,[]⟩) .z))) (.opv true
 66 (pW ((q,bs) :: Q)))):=by kernel_rfl
theorem ordX_vc (L:Nat) (ff:Nat->Nat->CV) (K:Res->Orc->Prop):runK Tryz.prog 1000000 (.code (loopAt Tryz.prog 98 0) 33 (mkT [(3,.lr 0 1 0 L false),(4,.opv false 66 (pW [])),(5,.i .i64 (-1))]) (mkH [some (.rows 115 1 L ff)])) (.c .z) K=(K (.st (.exit 0) (zz0 (zz0 (zzl (.lr 0 1 0 L false)) (zz1 (.i .i64 (-1)) .e (zz0 (zzl (.b false)) .e))) (zz0 (zz1 (.opv false 66 (pW [])) .e (zz0 (zzl (.i .i64 (-1))) .e)) .e)) ⟨zzl (AObj.rows 115 1 L ff),1,[]⟩) .z):=by kernel_rfl
def ordF (P:PW):Nat->Nat->CV:=fun k _=>.opv true 66 (pW (P.drop (P.length-1-k)))
theorem ord_lp (P:PW) (hP:P.length<4611686018427387904) (f0:Nat->Nat->CV):LDoes Tryz.prog (loopAt Tryz.prog 98 0) 33 1 (mkT [(3,.lr 0 1 0 P.length false),(4,.opv (pB P) 66 (pW P)),(5,.i .i64 (ofNat P.length-1))]) [some (.rows 115 1 P.length f0)]
 (.exit 0) (mkT [(3,.lr 0 1 0 P.length false)]) [some (.rows 115 1 P.length (ordF P))]:=by
 refine loop_indV (D:=Nat×(Nat->Nat->CV)) (l':=[(3,.lr 0 1 0 P.length false)]) (fun d=>([(3,.lr 0 1 0 P.length false),(4,.opv (pB (P.drop d.1)) 66 (pW (P.drop d.1))),(5,.i .i64 (ofNat (P.drop d.1).length-1))],[some (.rows 115 1 P.length d.2)])) (fun d=>P.length-d.1)
  (fun d=>d.1<=P.length/\∀k,P.length-d.1<=k->k<P.length->CW (d.2 k 0) (ordF P k 0)) ?_ (0,f0) ⟨Nat.zero_le _,fun k h1 h2=>by omega⟩
 rintro ⟨m,f⟩ ⟨hm,hf⟩
 simp only at hm hf
 refine ⟨Nat.le_refl 1,?_⟩
 simp only
 cases hd:P.drop m with
 | nil=>
   have hl:P.length<=m:=by simpa using hd
   refine ⟨_,_,(ordX_vc P.length f _).mpr (.inr ⟨[0],[],_,_,_,[some (.rows 115 1 P.length f)],rfl,by simp,st_is (l:=[(3,.lr 0 1 0 P.length false)]) [0] (by kernel_rfl) rfl rfl rfl ⟨by kernel_rfl,by kernel_rfl,trivial⟩ rfl,.refl _,?_⟩)⟩
   refine ⟨.rowsW fun k j hk hj=>?_,trivial⟩
   obtain rfl:j=0:=by omega
   exact hf k (by omega) hk
 | cons w Q=>
   obtain ⟨q,bs⟩:=w
   have hml:m<P.length:=by
    apply Classical.byContradiction
    intro hn
    rw [List.drop_eq_nil_of_le (by omega)] at hd;simp at hd
   have hQl:Q.length=P.length-m-1:=by
    have:=congrArg List.length hd
    simp at this;omega
   have hQ:P.drop (m+1)=Q:=by
    rw [<-List.drop_drop,hd];rfl
   have hi:(ofNat ((q,bs) :: Q).length:Int)-1=ofNat Q.length:=by simp
   rw [hi]
   refine ⟨_,_,(ordL_vc P.length (ofNat Q.length) q bs Q f _).mpr ⟨fun hpos=>?_,fun hneg=>by simp at hneg⟩⟩
   refine ⟨by simp;omega,by simp;omega,rfl,trivial,trivial,by simp;omega,.inl ⟨(m+1,fun k j=>setRow f Q.length 0 [.opv true 66 (pW ((q,bs) :: Q))] k j),[0],[],_,_,[(3,.lr 0 1 0 P.length false),(4,.opv (pB Q) 66 (pW Q)),(5,.i .i64 (ofNat Q.length-1))],[some (.rows 115 1 P.length (setRow f Q.length 0 [.opv true 66 (pW ((q,bs) :: Q))]))],⟨hml,?_⟩,by simp only;omega,rfl,
    st_k [0] (by kernel_rfl),?_,OVL.refl _⟩⟩
   · intro k h1 h2
     simp only at h1⊢
     show CW (zipCV (Nat.beq k Q.length) (.opv true 66 (pW ((q,bs) :: Q))) (f k 0)) _
     refine (zipCV_CW _ _ _).trans ?_
     cases hb:Nat.beq k Q.length with
     | true=>
       have e:=Nat.eq_of_beq_eq_true hb
       subst e
       refine .of ?_
       show CV.opv true 66 (pW ((q,bs) :: Q))=.opv true 66 (pW (P.drop (P.length-1-Q.length)))
       rw [show P.length-1-Q.length=m by omega,hd]
     | false=>
       have e:k≠Q.length:=by rintro rfl;simp at hb
       exact hf k (by omega) h2
   · simp only [hQ]
     exact .refl _
theorem inOrder_vc (s:SS) (hl:s.P.length<4611686018427387904) (K:Res->Orc->Prop):runK Tryz.prog 1000000 (.call 98 [.p 0 33281] (mkH [some s.o])) (.s (.lop [1] [3,4,5] 1 (.exit 0) [(3,.lr 0 1 0 (List.length (SS.P s)) false)] [some (.rows 115 1 (List.length (SS.P s)) (ordF (SS.P s)))] .z) .z) K=((fun (q0:Nat)=>(True/\True/\(0<=ofNat q0/\ofNat q0<=ofNat q0/\ofNat q0<=1073741824)/\True/\True/\True/\True/\rg (ofNat q0-1)/\LDoes Tryz.prog (loopAt Tryz.prog 98 0) 33 1 (mkT [(3,.lr 0 1 0 q0 false),(4,.opv (pB (SS.P s)) 66 (pW (SS.P s))),(5,.i .i64 (ofNat q0-1))]) [some (.rows 115 1 q0 fun x j=>List.getD [CV.p0] j CV.p0)] (.exit 0) (mkT [(3,.lr 0 1 0 q0 false)]) [some (.rows 115 1 q0 (ordF (SS.P s)))]/\K (.rv (.lr 1 1 0 q0 false) ⟨zz1 (AObj.segs 120 33799 [⟨0,1,1,oneF (CV.i .i64 (ofNat (SS.n s)))⟩,⟨1,65,512,durF (SS.dur s) (SS.torn s)⟩,⟨33281,1,1,oneF (CV.opv (pB (SS.P s)) 66 (pW (SS.P s)))⟩,⟨33282,1,512,latF (lB (SS.P s)) (lW (SS.P s))⟩,⟨33794,5,1,tailF (ofNat q0) (ofNat (SS.wr s)) (SS.off s) (SS.armed s) (ofNat (SS.left s))⟩]) (zzl (AObj.rows 115 1 q0 (ordF (SS.P s)))) .e,2,[1,1]⟩) .z)) (List.length (SS.P s))):=by kernel_rfl
def wsF (aa:Nat->Nat) (bb:Nat->Nat->Int) (pp:Nat->Bool) (ww:Nat->Nat->CV):Nat->Nat->CV:=fun k _=>.opv true 66 (wN (ofNat (aa k)) (bb k) (pp k) (ww k))
theorem inOrder_con (s:SS) (hl:s.P.length<=1073741824):Con Tryz.prog 98 [.p 0 33281] [some s.o] (.sv 1 s.P.length (ordF s.P)) [.keep]:=by
 refine con_of_run [1] [] ((inOrder_vc s (by omega) _).mpr ⟨trivial,trivial,⟨by simp,Int.le_refl _,by simp;omega⟩,trivial,trivial,trivial,trivial,⟨by simp;omega,by simp;omega⟩,ord_lp s.P (by omega) _,_,_,rfl,ret_fz [1] ((1=1/\0+s.P.length<=s.P.length)/\True) (by kernel_rfl) (by kernel_rfl) ⟨⟨rfl,by omega⟩,trivial⟩ (by kernel_rfl) rfl (by kernel_rfl) (by kernel_rfl) rfl ⟨by kernel_rfl,by kernel_rfl,trivial⟩⟩)
theorem setL_vc (s:SS) (L k:Nat) (aa:Nat->Nat) (bb:Nat->Nat->Int) (pp:Nat->Bool) (ww:Nat->Nat->CV) (K:Res->Orc->Prop):runK Tryz.prog 1000000 (.code (loopAt Tryz.prog 99 0) 30 (mkT [(0,.p 0 0),(6,.sv 1 L (wsF aa bb pp ww)),(7,.i .i64 (ofNat L)),(8,.i .i64 (ofNat k))]) (mkH [some s.o])) (.s (.s .z .z) .z) K=((fun (q1:AV)=>((fun (q0:Nat)=>((decide (ofNat k<ofNat L)=true->(0<=ofNat k/\ofNat k<↑L)/\True/\true=true/\True/\True/\true=true/\True/\True/\True/\(0<=ofNat (aa k)/\ofNat (aa k)<512)/\aa k<512/\rg (ofNat k+1)/\K (.st .nrm (zz1 (.p 0 0) (zz0 (zz0 (zz1 (inv L) (zzl (.pv 66 fun j=>wN (ofNat (aa k)) (bb q0) (pp k) (ww q0) (0+j))) (zzl (.p 0 1))) (zz1 (.opv true 66 (wN (ofNat (aa q0)) (bb q0) (pp q0) (ww q0))) (zzl (.pv 65 fun j=>wN (ofNat (aa k)) (bb q0) (pp k) (ww q0) (1+j))) .e)) (zz1 (.opv true 66 (wN (ofNat (aa q0)) (bb q0) (pp q0) (ww q0))) (zz1 q1 (zzl (.opv true 66 (wN (ofNat (aa q0)) (bb q0) (pp q0) (ww q0)))) (zzl (.i .i64 (ofNat k+1)))) (zz1 (.opv true 66 (wN (ofNat (aa q0)) (bb q0) (pp q0) (ww q0))) (zzl (.agg [.i .u8 (bb k 0),.i .u8 (bb k 1),.i .u8 (bb k 2),.i .u8 (bb k 3),.i .u8 (bb k 4),.i .u8 (bb k 5),.i .u8 (bb k 6),.i .u8 (bb k 7),.i .u8 (bb k 8),.i .u8 (bb k 9),.i .u8 (bb k 10),.i .u8 (bb k 11),.i .u8 (bb k 12),.i .u8 (bb k 13),.i .u8 (bb k 14),.i .u8 (bb k 15),.i .u8 (bb k 16),.i .u8 (bb k 17),.i .u8 (bb k 18),.i .u8 (bb k 19),.i .u8 (bb k 20),.i .u8 (bb k 21),.i .u8 (bb k 22),.i .u8 (bb k 23),.i .u8 (bb k 24),.i .u8 (bb k 25),.i .u8 (bb k 26),.i .u8 (bb k 27),.i .u8 (bb k 28),.i .u8 (bb k 29),.i .u8 (bb k 30),.i .u8 (bb k 31),.i .u8 (bb k 32),.i .u8 (bb k 33),.i .u8 (bb k 34),.i .u8 (bb k 35),.i .u8 (bb k 36),.i .u8 (bb k 37),.i .u8 (bb k 38),.i .u8 (bb k 39),.i .u8 (bb k 40),.i .u8 (bb k 41),.i .u8 (bb k 42),.i .u8 (bb k 43),.i .u8 (bb k 44),.i .u8 (bb k 45),.i .u8 (bb k 46),.i .u8 (bb k 47),.i .u8 (bb k 48),.i .u8 (bb k 49),.i .u8 (bb k 50),.i .u8 (bb k 51),.i .u8 (bb k 52),.i .u8 (bb k 53),.i .u8 (bb k 54),.i .u8 (bb k 55),.i .u8 (bb k 56),.i .u8 (bb k 57),.i .u8 (bb k 58),.i .u8 (bb k 59),.i .u8 (bb k 60),.i .u8 (bb k 61),.i .u8 (bb k 62),.i .u8 (bb k 63),.b false])) .e))) (zz0 (zz0 (zz1 (.i .i64 (ofNat k+1)) (zzn (aa k)) (zzl (.ps 0 1 65 512 (aa k)))) (zz1 (.p 0 0) (zzl (.agg [.i .u8 (bb k 0),.i .u8 (bb k 1),.i .u8 (bb k 2),.i .u8 (bb k 3),.i .u8 (bb k 4),.i .u8 (bb k 5),.i .u8 (bb k 6),.i .u8 (bb k 7),.i .u8 (bb k 8),.i .u8 (bb k 9),.i .u8 (bb k 10),.i .u8 (bb k 11),.i .u8 (bb k 12),.i .u8 (bb k 13),.i .u8 (bb k 14),.i .u8 (bb k 15),.i .u8 (bb k 16),.i .u8 (bb k 17),.i .u8 (bb k 18),.i .u8 (bb k 19),.i .u8 (bb k 20),.i .u8 (bb k 21),.i .u8 (bb k 22),.i .u8 (bb k 23),.i .u8 (bb k 24),.i .u8 (bb k 25),.i .u8 (bb k 26),.i .u8 (bb k 27),.i .u8 (bb k 28),.i .u8 (bb k 29),.i .u8 (bb k 30),.i .u8 (bb k 31),.i .u8 (bb k 32),.i .u8 (bb k 33),.i .u8 (bb k 34),.i .u8 (bb k 35),.i .u8 (bb k 36),.i .u8 (bb k 37),.i .u8 (bb k 38),.i .u8 (bb k 39),.i .u8 (bb k 40),.i .u8 (bb k 41),.i .u8 (bb k 42),.i .u8 (bb k 43),.i .u8 (bb k 44),.i .u8 (bb k 45),.i .u8 (bb k 46),.i .u8 (bb k 47),.i .u8 (bb k 48),.i .u8 (bb k 49),.i .u8 (bb k 50),.i .u8 (bb k 51),.i .u8 (bb k 52),.i .u8 (bb k 53),.i .u8 (bb k 54),.i .u8 (bb k 55),.i .u8 (bb k 56),.i .u8 (bb k 57),.i .u8 (bb k 58),.i .u8 (bb k 59),.i .u8 (bb k 60),.i .u8 (bb k 61),.i .u8 (bb k 62),.i .u8 (bb k 63)])) .e)) (zz1 (.sv 1 L (wsF aa bb pp ww)) (zz1 (.pv 1 (wsF aa bb pp ww k)) (zzl (.pv 66 (wN (ofNat (aa q0)) (bb q0) (pp q0) (ww q0)))) .e) (zz1 (.pv 66 (wN (ofNat (aa q0)) (bb q0) (pp q0) (ww q0))) (zzl (.p 0 0)) .e)))) ⟨zzl (AObj.segs 120 33799 [⟨0,1,1,oneF (CV.i .i64 (ofNat (SS.n s)))⟩,⟨1,65,512,setRow (fun i j=>match Nat.blt j 64 with | true=>CV.i .u8 (SS.dur s i j) | false=>CV.b (SS.torn s i)) (aa k) 0 [CV.i .u8 (bb k 0),CV.i .u8 (bb k 1),CV.i .u8 (bb k 2),CV.i .u8 (bb k 3),CV.i .u8 (bb k 4),CV.i .u8 (bb k 5),CV.i .u8 (bb k 6),CV.i .u8 (bb k 7),CV.i .u8 (bb k 8),CV.i .u8 (bb k 9),CV.i .u8 (bb k 10),CV.i .u8 (bb k 11),CV.i .u8 (bb k 12),CV.i .u8 (bb k 13),CV.i .u8 (bb k 14),CV.i .u8 (bb k 15),CV.i .u8 (bb k 16),CV.i .u8 (bb k 17),CV.i .u8 (bb k 18),CV.i .u8 (bb k 19),CV.i .u8 (bb k 20),CV.i .u8 (bb k 21),CV.i .u8 (bb k 22),CV.i .u8 (bb k 23),CV.i .u8 (bb k 24),CV.i .u8 (bb k 25),CV.i .u8 (bb k 26),CV.i .u8 (bb k 27),CV.i .u8 (bb k 28),CV.i .u8 (bb k 29),CV.i .u8 (bb k 30),CV.i .u8 (bb k 31),CV.i .u8 (bb k 32),CV.i .u8 (bb k 33),CV.i .u8 (bb k 34),CV.i .u8 (bb k 35),CV.i .u8 (bb k 36),CV.i .u8 (bb k 37),CV.i .u8 (bb k 38),CV.i .u8 (bb k 39),CV.i .u8 (bb k 40),CV.i .u8 (bb k 41),CV.i .u8 (bb k 42),CV.i .u8 (bb k 43),CV.i .u8 (bb k 44),CV.i .u8 (bb k 45),CV.i .u8 (bb k 46),CV.i .u8 (bb k 47),CV.i .u8 (bb k 48),CV.i .u8 (bb k 49),CV.i .u8 (bb k 50),CV.i .u8 (bb k 51),CV.i .u8 (bb k 52),CV.i .u8 (bb k 53),CV.i .u8 (bb k 54),CV.i .u8 (bb k 55),CV.i .u8 (bb k 56),CV.i .u8 (bb k 57),CV.i .u8 (bb k 58),CV.i .u8 (bb k 59),CV.i .u8 (bb k 60),CV.i .u8 (bb k 61),CV.i .u8 (bb k 62),CV.i .u8 (bb k 63),CV.b false]⟩,⟨33281,1,1,oneF (CV.opv (pB (SS.P s)) 66 (pW (SS.P s)))⟩,⟨33282,1,512,latF (lB (SS.P s)) (lW (SS.P s))⟩,⟨33794,5,1,tailF (ofNat (List.length (SS.P s))) (ofNat (SS.wr s)) (SS.off s) (SS.armed s) (ofNat (SS.left s))⟩]),1,[0]⟩) .z)/\(decide (ofNat k<ofNat L)=false->K (.st (.exit 0) (zz1 (.p 0 0) (zz0 (zz0 (zzn L) .e) (zz0 (zzl q1) .e)) (zz0 (zz0 (zzn k) .e) (zzl (.sv 1 L (wsF aa bb pp ww))))) ⟨zzl (AObj.segs 120 33799 [⟨0,1,1,oneF (CV.i .i64 (ofNat (SS.n s)))⟩,⟨1,65,512,durF (SS.dur s) (SS.torn s)⟩,⟨33281,1,1,oneF (CV.opv (pB (SS.P s)) 66 (pW (SS.P s)))⟩,⟨33282,1,512,latF (lB (SS.P s)) (lW (SS.P s))⟩,⟨33794,5,1,tailF (ofNat (List.length (SS.P s))) (ofNat (SS.wr s)) (SS.off s) (SS.armed s) (ofNat (SS.left s))⟩]),1,[]⟩) .z))) (Int.toNat (ofNat k)))) (.b (decide (ofNat k<ofNat L)))):=by kernel_rfl
def cellsP (bs:Nat->Int) (tb:Bool):List CV:=Nat.rec (motive:=fun _=>Nat->List CV) (fun _=>[.b tb]) (fun _ ih o=>.i .u8 (bs o) :: ih (o+1)) 64 0
theorem cellsP_at (bs:Nat->Int) (tb:Bool) (j:Nat) (hj:j<65):(cellsP bs tb)[j]? =some (match Nat.blt j 64 with | true=>.i .u8 (bs j) | false=>.b tb):=by
 have key:∀(m o k:Nat),k<=m->(Nat.rec (motive:=fun _=>Nat->List CV) (fun _=>[CV.b tb]) (fun _ ih o=>CV.i .u8 (bs o) :: ih (o+1)) m o)[k]? =some (match Nat.blt k m with | true=>CV.i .u8 (bs (o+k)) | false=>CV.b tb):=by
  intro m
  induction m with
  | zero=>intro o k hk;obtain rfl:k=0:=by omega
          rfl
  | succ m ih=>
    intro o k hk
    cases k with
    | zero=>rfl
    | succ k=>
      have h1:=ih (o+1) k (by omega)
      have e:Nat.blt (k+1) (m+1)=Nat.blt k m:=by
       rw [Bool.eq_iff_iff,Nat.blt_eq,Nat.blt_eq];omega
      rw [e]
      show (Nat.rec (motive:=fun _=>Nat->List CV) (fun _=>[CV.b tb]) (fun _ ih o=>CV.i .u8 (bs o) :: ih (o+1)) m (o+1))[k]? = _
      rw [h1,show o+1+k=o+(k+1) by omega]
 have h1:=key 64 0 j (by omega)
 rw [Nat.zero_add] at h1
 exact h1
def setD (dur:Nat->Nat->Int) (q:Nat) (bs:Nat->Int):Nat->Nat->Int:=fun i=>bif Nat.beq i q then bs else dur i
def setT (torn:Nat->Bool) (q:Nat) (tb:Bool):Nat->Bool:=fun i=>bif Nat.beq i q then tb else torn i
theorem setP (dur:Nat->Nat->Int) (torn:Nat->Bool) (q:Nat) (bs:Nat->Int) (tb:Bool) (i j:Nat) (hj:j<65):CW (setRow (durF dur torn) q 0 (cellsP bs tb) i j) (durF (setD dur q bs) (setT torn q tb) i j):=by
 have e:setRow (durF dur torn) q 0 (cellsP bs tb) i j=zipCV (Nat.beq i q) (match Nat.blt j 64 with | true=>.i .u8 (bs j) | false=>.b tb) (durF dur torn i j):=by
  unfold setRow
  rw [show Nat.ble 0 j=true by simp]
  simp only [Nat.sub_zero]
  rw [cellsP_at bs tb j hj]
 rw [e]
 refine (zipCV_CW _ _ _).trans (.of ?_)
 unfold durF setD setT
 cases Nat.beq i q<;>cases Nat.blt j 64<;>rfl
def SS.lay (s:SS) (q:Nat) (bs:Nat->Int) (tb:Bool):SS:={ s with dur:=setD s.dur q bs,torn:=setT s.torn q tb}
def SS.laid (s:SS) (aa:Nat->Nat) (bb:Nat->Nat->Int):Nat->SS
 | 0=>s
 | k+1=>(s.laid aa bb k).lay (aa k) (bb k) false
def layO (s:SS) (q:Nat) (bs:Nat->Int) (tb:Bool):AObj:=
 .segs 120 33799 [⟨0,1,1,oneF (.i .i64 (ofNat s.n))⟩,⟨1,65,512,setRow (durF s.dur s.torn) q 0 (cellsP bs tb)⟩,⟨33281,1,1,oneF (.opv (pB s.P) 66 (pW s.P))⟩,⟨33282,1,512,latF (lB s.P) (lW s.P)⟩,⟨33794,5,1,tailF (ofNat s.P.length) (ofNat s.wr) s.off s.armed (ofNat s.left)⟩]
theorem lay_ov (s:SS) (q:Nat) (bs:Nat->Int) (tb:Bool):OV (some (layO s q bs tb)) (some (s.lay q bs tb).o):=
 .segsW ⟨.refl _,⟨rfl,rfl,rfl,fun i j _ hj=>setP _ _ _ _ _ i j hj⟩,.refl _,.refl _,.refl _,trivial⟩
theorem settle_lp (s:SS) (L:Nat) (aa:Nat->Nat) (bb:Nat->Nat->Int) (pp:Nat->Bool) (ww:Nat->Nat->CV) (hL:L<4611686018427387904) (ha:∀k,k<L->aa k<512) :
 LDoes Tryz.prog (loopAt Tryz.prog 99 0) 30 1 (mkT [(0,.p 0 0),(6,.sv 1 L (wsF aa bb pp ww)),(7,.i .i64 (ofNat L)),(8,.i .i64 0)]) [some s.o] (.exit 0) (mkT [(0,.p 0 0)]) [some (s.laid aa bb L).o]:=by
 refine loop_indV (D:=Nat) (l':=[(0,.p 0 0)]) (fun k=>([(0,.p 0 0),(6,.sv 1 L (wsF aa bb pp ww)),(7,.i .i64 (ofNat L)),(8,.i .i64 (ofNat k))],[some (s.laid aa bb k).o])) (fun k=>L-k) (fun k=>k<=L) ?_ 0 (Nat.zero_le _)
 intro k hk
 refine ⟨Nat.le_refl 1,_,_,(setL_vc (s.laid aa bb k) L k aa bb pp ww _).mpr ⟨fun hlt=>?_,fun hge=>?_⟩⟩
 · have hlt:k<L:=by simpa using hlt
   have h5:=ha k hlt
   refine ⟨⟨by simp,by simp;omega⟩,trivial,rfl,trivial,trivial,rfl,trivial,trivial,trivial,⟨by simp,by simp;omega⟩,h5,⟨by simp;omega,by simp;omega⟩,.inl ⟨k+1,[0],[],_,_,[(0,.p 0 0),(6,.sv 1 L (wsF aa bb pp ww)),(7,.i .i64 (ofNat L)),(8,.i .i64 (ofNat k+1))],[some (layO (s.laid aa bb k) (aa k) (bb k) false)],by omega,by simp only;omega,rfl,
    st_k [0] (by kernel_rfl),.refl _,lay_ov _ _ _ _,trivial⟩⟩
 · have:k=L:=by simp at hge;omega
   subst this
   exact .inr ⟨[0],[],_,_,[(0,.p 0 0)],[some (s.laid aa bb k).o],rfl,by simp,st_k [0] (by kernel_rfl),.refl _,OVL.refl _⟩
def zBuf:List CV:=Nat.rec (motive:=fun _=>List CV) [.i .i64 0] (fun _ ih=>.p0 :: ih) 513
theorem settle_vc (s:SS) (L:Nat) (aa:Nat->Nat) (bb:Nat->Nat->Int) (pp:Nat->Bool) (ww:Nat->Nat->CV) (hL:L<4611686018427387904) (ha:∀k,k<L->aa k<512) (K:Res->Orc->Prop):runK Tryz.prog 1000000 (.call 99 [.p 0 0,.sv 1 L (wsF aa bb pp ww)] (mkH [some s.o])) (.lop [0] [0,6,7,8] 1 (.exit 0) [(0,.p 0 0)] [some (SS.o (SS.laid s aa bb L))] .z) K=(LDoes Tryz.prog (loopAt Tryz.prog 99 0) 30 1 (mkT [(0,.p 0 0),(6,.sv 1 L (wsF aa bb pp ww)),(7,.i .i64 (ofNat L)),(8,.i .i64 0)]) [some (SS.o s)] (.exit 0) (mkT [(0,.p 0 0)]) [some (SS.o (SS.laid s aa bb L))]/\True/\True/\K (.rv (.tup []) ⟨zzl (AObj.segs 120 33799 [⟨0,1,1,oneF (CV.i .i64 (ofNat (SS.n (SS.laid s aa bb L))))⟩,⟨1,65,512,durF (SS.dur (SS.laid s aa bb L)) (SS.torn (SS.laid s aa bb L))⟩,⟨33281,1,1,fun i j=>List.getD zBuf (33281-33281+i*1+j) CV.p0⟩,⟨33282,1,512,fun i j=>List.getD zBuf (33282-33281+i*1+j) CV.p0⟩,⟨33794,5,1,fun i j=>match Nat.ble 33281 (33794+i*5+j) && Nat.blt (33794+i*5+j) 33795 with | true=>List.getD zBuf (33794+i*5+j-33281) CV.p0 | false=>Seg.f ⟨33794,5,1,tailF (ofNat (List.length (SS.P (SS.laid s aa bb L)))) (ofNat (SS.wr (SS.laid s aa bb L))) (SS.off (SS.laid s aa bb L)) (SS.armed (SS.laid s aa bb L)) (ofNat (SS.left (SS.laid s aa bb L)))⟩ i j⟩]),1,[0,0]⟩) .z):=by kernel_rfl
theorem zBuf_at (k:Nat) (h:k<513):zBuf.getD k .p0=.p0:=by
 have key:∀(m k:Nat),k<m->(Nat.rec (motive:=fun _=>List CV) [CV.i .i64 0] (fun _ ih=>CV.p0 :: ih) m:List CV).getD k .p0=.p0:=by
  intro m
  induction m with
  | zero=>intro k hk;omega
  | succ m ih=>
    intro k hk
    cases k with
    | zero=>rfl
    | succ k=>exact ih k (by omega)
 exact key 513 k h
def zO (s:SS):AObj:=
 .segs 120 33799 [⟨0,1,1,oneF (.i .i64 (ofNat s.n))⟩,⟨1,65,512,durF s.dur s.torn⟩,⟨33281,1,1,fun i j=>zBuf.getD (33281-33281+i*1+j) .p0⟩,⟨33282,1,512,fun i j=>zBuf.getD (33282-33281+i*1+j) .p0⟩,
  ⟨33794,5,1,overF 33281 zBuf 33794 5 (tailF (ofNat s.P.length) (ofNat s.wr) s.off s.armed (ofNat s.left))⟩]
theorem p0_opv (sz:Nat) (f:Nat->CV):CW .p0 (.opv false sz f):=by
 intro ro v h
 cases h;exact .op0 _ _
def SS.void (s:SS):SS:={ s with P:=[]}
theorem z_ov (s:SS):OV (some (zO s)) (some s.void.o):=by
 refine .segsW ⟨.refl _,.refl _,⟨rfl,rfl,rfl,fun i j hi hj=>?_⟩,⟨rfl,rfl,rfl,fun i j hi hj=>?_⟩,⟨rfl,rfl,rfl,fun i j hi hj=>?_⟩,trivial⟩
 · have hi:i<1:=hi
   have hj:j<1:=hj
   show CW (zBuf.getD (33281-33281+i*1+j) .p0) (.opv false 66 _)
   rw [zBuf_at _ (by omega)];exact p0_opv _ _
 · have hi:i<512:=hi
   have hj:j<1:=hj
   show CW (zBuf.getD (33282-33281+i*1+j) .p0) (.opv false 66 _)
   rw [zBuf_at _ (by omega)];exact p0_opv _ _
 · have hi:i=0:=by have:i<1:=hi;omega
   have hj:j<5:=hj
   subst hi
   have:j=0\/j=1\/j=2\/j=3\/j=4:=by omega
   rcases this with rfl | rfl | rfl | rfl | rfl<;>exact .of (by kernel_rfl)
theorem settle_con (s:SS) (L:Nat) (aa:Nat->Nat) (bb:Nat->Nat->Int) (pp:Nat->Bool) (ww:Nat->Nat->CV) (hL:L<4611686018427387904) (ha:∀k,k<L->aa k<512) :
 Con Tryz.prog 99 [.p 0 0,.sv 1 L (wsF aa bb pp ww)] [some s.o] (.tup []) [.set (s.laid aa bb L).void.o]:=
 (con_of_run (us:=[.set (zO (s.laid aa bb L))]) [] [] ((settle_vc s L aa bb pp ww hL ha _).mpr ⟨settle_lp s L aa bb pp ww hL ha,trivial,trivial,_,_,rfl,ret_k (by kernel_rfl)⟩)).post (.refl _) ⟨z_ov _,trivial⟩
def nthW (P:PW) (k:Nat):Nat×(Nat->Int):=(P.drop (P.length-1-k)).headD (0,fun _=>0)
def oA (P:PW):Nat->Nat:=fun k=>(nthW P k).1
def oB (P:PW):Nat->Nat->Int:=fun k=>(nthW P k).2
def oP (P:PW):Nat->Bool:=fun k=>pB (P.drop (P.length-1-k)).tail
def oW (P:PW):Nat->Nat->CV:=fun k=>pW (P.drop (P.length-1-k)).tail
theorem inOrder2_con (s:SS) (hl:s.P.length<=1073741824):Con Tryz.prog 98 [.p 0 33281] [some s.o] (.sv 1 s.P.length (wsF (oA s.P) (oB s.P) (oP s.P) (oW s.P))) [.keep]:=by
 refine (inOrder_con s hl).post (.svW fun i j hi hj=>.of ?_) (OVL.refl _)
 unfold ordF wsF oA oB oP oW nthW
 cases h:s.P.drop (s.P.length-1-i) with
 | nil=>
   have:=congrArg List.length h
   simp at this;omega
 | cons w Q=>rfl
def durL (dur:Nat->Nat->Int):PW->Nat->Nat->Int
 | []=>dur
 | w :: P=>setD (durL dur P) w.1 w.2
def tornL (torn:Nat->Bool):PW->Nat->Bool
 | []=>torn
 | w :: P=>setT (tornL torn P) w.1 false
theorem laid_eq (s:SS):∀m,m<=s.P.length->s.laid (oA s.P) (oB s.P) m={ s with dur:=durL s.dur (s.P.drop (s.P.length-m)),torn:=tornL s.torn (s.P.drop (s.P.length-m))}:=by
 intro m
 induction m with
 | zero=>intro _;rw [Nat.sub_zero,List.drop_length];rfl
 | succ m ih=>
   intro hm
   show (s.laid (oA s.P) (oB s.P) m).lay (oA s.P m) (oB s.P m) false= _
   rw [ih (by omega)]
   have e1:s.P.length-1-m=s.P.length-(m+1):=by omega
   unfold oA oB nthW
   rw [e1]
   cases h:s.P.drop (s.P.length-(m+1)) with
   | nil=>
     have:=congrArg List.length h
     simp at this;omega
   | cons w Q=>
     have hQ:s.P.drop (s.P.length-m)=Q:=by
      rw [show s.P.length-m=(s.P.length-(m+1))+1 by omega,<-List.drop_drop,h];rfl
     rw [hQ]
     rfl
def SS.flush (s:SS) (m:Nat):SS:={ s with dur:=durL s.dur (s.P.drop (s.P.length-m)),torn:=tornL s.torn (s.P.drop (s.P.length-m)),P:=[]}
theorem flush_con (s:SS) (m:Nat) (hl:s.P.length<=1073741824) (hm:m<=s.P.length) (h:∀w∈s.P,w.1<512) :
 Con Tryz.prog 99 [.p 0 0,.sv 1 m (wsF (oA s.P) (oB s.P) (oP s.P) (oW s.P))] [some s.o] (.tup []) [.set (s.flush m).o]:=by
 have h1:=settle_con s m (oA s.P) (oB s.P) (oP s.P) (oW s.P) (by omega) (fun k hk=>by
  unfold oA nthW
  cases hd:s.P.drop (s.P.length-1-k) with
  | nil=>simp
  | cons w Q=>exact h w (List.mem_of_mem_drop (by rw [hd];exact List.mem_cons_self)))
 rw [laid_eq s m hm] at h1
 exact h1
theorem barrier_vc (s:SS) (hl:s.P.length<=1073741824) (ha:∀q∈s.P,q.1<512) (K:Res->Orc->Prop):runK Tryz.prog 1000000 (.call 177 [.p 0 0] (mkH [some s.o])) (.cal [0] (.i .i64 (SS.faultE s)) [.keep] (.s .z (.cal [0] (.sv 1 (List.length (SS.P s)) (wsF (oA (SS.P s)) (oB (SS.P s)) (oP (SS.P s)) (oW (SS.P s)))) [.keep] (.cal [0] (.tup []) [.set (SS.o (SS.flush s (List.length (SS.P s))))] .z)))) K=((fun (q0:SS)=>(Con Tryz.prog 171 [.p 0 0] [some (SS.o s)] (.i .i64 (SS.faultE s)) [.keep]/\((!decide (SS.faultE s=0))=true->K (.rv (.i .i64 (SS.faultE s)) ⟨zzl (AObj.segs 120 33799 [⟨0,1,1,oneF (CV.i .i64 (ofNat (SS.n s)))⟩,⟨1,65,512,durF (SS.dur s) (SS.torn s)⟩,⟨33281,1,1,oneF (CV.opv (pB (SS.P s)) 66 (pW (SS.P s)))⟩,⟨33282,1,512,latF (lB (SS.P s)) (lW (SS.P s))⟩,⟨33794,5,1,tailF (ofNat (List.length (SS.P s))) (ofNat (SS.wr s)) (SS.off s) (SS.armed s) (ofNat (SS.left s))⟩]),1,[]⟩) .z)/\((!decide (SS.faultE s=0))=false->True/\Con Tryz.prog 98 [.p 0 33281] [some (SS.o s)] (.sv 1 (List.length (SS.P s)) (wsF (oA (SS.P s)) (oB (SS.P s)) (oP (SS.P s)) (oW (SS.P s)))) [.keep]/\Con Tryz.prog 99 [.p 0 0,.sv 1 (List.length (SS.P s)) (wsF (oA (SS.P s)) (oB (SS.P s)) (oP (SS.P s)) (oW (SS.P s)))] [some (SS.o s)] (.tup []) [.set (SS.o q0)]/\K (.rv (.i .i64 0) ⟨zzl (AObj.segs 120 33799 [⟨0,1,1,oneF (CV.i .i64 (ofNat (SS.n q0)))⟩,⟨1,65,512,durF (SS.dur q0) (SS.torn q0)⟩,⟨33281,1,1,oneF (CV.opv (pB (SS.P q0)) 66
 (pW (SS.P q0)))⟩,⟨33282,1,512,latF (lB (SS.P q0)) (lW (SS.P q0))⟩,⟨33794,5,1,tailF (ofNat (List.length (SS.P q0))) (ofNat (SS.wr q0)) (SS.off q0) (SS.armed q0) (ofNat (SS.left q0))⟩]),1,[0]⟩) .z))) (SS.flush s (List.length (SS.P s)))):=by kernel_rfl
theorem revive_vc (s:SS) (kk:Int) (tt:Bool) (hl:s.P.length<=1073741824) (ha:∀q∈s.P,q.1<512) (K:Res->Orc->Prop):runK Tryz.prog 1000000 (.call 64 [.p 0 0,.i .i64 kk,.b tt] (mkH [some s.o])) (.c (.s .z (.cal [0] (.sv 1 (List.length (SS.P s)) (wsF (oA (SS.P s)) (oB (SS.P s)) (oP (SS.P s)) (oW (SS.P s)))) [.keep] (.cal [0] (.tup []) [.set (SS.o (SS.flush s (Int.toNat (kpI kk (ofNat (List.length (SS.P s)))))))] (.s (ot 4 (.s (.s .z .z) .z)) (of_ 4 (.c .z))))))) K=((fun (q0:SS)=>(True/\True/\True/\True/\((!SS.off s)=true->K (.rv (.i .i64 26) ⟨zzl (AObj.segs 120 33799 [⟨0,1,1,oneF (CV.i .i64 (ofNat (SS.n s)))⟩,⟨1,65,512,durF (SS.dur s) (SS.torn s)⟩,⟨33281,1,1,oneF (CV.opv (pB (SS.P s)) 66 (pW (SS.P s)))⟩,⟨33282,1,512,latF (lB (SS.P s)) (lW (SS.P s))⟩,⟨33794,5,1,tailF (ofNat (List.length (SS.P s))) (ofNat (SS.wr s)) (SS.off s) (SS.armed s) (ofNat (SS.left s))⟩]),1,[]⟩) .z)/\((!SS.off s)=false->True/\Con Tryz.prog 98 [.p 0 33281] [some (SS.o s)] (.sv 1 (List.length (SS.P s)) (wsF (oA (SS.P s)) (oB (SS.P s)) (oP (SS.P s)) (oW (SS.P s)))) [.keep]/\(True/\(0<=if ofNat (List.length (SS.P s))<if 0>kk then 0 else kk then ofNat (List.length (SS.P s)) else if 0>kk then 0 else kk)/\0<=Int.toNat (kpI kk (ofNat (List.length (SS.P s))))/\Int.toNat (kpI kk (ofNat (List.length (SS.P s))))<=List.length (SS.P s))/\Con Tryz.prog 99 [.p 0 0,.sv 1 (Int.toNat (kpI kk (ofNat (List.length (SS.P s))))) (wsF (oA (SS.P s)) (oB (SS.P s)) (oP (SS.P s)) (oW (SS.P s)))] [some (SS.o s)] (.tup []) [.set (SS.o q0)]/\(tt=true->tt=true/\tt=true/\tt=true/\tt=true/\(decide ((kpI kk (ofNat (List.length (SS.P s))))<ofNat (List.length (SS.P s)))=true->((0<=if ofNat (List.length (SS.P s))<if 0>kk then 0 else kk then ofNat (List.length (SS.P s)) else if 0>kk then 0 else kk)/\(kpI kk (ofNat (List.length (SS.P s))))<↑(List.length (SS.P s)))/\True/\true=true/\True/\True/\True/\(0<=ofNat (oA (SS.P s) (Int.toNat (kpI kk (ofNat (List.length (SS.P s))))))/\ofNat (oA (SS.P s) (Int.toNat (kpI kk (ofNat (List.length (SS.P s))))))<512)/\oA (SS.P s) (Int.toNat (kpI kk (ofNat (List.length (SS.P s)))))<512/\True/\True/\K (.rv (.i .i64 0) ⟨zzl (AObj.segs 120 33799 [⟨0,1,1,oneF (CV.i .i64 (ofNat (SS.n q0)))⟩,⟨1,65,512,setRow (fun i j=>match Nat.blt j 64 with | true=>CV.i .u8 (SS.dur q0 i j) | false=>CV.b (SS.torn q0 i)) (oA (SS.P s) (Int.toNat (kpI kk (ofNat (List.length (SS.P s)))))) 0 [CV.i .u8 0,CV.i .u8 0,CV.i .u8 0,CV.i .u8 0,CV.i .u8 0,CV.i .u8 0,CV.i .u8 0,CV.i .u8 0,CV.i .u8 0,CV.i .u8 0,CV.i .u8 0,CV.i .u8 0,CV.i .u8 0,CV.i .u8 0,CV.i .u8 0,CV.i .u8 0,CV.i .u8 0,CV.i .u8 0,CV.i .u8 0,CV.i .u8 0,CV.i .u8 0,CV.i .u8 0,CV.i .u8 0,CV.i .u8 0,CV.i .u8 0,CV.i .u8 0,CV.i .u8 0,CV.i .u8 0,CV.i .u8 0,CV.i .u8 0,CV.i .u8 0,CV.i .u8 0,CV.i .u8 0,CV.i .u8 0,CV.i .u8 0,CV.i .u8 0,CV.i .u8 0,CV.i .u8 0,CV.i .u8 0,CV.i .u8 0,CV.i .u8 0,CV.i .u8 0,CV.i .u8 0,CV.i .u8 0,CV.i .u8 0,CV.i .u8 0,CV.i .u8 0,CV.i .u8 0,CV.i .u8 0,CV.i .u8 0,CV.i .u8 0,CV.i .u8 0,CV.i .u8 0,CV.i .u8 0,CV.i .u8 0,CV.i .u8 0,CV.i .u8 0,CV.i .u8 0,CV.i .u8 0,CV.i .u8 0,CV.i .u8 0,CV.i .u8 0,CV.i .u8 0,CV.i .u8 0,CV.b true]⟩,⟨33281,1,1,oneF (CV.opv (pB (SS.P q0)) 66 (pW (SS.P q0)))⟩,⟨33282,1,512,latF (lB (SS.P q0)) (lW (SS.P q0))⟩,⟨33794,5,1,setRow (fun x j=>match j with | 0=>CV.i .i64 (ofNat 0) | 1=>CV.i .i64 (ofNat (SS.wr q0)) | 2=>CV.b (SS.off q0) | 3=>CV.b (SS.armed q0) | x=>CV.i .i64 (ofNat (SS.left q0))) 0 2 [CV.b false]⟩]),1,[0,0,0]⟩) .z)/\(decide ((kpI kk (ofNat (List.length (SS.P s))))<ofNat (List.length (SS.P s)))=false->True/\True/\K (.rv (.i .i64 0) ⟨zzl (AObj.segs 120 33799 [⟨0,1,1,oneF (CV.i .i64 (ofNat (SS.n q0)))⟩,⟨1,65,512,durF (SS.dur q0) (SS.torn q0)⟩,⟨33281,1,1,oneF (CV.opv (pB (SS.P q0)) 66 (pW (SS.P q0)))⟩,⟨33282,1,512,latF (lB (SS.P q0)) (lW (SS.P q0))⟩,⟨33794,5,1,setRow (fun x j=>match j with | 0=>CV.i .i64 (ofNat 0) | 1=>CV.i .i64 (ofNat (SS.wr q0)) | 2=>CV.b (SS.off q0) | 3=>CV.b (SS.armed q0) | x=>CV.i .i64 (ofNat (SS.left q0))) 0 2 [CV.b false]⟩]),1,[0,0]⟩) .z))/\(tt=false->tt=false/\tt=false/\tt=false/\tt=false/\True/\True/\K (.rv (.i .i64 0) ⟨zzl (AObj.segs 120 33799 [⟨0,1,1,oneF (CV.i .i64 (ofNat (SS.n q0)))⟩,⟨1,65,512,durF (SS.dur q0) (SS.torn q0)⟩,⟨33281,1,1,oneF (CV.opv (pB (SS.P q0)) 66 (pW (SS.P q0)))⟩,⟨33282,1,512,latF (lB (SS.P q0)) (lW (SS.P q0))⟩,⟨33794,5,1,setRow (fun x j=>match j with | 0=>CV.i .i64 (ofNat 0) | 1=>CV.i .i64 (ofNat (SS.wr q0)) | 2=>CV.b (SS.off q0) | 3=>CV.b (SS.armed q0) | x=>CV.i .i64 (ofNat (SS.left q0))) 0 2 [CV.b false]⟩]),1,[0,0]⟩) .z)))) (SS.flush s (Int.toNat (kpI kk (ofNat (List.length (SS.P s))))))):=by kernel_rfl
theorem barrierOff_con (s:SS) (ho:s.off=true) (hl:s.P.length<=1073741824) (ha:∀q∈s.P,q.1<512):Con Tryz.prog 177 [.p 0 0] [some s.o] (.i .i64 13) [.keep]:=by
 have e0:s.faultE=13:=by unfold SS.faultE;rw [ho];rfl
 refine con_of_run [] [] ((barrier_vc s hl ha _).mpr ⟨fault2_con _,fun h=>?_,fun h=>by rw [e0] at h;simp at h⟩)
 rw [e0]
 exact ⟨_,_,rfl,ret_k (by kernel_rfl)⟩
theorem barrierOn_con (s:SS) (ho:s.off=false) (hl:s.P.length<=1073741824) (ha:∀q∈s.P,q.1<512):Con Tryz.prog 177 [.p 0 0] [some s.o] (.i .i64 0) [.set (s.flush s.P.length).o]:=by
 have e0:s.faultE=0:=by unfold SS.faultE;rw [ho];rfl
 exact con_of_run [] [] ((barrier_vc s hl ha _).mpr ⟨fault2_con _,fun h=>by rw [e0] at h;simp at h,fun _=>⟨trivial,inOrder2_con s hl,flush_con s _ hl (Nat.le_refl _) ha,_,_,rfl,ret_k (by kernel_rfl)⟩⟩)
def SS.bar (s:SS):SS:=match s.off with
 | true=>s
 | false=>s.flush s.P.length
theorem barrier_con (s:SS) (hl:s.P.length<=1073741824) (ha:∀q∈s.P,q.1<512):Con Tryz.prog 177 [.p 0 0] [some s.o] (.i .i64 s.faultE) [.set s.bar.o]:=by
 cases ho:s.off with
 | true=>
   have e0:s.faultE=13:=by unfold SS.faultE;rw [ho];rfl
   have e1:s.bar=s:=by unfold SS.bar;rw [ho]
   rw [e0,e1];exact (barrierOff_con s ho hl ha).oeq (OEqL.refl _) (OEqL.refl _)
 | false=>
   have e0:s.faultE=0:=by unfold SS.faultE;rw [ho];rfl
   have e1:s.bar=s.flush s.P.length:=by unfold SS.bar;rw [ho]
   rw [e0,e1];exact barrierOn_con s ho hl ha
def keepN (kk:Int) (L:Nat):Nat:=min kk.toNat L
theorem keepN_eq (kk:Int) (L:Nat):(if ofNat L<(if 0>kk then 0 else kk) then ofNat L else if 0>kk then 0 else kk)=ofNat (keepN kk L):=by
 unfold keepN
 simp only [Int.ofNat_eq_natCast]
 split<;>split<;>omega
def SS.on (s:SS):SS:={ s with off:=false}
def SS.revived (s:SS) (kk:Int) (tt:Bool):SS:=match s.off with
 | false=>s
 | true=>match tt && Nat.blt (keepN kk s.P.length) s.P.length with
   | true=>((s.flush (keepN kk s.P.length)).lay (oA s.P (keepN kk s.P.length)) (fun _=>0) true).on
   | false=>(s.flush (keepN kk s.P.length)).on
def SS.revE (s:SS):Int:=bif s.off then 0 else 26
def onO (s:SS):AObj:=tO (ofNat s.n) s.dur s.torn (pB s.P) (pW s.P) (lB s.P) (lW s.P) (setRow (tailF (ofNat s.P.length) (ofNat s.wr) s.off s.armed (ofNat s.left)) 0 2 [.b false])
def tornO (s:SS) (q:Nat):AObj:=
 .segs 120 33799 [⟨0,1,1,oneF (.i .i64 (ofNat s.n))⟩,⟨1,65,512,setRow (durF s.dur s.torn) q 0 (cellsP (fun _=>0) true)⟩,⟨33281,1,1,oneF (.opv (pB s.P) 66 (pW s.P))⟩,⟨33282,1,512,latF (lB s.P) (lW s.P)⟩,⟨33794,5,1,setRow (tailF (ofNat s.P.length) (ofNat s.wr) s.off s.armed (ofNat s.left)) 0 2 [.b false]⟩]
theorem tail_on (s:SS) (i j:Nat) (hi:i<1) (hj:j<5):setRow (tailF (ofNat s.P.length) (ofNat s.wr) s.off s.armed (ofNat s.left)) 0 2 [.b false] i j=tailF (ofNat s.P.length) (ofNat s.wr) false s.armed (ofNat s.left) i j:=by
 have hi:i=0:=by omega
 subst hi
 have:j=0\/j=1\/j=2\/j=3\/j=4:=by omega
 rcases this with rfl | rfl | rfl | rfl | rfl<;>rfl
theorem on_ov (s:SS):OV (some (onO s)) (some s.on.o):=.segsW ⟨.refl _,.refl _,.refl _,.refl _,⟨rfl,rfl,rfl,fun i j hi hj=>.of (tail_on s i j hi hj)⟩,trivial⟩
theorem torn_ov (s:SS) (q:Nat):OV (some (tornO s q)) (some (s.lay q (fun _=>0) true).on.o):=.segsW ⟨.refl _,⟨rfl,rfl,rfl,fun i j _ hj=>setP _ _ _ _ _ i j hj⟩,.refl _,.refl _,⟨rfl,rfl,rfl,fun i j hi hj=>.of (tail_on s i j hi hj)⟩,trivial⟩
theorem revive_con (s:SS) (kk:Int) (tt:Bool) (hl:s.P.length<=1073741824) (ha:∀q∈s.P,q.1<512):Con Tryz.prog 64 [.p 0 0,.i .i64 kk,.b tt] [some s.o] (.i .i64 s.revE) [.set (s.revived kk tt).o]:=by
 cases ho:s.off with
 | false=>
   have e0:s.revE=26:=by unfold SS.revE;rw [ho];rfl
   have e1:s.revived kk tt=s:=by unfold SS.revived;rw [ho]
   rw [e0,e1]
   have h:Con Tryz.prog 64 [.p 0 0,.i .i64 kk,.b tt] [some s.o] (.i .i64 26) [.keep]:=
    con_of_run [] [] ((revive_vc s kk tt hl ha _).mpr ⟨trivial,trivial,trivial,trivial,fun _=>⟨_,_,rfl,ret_k (by kernel_rfl)⟩,fun h=>by rw [ho] at h;simp at h⟩)
   exact h.oeq (OEqL.refl _) (OEqL.refl _)
 | true=>
   have e0:s.revE=0:=by unfold SS.revE;rw [ho];rfl
   rw [e0]
   have hk:keepN kk s.P.length<=s.P.length:=Nat.min_le_right _ _
   have hA:oA s.P (keepN kk s.P.length)<512:=by
    unfold oA nthW
    cases hd:s.P.drop (s.P.length-1-keepN kk s.P.length) with
    | nil=>simp
    | cons w Q=>exact ha w (List.mem_of_mem_drop (by rw [hd];exact List.mem_cons_self))
   have hf:=flush_con s (keepN kk s.P.length) hl hk ha
   have vc:=fun K=>revive_vc s kk tt hl ha K
   simp only [keepN_eq] at vc
   generalize hm:keepN kk s.P.length=m at *
   have e1:s.revived kk tt=match tt && Nat.blt m s.P.length with
    | true=>((s.flush m).lay (oA s.P m) (fun _=>0) true).on
    | false=>(s.flush m).on:=by unfold SS.revived;rw [ho,hm]
   have hb:(!s.off)=true->False:=fun h=>by rw [ho] at h;simp at h
   cases tt with
   | true=>
     rcases Nat.lt_or_ge m s.P.length with c | c
     · have e2:s.revived kk true=((s.flush m).lay (oA s.P m) (fun _=>0) true).on:=by
        rw [e1,show Nat.blt m s.P.length=true by rw [Nat.blt_eq];exact c];rfl
       rw [e2]
       have h:Con Tryz.prog 64 [.p 0 0,.i .i64 kk,.b true] [some s.o] (.i .i64 0) [.set (tornO (s.flush m) (oA s.P m))]:=
        con_of_run [] [] ((vc _).mpr ⟨trivial,trivial,trivial,trivial,fun h=>(hb h).elim,fun _=>⟨trivial,inOrder2_con s hl,⟨trivial,by simp,Nat.zero_le _,by simpa using hk⟩,hf,fun _=>⟨rfl,rfl,rfl,rfl,fun _=>⟨⟨by simp,by simp;omega⟩,trivial,trivial,trivial,trivial,trivial,⟨by simp,by simp;omega⟩,hA,trivial,trivial,_,_,rfl,ret_k (by kernel_rfl)⟩,fun h=>by simp at h;omega⟩,fun h=>by simp at h⟩⟩)
       exact h.post (.refl _) ⟨torn_ov _ _,trivial⟩
     · have e2:s.revived kk true=(s.flush m).on:=by
        have:Nat.blt m s.P.length=false:=by
         rw [Bool.eq_false_iff,ne_eq,Nat.blt_eq];omega
        rw [e1,this];rfl
       rw [e2]
       have h:Con Tryz.prog 64 [.p 0 0,.i .i64 kk,.b true] [some s.o] (.i .i64 0) [.set (onO (s.flush m))]:=
        con_of_run [] [] ((vc _).mpr ⟨trivial,trivial,trivial,trivial,fun h=>(hb h).elim,fun _=>⟨trivial,inOrder2_con s hl,⟨trivial,by simp,Nat.zero_le _,by simpa using hk⟩,hf,fun _=>⟨rfl,rfl,rfl,rfl,fun h=>by simp at h;omega,fun _=>⟨trivial,trivial,_,_,rfl,ret_k (by kernel_rfl)⟩⟩,fun h=>by simp at h⟩⟩)
       exact h.post (.refl _) ⟨on_ov _,trivial⟩
   | false=>
     have e2:s.revived kk false=(s.flush m).on:=by rw [e1];rfl
     rw [e2]
     have h:Con Tryz.prog 64 [.p 0 0,.i .i64 kk,.b false] [some s.o] (.i .i64 0) [.set (onO (s.flush m))]:=
      con_of_run [] [] ((vc _).mpr ⟨trivial,trivial,trivial,trivial,fun h=>(hb h).elim,fun _=>⟨trivial,inOrder2_con s hl,⟨trivial,by simp,Nat.zero_le _,by simpa using hk⟩,hf,fun h=>by simp at h,fun _=>⟨rfl,rfl,rfl,rfl,trivial,trivial,_,_,rfl,ret_k (by kernel_rfl)⟩⟩⟩)
     exact h.post (.refl _) ⟨on_ov _,trivial⟩
set_option maxRecDepth 100000
def newL (n:Int):List AV:=putAt ((zeroCellsOf Tryz.prog 120).getD []) 0 [.i .i64 n]
def eqZ (a:AV) (c:CV):Bool:=match a,c with
 | .i .u8 x,.i .u8 y=>match x,y with
   | .ofNat a,.ofNat b=>Nat.beq a b
   | _,_=>false
 | .i .i64 x,.i .i64 y=>match x,y with
   | .ofNat a,.ofNat b=>Nat.beq a b
   | _,_=>false
 | .b x,.b y=>match x,y with
   | false,false=>true
   | _,_=>false
 | .p0,.p0=>true
 | _,_=>false
theorem eqZ_CR {a:AV} {c:CV} (h:eqZ a c=true) {ρ:Rho} {x:Value} (hv:VR ρ a x):CR ρ.ro c x:=by
 unfold eqZ at h
 split at h
 · split at h
   · have e:=Nat.eq_of_beq_eq_true h
     subst e
     cases hv;exact .i _ _
   · simp at h
 · split at h
   · have e:=Nat.eq_of_beq_eq_true h
     subst e
     cases hv;exact .i _ _
   · simp at h
 · split at h
   · cases hv;exact .b _
   · simp at h
 · cases hv;exact .p0
 · simp at h
def chkL (f:Nat->CV) (m:Nat) (l:List AV):Nat->Bool:=
 List.rec (motive:=fun _=>Nat->Bool) (fun p=>Nat.beq p m) (fun a _ ih p=>match eqZ a (f p) with | true=>ih (Nat.succ p) | false=>false) l
theorem chkL_ok {f:Nat->CV} {m:Nat}:∀{l:List AV} {p:Nat},chkL f m l p=true->p+l.length=m/\∀i,i<l.length->∃a,l[i]? =some a/\eqZ a (f (p+i))=true
 | [],p,h=>⟨by have:=Nat.eq_of_beq_eq_true h;simpa using this,fun i hi=>absurd hi (Nat.not_lt_zero i)⟩
 | a :: l,p,h=>by
   have h':(match eqZ a (f p) with | true=>chkL f m l (Nat.succ p) | false=>false)=true:=h
   split at h'
   · rename_i ha
     obtain ⟨k1,k2⟩:=chkL_ok h'
     refine ⟨by simp;omega,?_⟩
     intro i hi
     cases i with
     | zero=>exact ⟨a,rfl,ha⟩
     | succ i=>
       obtain ⟨b,b1,b2⟩:=k2 i (by simpa using hi)
       exact ⟨b,by simpa using b1,by rw [show p+(i+1)=Nat.succ p+i by omega];exact b2⟩
   · simp at h'
def kd (p:Nat):CV:=match Nat.blt p 33281 with
 | true=>match Nat.blt (Nat.mod (p-1) 65) 64 with
   | true=>.i .u8 0
   | false=>.b false
 | false=>match Nat.blt p 33794 with
   | true=>.p0
   | false=>match Nat.beq p 33796 || Nat.beq p 33797 with
     | true=>.b false
     | false=>.i .i64 0
theorem newL_chk (n:Int):chkL kd 33799 (newL n).tail 1=true:=by kernel_rfl
theorem newL_head (n:Int):(newL n).head? =some (.i .i64 n):=by kernel_rfl
set_option maxRecDepth 100000
set_option maxRecDepth 100000 in
theorem new_vc (n:Int) (K:Res->Orc->Prop):runK Tryz.prog 1000000 (.call 42 [.i .i64 n] (mkH [])) (.s (.t (.f (.s .z (.c .z)))) (.f (.t (.c .z)))) K=(((!decide (n<1))=true->(!decide (n<1))=true/\decide (n<1)=false/\(decide (512<n)=true->K (.rv (.tup [.p0,.i .i64 2]) (mkH [])) .z)/\(decide (512<n)=false->K (.rv (.tup [.p 0 0,.i .i64 0]) (newList (mkH []) 120 (newL n))) .z))/\((!decide (n<1))=false->(!decide (n<1))=false/\decide (n<1)=true/\K (.rv (.tup [.p0,.i .i64 2]) (mkH [])) .z)):=by kernel_rfl
theorem con_of_call {P:Program} {g:FuncId} {pargs:List AV} {v:AV} {H1:AH} {objs':List (Option AObj)} (h:CallDoes P g pargs (mkH []) v H1) (hn:H1.next=objs'.length)
 (hx:∀A o,(mkH objs').get A=some o->∃u,H1.get A=some u/\(u.void->o.void)/\∀(ρ:Rho) p w,BR ρ u p w->BR ρ o p w) (us:List Upd) (hu:postL [] us=objs'):Con P g pargs [] v us:=by
 intro ρ w args' hva hh hoff
 refine (h.2 ρ w args' hva hh (fun A q1 _=>hoff A (by simp))).mono ?_
 rintro e w' ⟨v',ρ',rfl,k1,k2,k3⟩
 rw [hu]
 refine ⟨v',ρ',rfl,k1,⟨?_,?_,k2.range,k2.ro,?_⟩,⟨Nat.le_trans k3.next (Nat.le_of_eq hn),k3.ext,?_,k3.size,k3.frame,?_,k3.roimg,k3.tape,k3.os,k3.output⟩⟩
 · intro A o hA
   obtain ⟨u,h1,h2,h3⟩:=hx A o hA
   rcases k2.live A u h1 with ⟨p,hp,hb⟩ | ⟨hv,hn⟩
   · exact .inl ⟨p,hp,h3 _ _ _ hb⟩
   · exact .inr ⟨h2 hv,hn⟩
 · intro A A' o o' x x' hA hA' hx1 hx' e
   obtain ⟨u,h1,_⟩:=hx A o hA
   obtain ⟨u',h1',_⟩:=hx A' o' hA'
   exact k2.inj A A' u u' x x' h1 h1' hx1 hx' e
 · intro B j v hv A o x hA hx1
   obtain ⟨u,h1,_⟩:=hx A o hA
   exact k2.rox B j v hv A u x h1 hx1
 · intro A x hA
   rcases k3.dom A x hA with q | ⟨q1,q2⟩
   · exact .inl q
   · exact .inr ⟨q1,by show A<objs'.length;omega⟩
 · intro A o x hA hx1
   obtain ⟨u,h1,_⟩:=hx A o hA
   exact k3.img A u x h1 hx1
def SS.new (n:Nat):SS:={ n:=n,dur:=fun _ _=>0,torn:=fun _=>false,P:=[],wr:=0,off:=false,armed:=false,left:=0}
theorem newL_len (n:Int):(newL n).length=33799:=by
 have h1:=(chkL_ok (newL_chk n)).1
 have h2:=newL_head n
 cases h:newL n with
 | nil=>rw [h] at h2;simp at h2
 | cons a l=>rw [h] at h1;simp at h1⊢;omega
theorem newL_at (n:Int) (p:Nat) (h0:0<p) (h:p<33799):∃a,(newL n)[p]? =some a/\∀(ρ:Rho) (x:Value),VR ρ a x->CR ρ.ro (kd p) x:=by
 obtain ⟨h1,h2⟩:=chkL_ok (newL_chk n)
 have h3:=newL_len n
 obtain ⟨a,a1,a2⟩:=h2 (p-1) (by simp;omega)
 refine ⟨a,?_,fun ρ x hx=>?_⟩
 · rw [<-a1,List.getElem?_tail,show p-1+1=p by omega]
 · rw [show 1+(p-1)=p by omega] at a2
   exact eqZ_CR a2 hx
theorem kd_dur (i j:Nat) (hi:i<512) (hj:j<65):kd (1+i*65+j)=durF (fun _ _=>0) (fun _=>false) i j:=by
 unfold kd durF
 have e1:Nat.blt (1+i*65+j) 33281=true:=by rw [Nat.blt_eq];omega
 have e2:Nat.mod (1+i*65+j-1) 65=j:=by
  show (1+i*65+j-1) % 65=j
  omega
 first | (rw [e1,e2];done) | (rw [e1,e2];cases Nat.blt j 64<;>rfl)
theorem new_ox (n:Nat):OX (some (cellsO 120 (newL (ofNat n)))) (some (SS.new n).o):=by
 have hl:=newL_len (ofNat n)
 unfold cellsO
 rw [hl]
 refine .cellsSegs fun g hg=>?_
 have key:∀p,0<p->p<33799->∀c,kd p=c->∃v,cellAt 33799 [] (setAll .e 0 (newL (ofNat n))) p=some v/\∀(ρ:Rho) (x:Value),VR ρ v x->CR ρ.ro c x:=by
  intro p h0 h c hc
  obtain ⟨a,a1,a2⟩:=newL_at (ofNat n) p h0 h
  refine ⟨a,?_,fun ρ x hx=>hc▸a2 ρ x hx⟩
  rw [<-hl,cellsD_at (by omega)];exact a1
 simp only [List.mem_cons,List.mem_nil_iff,or_false] at hg
 rcases hg with rfl | rfl | rfl | rfl | rfl
 · refine ⟨by simp only;omega,fun i j hi hj=>?_⟩
   have hi:i<1:=hi
   have hj:j<1:=hj
   obtain rfl:i=0:=by omega
   obtain rfl:j=0:=by omega
   refine ⟨.i .i64 (ofNat n),?_,fun ρ x hx=>by cases hx;exact .i _ _⟩
   have h1:=newL_head (ofNat n)
   show cellAt 33799 [] (setAll .e 0 (newL (ofNat n))) 0= _
   rw [<-hl,cellsD_at (by omega)]
   cases h:newL (ofNat n) with
   | nil=>rw [h] at h1;simp at h1
   | cons a l=>rw [h] at h1;simpa using h1
 · refine ⟨by simp only;omega,fun i j hi hj=>?_⟩
   have hi:i<512:=hi
   have hj:j<65:=hj
   exact key (1+i*65+j) (by omega) (by omega) _ (kd_dur i j hi hj)
 · refine ⟨by simp only;omega,fun i j hi hj=>?_⟩
   have hi:i<1:=hi
   have hj:j<1:=hj
   obtain rfl:i=0:=by omega
   obtain rfl:j=0:=by omega
   obtain ⟨v,h1,h2⟩:=key 33281 (by omega) (by omega) .p0 (by kernel_rfl)
   exact ⟨v,h1,fun ρ x hx=>p0_opv _ _ _ _ (h2 ρ x hx)⟩
 · refine ⟨by simp only;omega,fun i j hi hj=>?_⟩
   have hi:i<512:=hi
   have hj:j<1:=hj
   obtain rfl:j=0:=by omega
   obtain ⟨v,h1,h2⟩:=key (33282+i*1+0) (by omega) (by omega) .p0 (by
    unfold kd
    rw [show Nat.blt (33282+i*1+0) 33281=false by rw [Bool.eq_false_iff,ne_eq,Nat.blt_eq];omega,show Nat.blt (33282+i*1+0) 33794=true by rw [Nat.blt_eq];omega])
   exact ⟨v,h1,fun ρ x hx=>p0_opv _ _ _ _ (h2 ρ x hx)⟩
 · refine ⟨by simp only;omega,fun i j hi hj=>?_⟩
   have hi:i<1:=hi
   have hj:j<5:=hj
   obtain rfl:i=0:=by omega
   have:j=0\/j=1\/j=2\/j=3\/j=4:=by omega
   rcases this with rfl | rfl | rfl | rfl | rfl
   · exact key 33794 (by omega) (by omega) _ (by kernel_rfl)
   · exact key 33795 (by omega) (by omega) _ (by kernel_rfl)
   · exact key 33796 (by omega) (by omega) _ (by kernel_rfl)
   · exact key 33797 (by omega) (by omega) _ (by kernel_rfl)
   · exact key 33798 (by omega) (by omega) _ (by kernel_rfl)
theorem new_con (n:Nat) (h1:1<=n) (h2:n<=512):Con Tryz.prog 42 [.i .i64 (ofNat n)] [] (.tup [.p 0 0,.i .i64 0]) [.set (SS.new n).o]:=by
 have e1:decide (ofNat n<1)=false:=by simp;omega
 have e2:decide (512<ofNat n)=false:=by simp;omega
 have h:=(new_vc (ofNat n) (fun r _=>r=.rv (.tup [.p 0 0,.i .i64 0]) (newList (mkH []) 120 (newL (ofNat n))))).mpr ⟨fun _=>⟨by rw [e1];rfl,e1,fun h=>by rw [e2] at h;simp at h,fun _=>rfl⟩,fun h=>by rw [e1] at h;simp at h⟩
 obtain ⟨r,o',rfl,hd⟩:=runK_ok Tryz.prog _ _ _ _ h
 refine con_of_call (objs':=[some (SS.new n).o]) hd rfl ?_ _ rfl
 intro A o hA
 rw [mkH_get] at hA
 cases A with
 | succ A=>simp at hA
 | zero=>
   have hA':some (SS.new n).o=some o:=hA
   obtain ⟨x,hx,h3,h4⟩:=new_ox n o hA'
   refine ⟨x,?_,h3,h4⟩
   rw [<-hx]
   show ((mkH []).new (cellsO 120 (newL (ofNat n)))).get 0= _
   rfl
end Go.Proofs.St
namespace Go.Proofs.Cl
open Go Go.Sim Go.Proofs Go.Proofs.Cd Go.Proofs.St Go.Proofs.YtfpebgpcpoefpaaGreatDoor
theorem open64T_con (gg:Nat->Nat->CV) (h:IsBy 64 gg) (hb:openB gg=true):Con Tryz.prog 113 [.sv 1 64 gg] [] (.tup [.sv 1 60 gg,.b true]) []:=by
 have k:=open64_con gg h
 rw [hb] at k;exact k
theorem open64F_con (gg:Nat->Nat->CV) (h:IsBy 64 gg) (hb:openB gg=false):Con Tryz.prog 113 [.sv 1 64 gg] [] (.tup [.l0,.b false]) []:=by
 have h4:IsBy 4 (shiftF 60 gg):=fun k hk=>h (60+k) (by omega)
 have h6:IsBy 60 gg:=h.le (by omega)
 have hd:(!decide (ofNat (four1 (bOf (shiftF 60 gg)))=ofNat (sumN (bOf gg) 60)))=true:=by
  show (!openB gg)=true
  rw [hb];rfl
 exact con_of_run [] [] ((open64_vc gg _).mpr ⟨by decide,⟨by decide,trivial,by decide,by decide⟩,ofFour_con 4 _ (by decide) h4,⟨trivial,by decide,by decide,by decide⟩,sumf_con 60 gg (by decide) h6,fun _=>⟨_,_,rfl,ret_k (by kernel_rfl)⟩,fun h=>(by rw [hd] at h;cases h)⟩)
def numN (b:Nat->Nat):Nat:=four1 (bOf (byF b))+four1 (bOf (shiftF 4 (byF b)))*4294967296
def txtD (b:Nat->Nat):List Nat:=bytesF (b 8) (shiftF 9 (byF b))
def restN (b:Nat->Nat):Nat:=trN (bOf (shiftF (9+b 8) (byF b))) (60-(9+b 8))
def okB (b:Nat->Nat):Bool:=openB (byF b) && (Nat.ble (b 8) 51 && (Nat.ble 1 (numN b) && (Nat.ble (numN b) 1099511627776 && Nat.beq (restN b) 0)))
def lkQ (b:Nat->Nat):Nat:=bif okB b then numN b else 0
def lkD (b:Nat->Nat):List Nat:=bif okB b then txtD b else []
theorem numE {x y:Nat} (hx:x<4294967296) (hy:y<4294967296):wrapA IntKind.u64 ↑(BitVec.toNat (BitVec.ofInt 64 (wrapA IntKind.u64 (wrapA IntKind.u64 (ofNat x)*(4294967296:Int))) ||| BitVec.ofInt 64 (wrapA IntKind.u64 (ofNat y))))=ofNat (y+x*4294967296):=by
 have w:∀m,m<18446744073709551616->wrapA .u64 (ofNat m)=ofNat m:=fun m hm=>by
  show ofNat (m % 18446744073709551616)= _
  rw [Nat.mod_eq_of_lt hm]
 have w2:wrapA IntKind.u64 (wrapA IntKind.u64 (ofNat x)*(4294967296:Int))=ofNat (4294967296*x):=by
  rw [w x (by omega)]
  show ofNat ((x*4294967296) % 18446744073709551616)= _
  rw [Nat.mul_comm,Nat.mod_eq_of_lt (by omega)]
 rw [w2,w y (by omega),BitVec.toNat_or,ofInt_nat,ofInt_nat,Nat.mod_eq_of_lt (by omega),Nat.mod_eq_of_lt (by omega)]
 have e:4294967296*x ||| y=4294967296*x+y:=(Nat.two_pow_add_eq_or_of_lt (i:=32) hy x).symm
 rw [e]
 show wrapA .u64 (ofNat _)= _
 rw [w _ (by omega)]
 congr 1
 omega
theorem toNat_of (m:Nat):(ofNat m).toNat=m:=rfl
theorem standing_vc (b:Nat->Nat) (K:Res->Orc->Prop):runK Tryz.prog 1000000 (.call 156 [.sv 1 64 (byF b)] (mkH [])) (.cal [] (.tup [.sv 1 60 (byF b),.b true]) [] (.c (.s .z (.cal [] (.tup [.i .u32 (ofNat (four1 (bOf (byF b)))),.b true]) [] (.cal [] (.tup [.i .u32 (ofNat (four1 (bOf (shiftF 4 (byF b))))),.b true]) [] (.s (.t (.f (.s (.t (.cal [] (.sv 1 (trN (bOf (shiftF (Int.toNat (9+ofNat (b 8))) (byF b))) (60-Int.toNat (9+ofNat (b 8)))) (byF (trB (bOf (shiftF (Int.toNat (9+ofNat (b 8))) (byF b))) (60-Int.toNat (9+ofNat (b 8)))))) [] (.t (.t (.f (.s .z .z)))))) (of_ 3 (.t (.c .z)))))) (.f (.t (oc 6 .z))))))))) K=((fun (q3:AV)=>((fun (q2:Int)=>((fun (q1:Bool)=>((fun (q0:Bool)=>(Con Tryz.prog 113 [.sv 1 64 (byF b)] [] (.tup [.sv 1 60 (byF b),.b true]) []/\True/\((0:Int)<=(8:Int)/\(8:Int)<(60:Int))/\True/\rg (ofNat (b 8))/\(decide (51<ofNat (b 8))=true->K (.rv q3 ⟨zzl (AObj.cells 90 2 [.i .i64 0,.s []] (zz1 (.i .i64 0) (zzl (.s [])) .e)),1,[0,0]⟩) .z)/\(decide (51<ofNat (b 8))=false->Con Tryz.prog 152 [.sv 1 60 (byF b)] [] (.tup [.i .u32 (ofNat (four1 (bOf (byF b)))),.b true]) []/\((0:Int)<=(4:Int)/\True/\4<=60/\60<=60)/\Con Tryz.prog 152 [.sv 1 56 (shiftF 4 (byF b))] [] (.tup [.i .u32 q2,.b true]) []/\True/\(0:Int)<=(32:Int)/\True/\True/\rg (9+ofNat (b 8))/\((0:Int)<=(9:Int)/\(0:Int)<=(9:Int)+ofNat (b 8)/\9<=Int.toNat
 (9+ofNat (b 8))/\Int.toNat (9+ofNat (b 8))<=60)/\rg (9+ofNat (b 8))/\((0:Int)<=(9:Int)+ofNat (b 8)/\True/\Int.toNat (9+ofNat (b 8))<=60/\60<=60)/\(q1=true->q1=true/\decide (wrapA .u64 ↑(BitVec.toNat (BitVec.ofInt 64 (wrapA .u64 (wrapA .u64 q2*4294967296)) ||| BitVec.ofInt 64 (wrapA .u64 (ofNat (four1 (bOf (byF b)))))))<1)=false/\(q0=true->q0=true/\Con Tryz.prog 174 [.sv 1 (60-Int.toNat (9+ofNat (b 8))) (shiftF (Int.toNat (9+ofNat (b 8))) (byF b)),.s [0]] [] (.sv 1 (trN (bOf (shiftF (Int.toNat (9+ofNat (b 8))) (byF b))) (60-Int.toNat (9+ofNat (b 8)))) (byF (trB (bOf (shiftF (Int.toNat (9+ofNat (b 8))) (byF b))) (60-Int.toNat (9+ofNat (b 8)))))) []/\q0=true/\q0=true/\decide (1099511627776<wrapA .u64 ↑(BitVec.toNat (BitVec.ofInt 64 (wrapA .u64 (wrapA .u64 q2*4294967296)) ||| BitVec.ofInt 64 (wrapA .u64 (ofNat (four1 (bOf (byF b))))))))=false/\(decide (0<ofNat (trN (bOf (shiftF (Int.toNat (9+ofNat (b 8))) (byF b))) (60-Int.toNat (9+ofNat (b 8)))))=true->K (.rv q3 ⟨zzl (AObj.cells 90 2 [.i .i64 0,.s []] (zz1 (.i .i64 0) (zzl (.s [])) .e)),1,[0,0]⟩) .z)/\(decide (0<ofNat (trN (bOf (shiftF (Int.toNat (9+ofNat (b 8))) (byF b))) (60-Int.toNat (9+ofNat (b 8)))))=false->rg (wrapA .u64 ↑(BitVec.toNat (BitVec.ofInt 64 (wrapA .u64 (wrapA .u64 q2*4294967296)) ||| BitVec.ofInt 64 (wrapA .u64 (ofNat (four1
 (bOf (byF b))))))))/\U8s (Int.toNat (9+ofNat (b 8))-9) (shiftF 9 (byF b))/\K (.rv (.agg [.i .i64 (wrapA .u64 ↑(BitVec.toNat (BitVec.ofInt 64 (wrapA .u64 (wrapA .u64 q2*4294967296)) ||| BitVec.ofInt 64 (wrapA .u64 (ofNat (four1 (bOf (byF b)))))))),.s (bytesF (Int.toNat (9+ofNat (b 8))-9) (shiftF 9 (byF b)))]) ⟨zzl (AObj.cells 90 2 [.i .i64 0,.s []] (zz1 (.i .i64 (wrapA .u64 ↑(BitVec.toNat (BitVec.ofInt 64 (wrapA .u64 (wrapA .u64 q2*4294967296)) ||| BitVec.ofInt 64 (wrapA .u64 (ofNat (four1 (bOf (byF b))))))))) (zzl (.s (bytesF (Int.toNat (9+ofNat (b 8))-9) (shiftF 9 (byF b))))) .e)),1,[0,0]⟩) .z))/\(q0=false->q0=false/\q0=false/\q0=false/\decide (1099511627776<wrapA .u64 ↑(BitVec.toNat (BitVec.ofInt 64 (wrapA .u64 (wrapA .u64 q2*4294967296)) ||| BitVec.ofInt 64 (wrapA .u64 (ofNat (four1 (bOf (byF b))))))))=true/\K (.rv q3 ⟨zzl (AObj.cells 90 2 [.i .i64 0,.s []] (zz1 (.i .i64 0) (zzl (.s [])) .e)),1,[0,0]⟩) .z))/\(q1=false->q1=false/\decide (wrapA .u64 ↑(BitVec.toNat (BitVec.ofInt 64 (wrapA .u64 (wrapA .u64 q2*4294967296)) ||| BitVec.ofInt 64 (wrapA .u64 (ofNat (four1 (bOf (byF b)))))))<1)=true/\K (.rv q3 ⟨zzl (AObj.cells 90 2 [.i .i64 0,.s []] (zz1 (.i .i64 0) (zzl (.s [])) .e)),1,[0,0]⟩) .z)))) (!decide (1099511627776<wrapA .u64 ↑(BitVec.toNat (BitVec.ofInt 64 (wrapA .u64 (wrapA .u64 q2*4294967296)) ||| BitVec.ofInt 64 (wrapA .u64 (ofNat (four1 (bOf (byF b))))))))))) (!decide
 (wrapA .u64 ↑(BitVec.toNat (BitVec.ofInt 64 (wrapA .u64 (wrapA .u64 q2*4294967296)) ||| BitVec.ofInt 64 (wrapA .u64 (ofNat (four1 (bOf (byF b)))))))<1)))) (ofNat (four1 (bOf (shiftF 4 (byF b))))))) (.agg [.i .i64 0,.s []])):=by kernel_rfl
theorem standingF_vc (b:Nat->Nat) (K:Res->Orc->Prop):runK Tryz.prog 1000000 (.call 156 [.sv 1 64 (byF b)] (mkH [])) (.cal [] (.tup [.l0,.b false]) [] (.c .z)) K=(Con Tryz.prog 113 [.sv 1 64 (byF b)] [] (.tup [.l0,.b false]) []/\True/\K (.rv (.agg [.i .i64 0,.s []]) ⟨zzl (AObj.cells 90 2 [.i .i64 0,.s []] (zz1 (.i .i64 0) (zzl (.s [])) .e)),1,[0,0]⟩) .z):=by kernel_rfl
theorem standing0_vc (gg:Nat->Nat->CV) (K:Res->Orc->Prop):runK Tryz.prog 1000000 (.call 156 [.sv 1 0 gg] (mkH [])) (.cal [] (.tup [.l0,.b false]) [] (.c .z)) K=(Con Tryz.prog 113 [.sv 1 0 gg] [] (.tup [.l0,.b false]) []/\True/\K (.rv (.agg [.i .i64 0,.s []]) ⟨zzl (AObj.cells 90 2 [.i .i64 0,.s []] (zz1 (.i .i64 0) (zzl (.s [])) .e)),1,[0,0]⟩) .z):=by kernel_rfl
theorem standing64_con (b:Nat->Nat) (hb:∀k,k<64->b k<256):Con Tryz.prog 156 [.sv 1 64 (byF b)] [] (.agg [.i .i64 (ofNat (lkQ b)),.s (lkD b)]) []:=by
 have hI:IsBy 64 (byF b):=.of hb
 cases ho:openB (byF b) with
 | false=>
   have e:okB b=false:=by unfold okB;rw [ho];rfl
   have eq:lkQ b=0:=by unfold lkQ;rw [e,cond_false]
   have ed:lkD b=[]:=by unfold lkD;rw [e,cond_false]
   rw [eq,ed]
   exact con_of_run [] [] ((standingF_vc b _).mpr ⟨open64F_con _ hI ho,trivial,_,_,rfl,ret_k (by kernel_rfl)⟩)
 | true=>
   have h8:=hb 8 (by omega)
   have hlo:four1 (bOf (byF b))<4294967296:=four1_lt fun k hk=>hb k (by omega)
   have hhi:four1 (bOf (shiftF 4 (byF b)))<4294967296:=four1_lt fun k hk=>hb (4+k) (by omega)
   have eN:=numE hhi hlo
   have eN':numN b=four1 (bOf (byF b))+four1 (bOf (shiftF 4 (byF b)))*4294967296:=by unfold numN;exact Eq.refl _
   rw [<-eN'] at eN
   have e9:(9:Int)+ofNat (b 8)=ofNat (9+b 8):=by simp
   have f4:∀M g,4<=M->IsBy M g->Con Tryz.prog 152 [.sv 1 M g] [] (.tup [.i .u32 (ofNat (four1 (bOf g))),.b true]) []:=fun M g h1 h2=>ofFour_con M g h1 h2
   have k1:=open64T_con _ hI ho
   have k2:=f4 60 (byF b) (by omega) (hI.le (by omega))
   have k3:=f4 56 (shiftF 4 (byF b)) (by omega) (fun k hk=>hI (4+k) (by omega))
   have zero:okB b=false->Con Tryz.prog 156 [.sv 1 64 (byF b)] [] (.agg [.i .i64 0,.s []]) []->Con Tryz.prog 156 [.sv 1 64 (byF b)] [] (.agg [.i .i64 (ofNat (lkQ b)),.s (lkD b)]) []:=by
    intro e h
    have eq:lkQ b=0:=by unfold lkQ;rw [e,cond_false]
    have ed:lkD b=[]:=by unfold lkD;rw [e,cond_false]
    rw [eq,ed];exact h
   by_cases h51:b 8<=51
   · have d51:decide ((51:Int)<ofNat (b 8))=false:=by simp;omega
     have e51:Nat.ble (b 8) 51=true:=Nat.ble_eq_true_of_le h51
     have n9:(ofNat (9+b 8)).toNat=9+b 8:=rfl
     have k4:Con Tryz.prog 174 [.sv 1 (60-(9+b 8)) (shiftF (9+b 8) (byF b)),.s [0]] [] (.sv 1 (trN (bOf (shiftF (9+b 8) (byF b))) (60-(9+b 8))) (byF (trB (bOf (shiftF (9+b 8) (byF b))) (60-(9+b 8))))) []:=
      trim_con _ _ (by omega) fun k hk=>by rw [shiftF_eq];exact ⟨by show _=CV.i .u8 (ofNat (cvN (shiftF (9+b 8) (byF b) k 0)));rw [shiftF_eq];rfl,by show cvN (shiftF (9+b 8) (byF b) k 0)<256;rw [shiftF_eq];exact hb (9+b 8+k) (by omega)⟩
     have eR:trN (bOf (shiftF (9+b 8) (byF b))) (60-(9+b 8))=restN b:=by unfold restN;exact Eq.refl _
     by_cases h1:1<=numN b
     · have d1:decide (ofNat (numN b)<1)=false:=by simp;omega
       by_cases h2:numN b<=1099511627776
       · have d2:decide ((1099511627776:Int)<ofNat (numN b))=false:=by simp;omega
         by_cases h3:restN b=0
         · have d3:decide ((0:Int)<ofNat (restN b))=false:=by simp;omega
           have e:okB b=true:=by unfold okB;rw [ho,e51,Nat.ble_eq_true_of_le h1,Nat.ble_eq_true_of_le h2,h3,Nat.beq_refl];simp only [Bool.and_self]
           have eq:lkQ b=numN b:=by unfold lkQ;rw [e,cond_true]
           have ed:lkD b=txtD b:=by unfold lkD;rw [e,cond_true]
           rw [eq,ed]
           have kU:U8s (9+b 8-9) (shiftF 9 (byF b)):=fun i _=>⟨b (9+i),rfl⟩
           have eT:bytesF (9+b 8-9) (shiftF 9 (byF b))=txtD b:=by unfold txtD;congr 1;omega
           refine con_of_run [] [] ((standing_vc b _).mpr ?_)
           simp only [d51,e9,toNat_of,eN,d1,d2,eR,d3,eT,Bool.not_false,Bool.not_true,true_implies,false_implies,reduceCtorEq,and_true,true_and]
           repeat' first | exact kU | exact k1 | exact k2 | exact k3 | exact k4 | (decide;done) | (constructor<;>first | (decide;done) | (simp<;>omega)) | exact ⟨_,_,rfl,ret_k (by kernel_rfl)⟩ | refine And.intro ?_ ?_
         · have d3:decide ((0:Int)<ofNat (restN b))=true:=by simp;omega
           have e:okB b=false:=by
            unfold okB
            have:Nat.beq (restN b) 0=false:=by rw [Bool.eq_false_iff,ne_eq,Nat.beq_eq];exact h3
            rw [this];simp only [Bool.and_false]
           refine zero e (con_of_run [] [] ((standing_vc b _).mpr ?_))
           simp only [d51,e9,toNat_of,eN,d1,d2,eR,d3,Bool.not_false,Bool.not_true,true_implies,false_implies,reduceCtorEq,and_true,true_and]
           repeat' first | exact k1 | exact k2 | exact k3 | exact k4 | (decide;done) | (constructor<;>first | (decide;done) | (simp<;>omega)) | exact ⟨_,_,rfl,ret_k (by kernel_rfl)⟩ | refine And.intro ?_ ?_
       · have d2:decide ((1099511627776:Int)<ofNat (numN b))=true:=by simp;omega
         have e:okB b=false:=by
          unfold okB
          have:Nat.ble (numN b) 1099511627776=false:=by rw [Bool.eq_false_iff,ne_eq,Nat.ble_eq];omega
          rw [this];simp only [Bool.and_false,Bool.false_and]
         refine zero e (con_of_run [] [] ((standing_vc b _).mpr ?_))
         simp only [d51,e9,toNat_of,eN,d1,d2,Bool.not_false,Bool.not_true,true_implies,false_implies,reduceCtorEq,and_true,true_and]
         repeat' first | exact k1 | exact k2 | exact k3 | exact k4 | (decide;done) | (constructor<;>first | (decide;done) | (simp<;>omega)) | exact ⟨_,_,rfl,ret_k (by kernel_rfl)⟩ | refine And.intro ?_ ?_
     · have d1:decide (ofNat (numN b)<1)=true:=by simp;omega
       have e:okB b=false:=by
        unfold okB
        have:Nat.ble 1 (numN b)=false:=by rw [Bool.eq_false_iff,ne_eq,Nat.ble_eq];omega
        rw [this];simp only [Bool.and_false,Bool.false_and]
       refine zero e (con_of_run [] [] ((standing_vc b _).mpr ?_))
       simp only [d51,e9,toNat_of,eN,d1,Bool.not_false,Bool.not_true,true_implies,false_implies,reduceCtorEq,and_true,true_and]
       repeat' first | exact k1 | exact k2 | exact k3 | exact k4 | (decide;done) | (constructor<;>first | (decide;done) | (simp<;>omega)) | exact ⟨_,_,rfl,ret_k (by kernel_rfl)⟩ | refine And.intro ?_ ?_
   · have d51:decide ((51:Int)<ofNat (b 8))=true:=by simp;omega
     have e51:okB b=false:=by
      unfold okB
      have:Nat.ble (b 8) 51=false:=by rw [Bool.eq_false_iff,ne_eq,Nat.ble_eq];omega
      rw [this];simp only [Bool.and_false,Bool.false_and]
     refine zero e51 (con_of_run [] [] ((standing_vc b _).mpr ?_))
     simp only [d51,true_implies,false_implies,reduceCtorEq,and_true,true_and]
     repeat' first | exact k1 | exact k2 | exact k3 | exact k4 | (decide;done) | (constructor<;>first | (decide;done) | (simp<;>omega)) | exact ⟨_,_,rfl,ret_k (by kernel_rfl)⟩ | refine And.intro ?_ ?_
theorem standing0_con (gg:Nat->Nat->CV):Con Tryz.prog 156 [.sv 1 0 gg] [] (.agg [.i .i64 0,.s []]) []:=
 con_of_run [] [] ((standing0_vc gg _).mpr ⟨open0_con gg,trivial,_,_,rfl,ret_k (by kernel_rfl)⟩)
theorem sealF_by (gg:Nat->Nat->CV) (b:Nat->Nat) (h:∀k,gg k 0=.i .u8 (ofNat (b k))) (i:Nat):sealF gg i 0=.i .u8 (ofNat (bif Nat.blt i 60 then b i else fourB (sumN b 60) (i-60))):=by
 have e:sumN (bOf gg) 60=sumN b 60:=sumN_congr fun k _=>by
  show cvN (gg k 0)=b k
  rw [h k];exact Eq.refl (b k)
 unfold sealF
 rw [e]
 refine (appZ_i (h i) (Eq.refl _)).trans ?_
 by_cases c:i<60
 · rw [if_pos c,show Nat.blt i 60=true from by rw [Nat.blt_eq];exact c,cond_true]
 · rw [if_neg c,show Nat.blt i 60=false from by rw [Bool.eq_false_iff,ne_eq,Nat.blt_eq];exact c,cond_false]
theorem seal60R_con (gg:Nat->Nat->CV) (h:IsBy 60 gg):Con Tryz.prog 56 [.lr 0 1 0 60 false] [some (.rows 5 1 60 gg)] (.sv 1 64 (sealF gg)) [.gone]:=
 ((seal60_con gg h).slot rfl (by kernel_rfl) (by kernel_rfl)).thaw (us0:=[.gone]) 0 (e:=5) (sz:=1) (n:=60) (f:=gg) rfl ⟨rfl,trivial⟩ ⟨.inr ⟨by kernel_rfl,⟨rfl,by omega⟩,rfl⟩,trivial⟩ rfl
def bodyB (q:Nat) (d:List Nat) (k:Nat):Nat:=
 bif Nat.ble 9 k && Nat.blt k (9+d.length) then d.getD (k-9) 0 else
 bif Nat.beq k 8 then d.length % 256 else
 bif Nat.ble 4 k && Nat.blt k 8 then fourB (q / 4294967296 % 4294967296) (k-4) else
 bif Nat.ble 0 k && Nat.blt k 4 then fourB (q % 4294967296) k else 0
def sectB (q:Nat) (d:List Nat) (k:Nat):Nat:=bif Nat.blt k 60 then bodyB q d k else fourB (sumN (bodyB q d) 60) (k-60)
def bodyF (q:Nat) (d:List Nat):Nat->Nat->CV:=copyF 9 d.length (fun i x=>CV.i IntKind.u8 (ofNat (List.getD d i 0))) (setRow (copyF 4 4 (fun k x=>CV.i IntKind.u8 (ofNat (fourB (Int.toNat (wrapA IntKind.u32 (Int.fdiv (ofNat q) (4294967296:Int)))) k))) (copyF 0 4 (fun k x=>CV.i IntKind.u8 (ofNat (fourB (Int.toNat (wrapA IntKind.u32 (ofNat q))) k))) fun x j=>List.getD [CV.i IntKind.u8 (0:Int)] j CV.p0)) 8 0 [CV.i IntKind.u8 (wrapA IntKind.u8 (ofNat d.length))])
theorem hi32 (q:Nat):Int.toNat (wrapA IntKind.u32 (Int.fdiv (ofNat q) (4294967296:Int)))=q / 4294967296 % 4294967296:=by
 have e:Int.fdiv (ofNat q) (4294967296:Int)=ofNat (q / 4294967296):=by
  rw [Int.fdiv_eq_ediv_of_nonneg _ (by decide)];exact Eq.refl _
 rw [e];exact Eq.refl _
theorem bodyF_at (q:Nat) (d:List Nat) (k:Nat):bodyF q d k 0=.i .u8 (ofNat (bodyB q d k)):=by
 have h:bodyF q d k 0=zipCV (Nat.ble 9 k && Nat.blt k (9+d.length)) (.i .u8 (ofNat (d.getD (k-9) 0))) (zipCV (Nat.beq k 8) (.i .u8 (ofNat (d.length % 256)))
  (zipCV (Nat.ble 4 k && Nat.blt k 8) (.i .u8 (ofNat (fourB (Int.toNat (wrapA IntKind.u32 (Int.fdiv (ofNat q) (4294967296:Int)))) (k-4)))) (zipCV (Nat.ble 0 k && Nat.blt k (0+4)) (.i .u8 (ofNat (fourB (Int.toNat (wrapA IntKind.u32 (ofNat q))) (k-0)))) (.i .u8 0)))):=Eq.refl _
 rw [h,hi32,Nat.sub_zero,Nat.zero_add]
 unfold bodyB
 cases (Nat.ble 9 k && Nat.blt k (9+d.length))<;>cases Nat.beq k 8<;>cases (Nat.ble 4 k && Nat.blt k 8)<;>cases (Nat.ble 0 k && Nat.blt k 4)<;>exact Eq.refl _
theorem bodyB_lt {q:Nat} {d:List Nat} (hd:∀x∈d,x<256) (k:Nat):bodyB q d k<256:=by
 unfold bodyB
 cases (Nat.ble 9 k && Nat.blt k (9+d.length)) with
 | true=>
   rw [cond_true,List.getD_eq_getElem?_getD]
   cases h:d[k-9]? with
   | none=>exact (by decide:(0:Nat)<256)
   | some x=>exact hd x (List.mem_of_getElem? h)
 | false=>
   rw [cond_false]
   cases Nat.beq k 8 with
   | true=>rw [cond_true];exact Nat.mod_lt _ (by decide)
   | false=>
     rw [cond_false]
     cases (Nat.ble 4 k && Nat.blt k 8) with
     | true=>rw [cond_true];exact fourB_lt _ _
     | false=>
       rw [cond_false]
       cases (Nat.ble 0 k && Nat.blt k 4) with
       | true=>rw [cond_true];exact fourB_lt _ _
       | false=>rw [cond_false];decide
theorem bodyF_by {q:Nat} {d:List Nat} (hd:∀x∈d,x<256):IsBy 60 (bodyF q d):=fun k _=>by
 have e:bOf (bodyF q d) k=bodyB q d k:=by show cvN (bodyF q d k 0)= _;rw [bodyF_at];exact Eq.refl _
 rw [e];exact ⟨bodyF_at q d k,bodyB_lt hd k⟩
theorem sectB_lt {q:Nat} {d:List Nat} (hd:∀x∈d,x<256) (k:Nat):sectB q d k<256:=by
 unfold sectB
 cases Nat.blt k 60 with
 | true=>rw [cond_true];exact bodyB_lt hd k
 | false=>rw [cond_false];exact fourB_lt _ _
theorem sector_vc (q:Nat) (d:List Nat) (K:Res->Orc->Prop):runK Tryz.prog 1000000 (.call 176 [.agg [inv q,.s d]] (mkH [])) (.s (.cal [] (.sv 1 4 (byF (fourB (Int.toNat (wrapA .u32 (ofNat q)))))) [] (.cal [] (.sv 1 4 (byF (fourB (Int.toNat (wrapA .u32 (Int.fdiv (ofNat q) 4294967296)))))) [] (.cal [1] (.sv 1 64 (sealF (copyF 9 (List.length d) (fun i x=>CV.i .u8 (ofNat (List.getD d i 0))) (setRow (copyF 4 4 (fun k x=>CV.i .u8 (ofNat (fourB (Int.toNat (wrapA .u32 (Int.fdiv (ofNat q) 4294967296))) k))) (copyF 0 4 (fun k x=>CV.i .u8 (ofNat (fourB (Int.toNat (wrapA .u32 (ofNat q))) k))) fun x j=>List.getD [CV.i .u8 0] j CV.p0)) 8 0 [CV.i .u8 (wrapA .u8 (ofNat (List.length d)))])))) [.gone] .z))) .z) K=((fun (q2:Int)=>((fun (q1:Nat)=>((fun (q0:Nat)=>(((0:Int)<=(60:Int)/\(60:Int)<=(60:Int)/\(60:Int)<=(1073741824:Int))/\True/\True/\Con Tryz.prog 86 [.i .u32 (wrapA .u32 (ofNat q))] [] (.sv 1 4 (byF (fourB q1))) []/\(True/\0<60/\0<60/\4<=60/\60<=60)/\((0:Int)<=(4:Int)/\True/\4<=60/\60<=60/\(4=0\/4<60))/\True/\(0:Int)<=(32:Int)/\True/\Con Tryz.prog 86 [.i .u32 (wrapA .u32 (Int.fdiv (ofNat q) 4294967296))] [] (.sv 1 4 (byF (fourB q0))) []/\(True/\0<56/\0<60/\4<=56/\60<=60)/\True/\True/\((0:Int)<=(8:Int)/\(8:Int)<(60:Int))/\8<60/\((0:Int)<=(9:Int)/\True/\9<=60/\60<=60/\(9=0\/9<60))/\True/\(True/\0<51/\0<60/\
 List.length d<=51/\60<=60)/\Con Tryz.prog 56 [.lr 0 1 0 60 false] [some (.rows 5 1 60 (copyF 9 (List.length d) (fun i x=>CV.i .u8 (ofNat (List.getD d i 0))) (setRow (copyF 4 4 (fun k x=>CV.i .u8 (ofNat (fourB q0 k))) (copyF 0 4 (fun k x=>CV.i .u8 (ofNat (fourB q1 k))) fun x j=>List.getD [CV.i .u8 0] j CV.p0)) 8 0 [CV.i .u8 (wrapA .u8 q2)])))] (.sv 1 64 (sealF (copyF 9 (List.length d) (fun i x=>CV.i .u8 (ofNat (List.getD d i 0))) (setRow (copyF 4 4 (fun k x=>CV.i .u8 (ofNat (fourB q0 k))) (copyF 0 4 (fun k x=>CV.i .u8 (ofNat (fourB q1 k))) fun x j=>List.getD [CV.i .u8 0] j CV.p0)) 8 0 [CV.i .u8 (wrapA .u8 q2)])))) [.gone]/\K (.rv (.sv 1 64 (sealF (copyF 9 (List.length d) (fun i x=>CV.i .u8 (ofNat (List.getD d i 0))) (setRow (copyF 4 4 (fun k x=>CV.i .u8 (ofNat (fourB q0 k))) (copyF 0 4 (fun k x=>CV.i .u8 (ofNat (fourB q1 k))) fun x j=>List.getD [CV.i .u8 0] j CV.p0)) 8 0 [CV.i .u8 (wrapA .u8 q2)])))) ⟨zz1 (AObj.cells 90 2 [] (zz1 (inv q) (zzl (.s d)) .e)) (zz0 .e .e) .e,2,[1,1,1,1,1,1,0]⟩) .z)) (Int.toNat (wrapA .u32 (Int.fdiv (ofNat q) 4294967296))))) (Int.toNat (wrapA .u32 (ofNat q))))) (ofNat (List.length d))):=by kernel_rfl
theorem sector_con (q:Nat) (d:List Nat) (hd:∀x∈d,x<256) (hl:d.length<=51):Con Tryz.prog 176 [.agg [.i .i64 (ofNat q),.s d]] [] (.sv 1 64 (byF (sectB q d))) []:=by
 have e0:wrapA IntKind.u32 (ofNat q)=ofNat (q % 4294967296):=Eq.refl _
 have e1:wrapA IntKind.u32 (Int.fdiv (ofNat q) (4294967296:Int))=ofNat (q / 4294967296 % 4294967296):=by
  have e:Int.fdiv (ofNat q) (4294967296:Int)=ofNat (q / 4294967296):=by
   rw [Int.fdiv_eq_ediv_of_nonneg _ (by decide)];exact Eq.refl _
  rw [e];exact Eq.refl _
 have k0:Con Tryz.prog 86 [AV.i IntKind.u32 (wrapA IntKind.u32 (ofNat q))] [] (AV.sv 1 4 (byF (fourB (Int.toNat (wrapA IntKind.u32 (ofNat q)))))) []:=by
  rw [e0];exact four0_con _
 have k1:Con Tryz.prog 86 [AV.i IntKind.u32 (wrapA IntKind.u32 (Int.fdiv (ofNat q) (4294967296:Int)))] [] (AV.sv 1 4 (byF (fourB (Int.toNat (wrapA IntKind.u32 (Int.fdiv (ofNat q) (4294967296:Int))))))) []:=by
  rw [e1];exact four0_con _
 have k:Con Tryz.prog 176 [.agg [.i .i64 (ofNat q),.s d]] [] (.sv 1 64 (sealF (bodyF q d))) []:=
  con_of_run [] [] ((sector_vc q d _).mpr ⟨by decide,trivial,trivial,k0,⟨trivial,by decide,by decide,by decide,by decide⟩,⟨by decide,trivial,by decide,by decide,.inr (by decide)⟩,trivial,by decide,trivial,k1,⟨trivial,by decide,by decide,by decide,by decide⟩,trivial,trivial,by decide,by decide,
   ⟨by decide,trivial,by decide,by decide,.inr (by decide)⟩,trivial,⟨trivial,by decide,by decide,hl,by decide⟩,seal60R_con _ (bodyF_by hd),_,_,rfl,ret_k (by kernel_rfl)⟩)
 refine k.post (.sv fun i j hi hj=>?_) (OVL.refl _)
 obtain rfl:j=0:=by omega
 rw [sealF_by _ (bodyB q d) (bodyF_at q d)]
 exact Eq.refl _
def cellF (q:Nat->Nat) (d:Nat->List Nat) (sp:Nat->Nat):Nat->Nat->CV:=fun i j=>match j with
 | 0=>.i .i64 (ofNat (q i))
 | 1=>.s (d i)
 | _=>.i .i64 (ofNat (sp i))
def clO (n:Nat) (q:Nat->Nat) (d:Nat->List Nat) (sp:Nat->Nat) (dead:Bool):AObj:=
 .segs 175 771 [⟨1,1,1,oneF (.i .i64 (ofNat n))⟩,⟨2,3,256,cellF q d sp⟩,⟨770,1,1,oneF (.b dead)⟩] [(0,.p 1 0)]
end Go.Proofs.Cl
namespace Go.Proofs.St
open Go Go.Sim Go.Proofs Go.Proofs.YtfpebgpcpoefpaaGreatDoor
theorem writeSA_vc (s:SS) (q:Nat) (bs:Nat->Int) (K:Res->Orc->Prop):runK Tryz.prog 1000000 (.call 175 [.p 0 0,inv q,.sv 1 64 fun k _=>.i .u8 (bs k)] (mkH [some s.o])) (.cal [0] (.i .i64 (SS.faultE s)) [.keep] (.s .z (.cal [0] (.b (decide ((0:Int)<=ofNat q/\ofNat q<ofNat (SS.n s)))) [.keep] (.s (.t (.t (.f (.c (.cal [0] (.tup []) [.set (SS.o (SS.put s q bs))] (.inl (.s .z (.s (.inl (.c .z)) .z)))))))) (.f (.f (.t (.c .z)))))))) K=((fun (q3:Nat)=>((fun (q2:Nat)=>((fun (q1:Int)=>((fun (q0:Bool)=>(Con Tryz.prog 171 [.p 0 0] [some (SS.o s)] (.i .i64 (SS.faultE s)) [.keep]/\((!decide (SS.faultE s=(0:Int)))=true->K (.rv (.i .i64 (SS.faultE s)) ⟨zzl (AObj.segs 120 33799 [⟨0,1,1,oneF (CV.i .i64 (ofNat (SS.n s)))⟩,⟨1,65,512,durF (SS.dur s) (SS.torn s)⟩,⟨33281,1,1,oneF (CV.opv (pB (SS.P s)) 66 (pW (SS.P s)))⟩,⟨33282,1,512,latF (lB (SS.P s)) (lW (SS.P s))⟩,⟨33794,5,1,tailF (ofNat (List.length (SS.P s))) (ofNat (SS.wr s)) (SS.off s) (SS.armed s) (ofNat (SS.left s))⟩]),1,[]⟩) .z)/\((!decide (SS.faultE s=(0:Int)))=false->Con Tryz.prog 172 [.p 0 0,inv q] [some (SS.o s)] (.b (decide ((0:Int)<=ofNat q/\ofNat q<ofNat (SS.n s)))) [.keep]/\True/\(q0=true->q0=true/\q0=true/\(!decide ((0:Int)<=ofNat q/\ofNat q<ofNat (SS.n s)))=false/\True/\(64<=64/\0<64)/\True/\Con Tryz.prog 192 [.p 0 33281,inv q,.agg (cvL (fun k=>CV.i .u8 (bs k)) 0 64)] [some (SS.o s)] (.tup []) [.set (SS.o (SS.put s q bs))]/\True/\True/\rg (ofNat (SS.wr (SS.put s q bs))+1)/\True/\True/\True/\True/\True/\((!SS.armed (SS.put s q bs))=true->K (.rv (.i .i64 (0:Int)) ⟨zzl (AObj.segs 120 33799 [⟨0,1,1,oneF (CV.i .i64 (ofNat (SS.n (SS.put s q bs))))⟩,⟨1,65,512,durF (SS.dur (SS.put s q bs)) (SS.torn (SS.put s q bs))⟩,⟨33281,1,1,oneF (CV.opv (pB (SS.P (SS.put s q bs))) 66 (pW (SS.P (SS.put s q bs))))⟩,⟨33282,1,512,latF (lB (SS.P (SS.put s q bs))) (lW (SS.P (SS.put s q bs)))⟩,⟨33794,5,1,setRow (fun x j=>match j with | 0=>CV.i .i64 (ofNat q2) | 1=>CV.i .i64 (ofNat (SS.wr (SS.put s q bs))) | 2=>CV.b (SS.off (SS.put s q bs)) | 3=>CV.b (SS.armed (SS.put s q bs)) | x=>CV.i .i64 q1) 0 1 [CV.i .i64 (ofNat (SS.wr (SS.put s q bs))+(1:Int))]⟩]),1,[0,0]⟩) .z)/\((!SS.armed (SS.put s q bs))=false->True/\True/\(decide (ofNat (SS.left (SS.put s q bs))=(0:Int))=true->True/\True/\True/\True/\True/\K (.rv (.i .i64 (13:Int)) ⟨zzl (AObj.segs 120 33799 [⟨0,1,1,oneF (CV.i .i64 (ofNat (SS.n (SS.put s q bs))))⟩,⟨1,65,512,durF (SS.dur (SS.put s q bs)) (SS.torn (SS.put s q bs))⟩,⟨33281,1,1,oneF (CV.opv (pB (SS.P (SS.put s q bs))) 66 (pW (SS.P (SS.put s q bs))))⟩,⟨33282,1,512,latF (lB (SS.P (SS.put s q bs))) (lW (SS.P (SS.put s q bs)))⟩,⟨33794,5,1,setRow (fun i j=>match Nat.ble 2 j with | true=>(match [CV.b true][j-2 % 5]? with | some c=>zipCV (Nat.beq i 0) c (Seg.f ⟨33794,5,1,setRow (fun x j=>match j with | 0=>CV.i .i64 (ofNat q2) | 1=>CV.i .i64 (ofNat (SS.wr (SS.put s q bs))) | 2=>CV.b (SS.off (SS.put s q bs)) | 3=>CV.b (SS.armed (SS.put s q bs)) | x=>CV.i .i64 q1) 0 1 [CV.i .i64 (ofNat (SS.wr (SS.put s q bs))+(1:Int))]⟩ i j) | none=>Seg.f ⟨33794,5,1,setRow (fun x j=>match j with | 0=>CV.i .i64 (ofNat q2) | 1=>CV.i .i64 (ofNat (SS.wr (SS.put s q bs))) | 2=>CV.b (SS.off (SS.put s q bs)) | 3=>CV.b (SS.armed (SS.put s q bs)) | x=>CV.i .i64 q1) 0 1 [CV.i .i64 (ofNat (SS.wr (SS.put s q bs))+(1:Int))]⟩ i j) | false=>Seg.f ⟨33794,5,1,setRow (fun x j=>match j with | 0=>CV.i .i64 (ofNat q2) | 1=>CV.i .i64 (ofNat (SS.wr (SS.put s q bs))) | 2=>CV.b (SS.off (SS.put s q bs)) | 3=>CV.b (SS.armed (SS.put s q bs)) | x=>CV.i .i64 q1) 0 1 [CV.i .i64 (ofNat (SS.wr (SS.put s q bs))+(1:Int))]⟩ i j) 0 3 [CV.b false]⟩]),1,[0,0,0,0]⟩) .z)/\(decide (ofNat (SS.left (SS.put s q bs))=(0:Int))=false->True/\True/\rg (ofNat (SS.left (SS.put s q bs))-1)/\True/\True/\K (.rv (.i .i64 (0:Int)) ⟨zzl (AObj.segs 120 33799 [⟨0,1,1,oneF (CV.i .i64 (ofNat (SS.n (SS.put s q bs))))⟩,⟨1,65,512,durF (SS.dur (SS.put s q bs)) (SS.torn (SS.put s q bs))⟩,⟨33281,1,1,oneF (CV.opv (pB (SS.P (SS.put s q bs))) 66 (pW (SS.P (SS.put s q bs))))⟩,⟨33282,1,512,latF (lB (SS.P (SS.put s q bs))) (lW (SS.P (SS.put s q bs)))⟩,⟨33794,5,1,setRow (fun i j=>match Nat.ble 1 j with | true=>(match [CV.i .i64 (ofNat (SS.wr (SS.put s q bs))+(1:Int))][j-1 % 5]? with | some c=>zipCV (Nat.beq i 0) c (Seg.f ⟨33794,5,1,tailF (ofNat q3) (ofNat (SS.wr (SS.put s q bs))) (SS.off (SS.put s q bs)) (SS.armed (SS.put s q bs)) q1⟩ i j) | none=>Seg.f ⟨33794,5,1,tailF (ofNat q3) (ofNat (SS.wr (SS.put s q bs))) (SS.off (SS.put s q bs)) (SS.armed (SS.put s q bs)) q1⟩ i j) | false=>Seg.f ⟨33794,5,1,tailF (ofNat q3) (ofNat (SS.wr (SS.put s q bs))) (SS.off (SS.put s q bs)) (SS.armed (SS.put s q bs)) q1⟩ i j) 0 4 [CV.i .i64 (ofNat (SS.left (SS.put s q bs))-(1:Int))]⟩]),1,[0,0,0]⟩) .z)))/\(q0=false->q0=false/\q0=false/\(!decide ((0:Int)<=ofNat q/\ofNat q<ofNat (SS.n s)))=true/\K (.rv (.i .i64 (2:Int)) ⟨zzl (AObj.segs 120 33799 [⟨0,1,1,oneF (CV.i .i64 (ofNat (SS.n s)))⟩,⟨1,65,512,durF (SS.dur s) (SS.torn s)⟩,⟨33281,1,1,oneF (CV.opv (pB (SS.P s)) 66 (pW (SS.P s)))⟩,⟨33282,1,512,latF (lB (SS.P s)) (lW (SS.P s))⟩,⟨33794,5,1,tailF (ofNat (List.length (SS.P s))) (ofNat (SS.wr s)) (SS.off s) (SS.armed s) (ofNat (SS.left s))⟩]),1,[]⟩) .z)))) (!!decide ((0:Int)<=ofNat q/\ofNat q<ofNat (SS.n s))))) (ofNat (SS.left (SS.put s q bs))))) (List.length ((q,bs) :: SS.P s)))) (List.length (SS.P (SS.put s q bs)))):=by kernel_rfl
theorem writeV_con (s:SS) (q:Nat) (bs:Nat->Int) (ok:s.Ok) (ho:s.off=false) (hq:q<s.n) :
 Con Tryz.prog 175 [.p 0 0,.i .i64 (ofNat q),.sv 1 64 fun k _=>.i .u8 (bs k)] [some s.o] (.i .i64 (s.wrote q bs).payE) [.set (s.wrote q bs).pay.o]:=by
 have e0:s.faultE=0:=by unfold SS.faultE;rw [ho];rfl
 have e:(!!decide (0<=ofNat q/\ofNat q<ofNat s.n))=true:=by simp;omega
 have e1:(!decide (0<=ofNat q/\ofNat q<ofNat s.n))=false:=by simp;omega
 obtain ⟨h1,h2,h3,h4,h5⟩:=ok
 have hb:(-9223372036854775808:Int)<=ofNat (s.put q bs).wr+1/\ofNat (s.put q bs).wr+1<=9223372036854775807:=by
  have:(s.put q bs).wr=s.wr:=rfl
  rw [this];simp<;>omega
 have ha:=add2_con s q bs (by omega) h2
 obtain ⟨n,dur,torn,P,wr,off,armed,left⟩:=s
 cases armed with
 | false=>
   refine Con.runE (us:=[.set (tO (ofNat n) dur torn (pB ((q,bs) :: P)) (pW ((q,bs) :: P)) (lB ((q,bs) :: P)) (lW ((q,bs) :: P)) (setRow (tailF (ofNat (P.length+1)) (ofNat wr) off false (ofNat left)) 0 1 [.i .i64 (ofNat wr+1)]))]) [] []
    ((writeSA_vc _ q bs _).mpr ⟨fault2_con _,fun h=>by rw [e0] at h;simp at h,fun _=>⟨has2_con _ _,trivial,fun _=>⟨e,e,e1,trivial,⟨Nat.le_refl _,by omega⟩,trivial,ha,trivial,trivial,hb,trivial,trivial,trivial,trivial,trivial,
      fun _=>⟨_,_,rfl,ret_k (by kernel_rfl)⟩,fun h=>by simp [SS.put] at h⟩,fun h=>by rw [e] at h;simp at h⟩⟩)
    ⟨(tail_oeq (cnt:=ofNat (P.length+1)) (wr:=ofNat (wr+1)) (off:=off) (armed:=false) (left:=ofNat left) ⟨rfl,rfl,rfl,rfl,rfl⟩).1,trivial⟩
 | true=>
   cases left with
   | zero=>
     refine Con.runE (us:=[.set (tO (ofNat n) dur torn (pB ((q,bs) :: P)) (pW ((q,bs) :: P)) (lB ((q,bs) :: P)) (lW ((q,bs) :: P)) (setRow (setRow (setRow (tailF (ofNat (P.length+1)) (ofNat wr) off true 0) 0 1 [.i .i64 (ofNat wr+1)]) 0 2 [.b true]) 0 3 [.b false]))]) [] []
      ((writeSA_vc _ q bs _).mpr ⟨fault2_con _,fun h=>by rw [e0] at h;simp at h,fun _=>⟨has2_con _ _,trivial,fun _=>⟨e,e,e1,trivial,⟨Nat.le_refl _,by omega⟩,trivial,ha,trivial,trivial,hb,trivial,trivial,trivial,trivial,trivial,
        fun h=>by simp [SS.put] at h,fun _=>⟨trivial,trivial,fun _=>⟨trivial,trivial,trivial,trivial,trivial,_,_,rfl,ret_k (by kernel_rfl)⟩,fun h=>by simp [SS.put] at h⟩⟩,fun h=>by rw [e] at h;simp at h⟩⟩)
      ⟨(tail_oeq (cnt:=ofNat (P.length+1)) (wr:=ofNat (wr+1)) (off:=true) (armed:=false) (left:=0) ⟨rfl,rfl,rfl,rfl,rfl⟩).1,trivial⟩
   | succ left=>
     refine Con.runE (us:=[.set (tO (ofNat n) dur torn (pB ((q,bs) :: P)) (pW ((q,bs) :: P)) (lB ((q,bs) :: P)) (lW ((q,bs) :: P)) (setRow (setRow (tailF (ofNat (P.length+1)) (ofNat wr) off true (ofNat (left+1))) 0 1 [.i .i64 (ofNat wr+1)]) 0 4 [.i .i64 (ofNat (left+1)-1)]))]) [] []
      ((writeSA_vc _ q bs _).mpr ⟨fault2_con _,fun h=>by rw [e0] at h;simp at h,fun _=>⟨has2_con _ _,trivial,fun _=>⟨e,e,e1,trivial,⟨Nat.le_refl _,by omega⟩,trivial,ha,trivial,trivial,hb,trivial,trivial,trivial,trivial,trivial,
        fun h=>by simp [SS.put] at h,fun _=>⟨trivial,trivial,fun h=>by have h':ofNat (left+1)=0:=of_decide_eq_true h;exact absurd h' (by simp<;>omega),fun _=>⟨trivial,trivial,?_,trivial,trivial,_,_,rfl,ret_k (by kernel_rfl)⟩⟩⟩,fun h=>by rw [e] at h;simp at h⟩⟩)
      ⟨(tail_oeq (cnt:=ofNat (P.length+1)) (wr:=ofNat (wr+1)) (off:=off) (armed:=true) (left:=ofNat left) ⟨rfl,rfl,rfl,rfl,by show CV.i .i64 (ofNat (left+1)-1)= _;simp⟩).1,trivial⟩
     simp [SS.put] at h4⊢
     omega
theorem writeVB_con (s:SS) (q:Nat) (bs:Nat->Int) (ho:s.off=true) :
 Con Tryz.prog 175 [.p 0 0,.i .i64 (ofNat q),.sv 1 64 fun k _=>.i .u8 (bs k)] [some s.o] (.i .i64 13) [.set s.o]:=by
 have e0:s.faultE=13:=by unfold SS.faultE;rw [ho];rfl
 have h:Con Tryz.prog 175 [.p 0 0,.i .i64 (ofNat q),.sv 1 64 fun k _=>.i .u8 (bs k)] [some s.o] (.i .i64 13) [.keep]:=by
  obtain ⟨n,dur,torn,P,wr,off,armed,left⟩:=s
  refine con_of_run [] [] ((writeSA_vc _ q bs _).mpr ⟨fault2_con _,fun _=>?_,fun h=>(by rw [e0] at h;simp at h)⟩)
  rw [e0]
  exact ⟨_,_,rfl,ret_k (by kernel_rfl)⟩
 exact h.oeq (OEqL.refl _) (OEqL.refl _)
theorem writeW_con (s:SS) (q:Nat) (bs:Nat->Int) (ok:s.Ok) (hq:q<s.n) :
 Con Tryz.prog 175 [.p 0 0,.i .i64 (ofNat q),.sv 1 64 fun k _=>.i .u8 (bs k)] [some s.o] (.i .i64 (s.wrE (ofNat q) 64)) [.set (s.wrS (ofNat q) 64 bs).o]:=by
 cases ho:s.off with
 | true=>
   have e1:s.wrE (ofNat q) 64=13:=by unfold SS.wrE;rw [ho]
   have e2:s.wrS (ofNat q) 64 bs=s:=by unfold SS.wrS;rw [ho]
   rw [e1,e2]
   exact writeVB_con s q bs ho
 | false=>
   have hd:decide (0<=ofNat q/\ofNat q<ofNat s.n/\64=64)=true:=by simp;omega
   have e1:s.wrE (ofNat q) 64=(s.wrote q bs).payE:=by unfold SS.wrE;rw [ho,hd];exact Eq.refl _
   have e2:s.wrS (ofNat q) 64 bs=(s.wrote q bs).pay:=by unfold SS.wrS;rw [ho,hd];exact Eq.refl _
   rw [e1,e2]
   exact writeV_con s q bs ok ho hq
end Go.Proofs.St
namespace Go.Proofs.Cl
open Go Go.Sim Go.Proofs Go.Proofs.Cd Go.Proofs.St Go.Proofs.YtfpebgpcpoefpaaGreatDoor
structure Byt (s:SS):Prop where
 dur:∀i j,∃n:Nat,n<256/\s.dur i j=ofNat n
 P:∀w∈s.P,∀j,∃n:Nat,n<256/\w.2 j=ofNat n
theorem lbs_mem:∀{P:PW} {k:Nat},lB P k=true->∃w∈P,w.1=k/\lbs P k=w.2
 | [],k,h=>by cases h
 | w :: P,k,h=>by
   have h':(bif Nat.beq k w.1 then true else lB P k)=true:=h
   show ∃w'∈w :: P,w'.1=k/\(bif Nat.beq k w.1 then w.2 else lbs P k)=w'.2
   cases hb:Nat.beq k w.1 with
   | true=>exact ⟨w,List.mem_cons_self,(Nat.eq_of_beq_eq_true hb).symm,rfl⟩
   | false=>
     rw [hb] at h'
     obtain ⟨w',q1,q2,q3⟩:=lbs_mem (P:=P) h'
     exact ⟨w',List.mem_cons_of_mem _ q1,q2,q3⟩
theorem Byt.rd {s:SS} (h:Byt s) (i:Int) (j:Nat):∃n:Nat,n<256/\s.rdB i j=ofNat n:=by
 unfold SS.rdB
 cases hb:lB s.P i.toNat with
 | true=>
   obtain ⟨w,q1,_,q3⟩:=lbs_mem hb
   simp only [q3]
   exact h.P w q1 j
 | false=>exact h.dur i.toNat j
def rdC (s:SS) (i:Int):Nat->Nat:=fun k=>(s.rdB i k).toNat
theorem rdC_eq {s:SS} (h:Byt s) (i:Int) (j:Nat):s.rdB i j=ofNat (rdC s i j):=by
 obtain ⟨n,_,e⟩:=h.rd i j
 unfold rdC;rw [e];exact Eq.refl _
theorem rdC_lt {s:SS} (h:Byt s) (i:Int) (j:Nat):rdC s i j<256:=by
 obtain ⟨n,hn,e⟩:=h.rd i j
 unfold rdC;rw [e];exact hn
theorem readZ_con (s:SS) (i:Int) (hn:s.n<=512):Con Tryz.prog 154 [.p 0 0,.i .i64 i] [some s.o] (.tup [.sv 1 (s.rdN i) fun k _=>.i .u8 (s.rdB i k),.i .i64 (s.rdE i)]) [.keep,.gone]:=
 ((read_con s i hn).freeze (us':=[.keep,.gone]) (v':=.tup [.sv 1 (s.rdN i) (shiftF 0 fun k _=>.i .u8 (s.rdB i k)),.i .i64 (s.rdE i)]) 1 rfl ⟨.refl _,rfl,trivial⟩ (.inr ⟨by kernel_rfl,⟨rfl,by omega⟩,trivial,trivial⟩))
theorem readT_con (s:SS) (i:Int) (hn:s.n<=512) (hb:Byt s) (h:s.rdE i=0):Con Tryz.prog 154 [.p 0 0,.i .i64 i] [some s.o] (.tup [.sv 1 64 (byF (rdC s i)),.i .i64 0]) [.keep,.gone]:=by
 have k:=readZ_con s i hn
 rw [SS.rdN_64 h,h] at k
 exact k.post (.tup ⟨.sv fun a j _ _=>by show CV.i .u8 (s.rdB i a)=CV.i .u8 (ofNat (rdC s i a));rw [rdC_eq hb],.refl _,trivial⟩) (OVL.refl _)
theorem readF_con (s:SS) (i:Int) (hn:s.n<=512) (h:s.rdE i≠0):Con Tryz.prog 154 [.p 0 0,.i .i64 i] [some s.o] (.tup [.sv 1 0 fun _ _=>.p0,.i .i64 (s.rdE i)]) [.keep,.gone]:=by
 have k:=readZ_con s i hn
 rw [SS.rdN_0 h] at k
 exact k.post (.tup ⟨.sv fun a j h0 _=>by omega,.refl _,trivial⟩) (OVL.refl _)
def seeQ (s:SS) (a:Int):Nat:=match decide (s.rdE a=0) with
 | true=>lkQ (rdC s a)
 | false=>0
def seeD (s:SS) (a:Int):List Nat:=match decide (s.rdE a=0) with
 | true=>lkD (rdC s a)
 | false=>[]
theorem lookT_vc (s:SS) (i w:Int) (K:Res->Orc->Prop):runK Tryz.prog 1000000 (.call 129 [.p 0 0,.i .i64 i,.i .i64 w] (mkH [some s.o])) (.inl (.cal [0] (.tup [.sv 1 64 (byF (rdC s (i*2+w))),.i .i64 0]) [.keep,.gone] (.cal [] (.agg [.i .i64 (ofNat (lkQ (rdC s (i*2+w)))),.s (lkD (rdC s (i*2+w)))]) [] .z))) K=((fun (q0:AV)=>(rg (i*2)/\rg (i*2+w)/\Con Tryz.prog 154 [.p 0 0,.i .i64 (i*2+w)] [some (SS.o s)] (.tup [.sv 1 64 (byF (rdC s (i*2+w))),.i .i64 0]) [.keep,.gone]/\Con Tryz.prog 156 [.sv 1 64 (byF (rdC s (i*2+w)))] [] q0 []/\K (.rv q0 ⟨zz1 (SS.o s) (zzl (AObj.cells 90 2 [.i .i64 0,.s []] (zz1 (inv (lkQ (rdC s (i*2+w)))) (zzl (.s (lkD (rdC s (i*2+w))))) .e))) (zz0 .e .e),3,[1,2,1]⟩) .z)) (.agg [.i .i64 (ofNat (lkQ (rdC s (i*2+w)))),.s (lkD (rdC s (i*2+w)))])):=by kernel_rfl
theorem lookF_vc (s:SS) (i w:Int) (K:Res->Orc->Prop):runK Tryz.prog 1000000 (.call 129 [.p 0 0,.i .i64 i,.i .i64 w] (mkH [some s.o])) (.inl (.cal [0] (.tup [.sv 1 0 fun x x_1=>CV.p0,.i .i64 (SS.rdE s (i*2+w))]) [.keep,.gone] (.cal [] (.agg [.i .i64 0,.s []]) [] .z))) K=(rg (i*2)/\rg (i*2+w)/\Con Tryz.prog 154 [.p 0 0,.i .i64 (i*2+w)] [some (SS.o s)] (.tup [.sv 1 0 fun x x_1=>CV.p0,.i .i64 (SS.rdE s (i*2+w))]) [.keep,.gone]/\Con Tryz.prog 156 [.sv 1 0 fun x x_1=>CV.p0] [] (.agg [.i .i64 0,.s []]) []/\K (.rv (.agg [.i .i64 0,.s []]) ⟨zz1 (SS.o s) (zzl (AObj.cells 90 2 [.i .i64 0,.s []] (zz1 (.i .i64 0) (zzl (.s [])) .e))) (zz0 .e .e),3,[1,2,1]⟩) .z):=by kernel_rfl
theorem look_con (s:SS) (i w:Int) (hn:s.n<=512) (hb:Byt s) (hi:0<=i/\i<256) (hw:0<=w/\w<=1) :
 Con Tryz.prog 129 [.p 0 0,.i .i64 i,.i .i64 w] [some s.o] (.agg [.i .i64 (ofNat (seeQ s (i*2+w))),.s (seeD s (i*2+w))]) [.keep]:=by
 by_cases h:s.rdE (i*2+w)=0
 · have e1:seeQ s (i*2+w)=lkQ (rdC s (i*2+w)):=by unfold seeQ;rw [decide_eq_true h]
   have e2:seeD s (i*2+w)=lkD (rdC s (i*2+w)):=by unfold seeD;rw [decide_eq_true h]
   rw [e1,e2]
   exact con_of_run [] [] ((lookT_vc s i w _).mpr ⟨by omega,by omega,readT_con s _ hn hb h,standing64_con _ fun k _=>rdC_lt hb _ k,_,_,rfl,ret_k (by kernel_rfl)⟩)
 · have e1:seeQ s (i*2+w)=0:=by unfold seeQ;rw [decide_eq_false h]
   have e2:seeD s (i*2+w)=[]:=by unfold seeD;rw [decide_eq_false h]
   rw [e1,e2]
   exact con_of_run [] [] ((lookF_vc s i w _).mpr ⟨by omega,by omega,readF_con s _ hn h,standing0_con _,_,_,rfl,ret_k (by kernel_rfl)⟩)
structure OkM (s:SS) (m:Nat):Prop where
 n:s.n<=512
 P:s.P.length<=m
 wr:s.wr<=m
 left:s.left<9223372036854775808
 at_:∀w∈s.P,w.1<s.n
theorem OkM.ok {s:SS} {m:Nat} (h:OkM s m) (hm:m<1073741824):s.Ok:=⟨h.n,by have:=h.P;omega,by have:=h.wr;omega,h.left,h.at_⟩
theorem OkM.mono {s:SS} {m k:Nat} (h:OkM s m) (hm:m<=k):OkM s k:=⟨h.n,by have:=h.P;omega,by have:=h.wr;omega,h.left,h.at_⟩
theorem wrS_off {s:SS} (ho:s.off=true) (a:Int) (bs:Nat->Int):s.wrS a 64 bs=s:=by unfold SS.wrS;rw [ho]
theorem wrS_on {s:SS} {q:Nat} (ho:s.off=false) (hq:q<s.n) (bs:Nat->Int):s.wrS (ofNat q) 64 bs=(s.wrote q bs).pay:=by
 have hd:decide (0<=ofNat q/\ofNat q<ofNat s.n/\64=64)=true:=by simp;omega
 unfold SS.wrS;rw [ho,hd];exact Eq.refl _
theorem pay_or (s:SS):s.pay=s\/s.pay={ s with off:=true,armed:=false}\/s.pay={ s with left:=s.left-1}:=by
 unfold SS.pay
 cases s.armed with
 | false=>exact .inl rfl
 | true=>
   cases Nat.beq s.left 0 with
   | true=>exact .inr (.inl rfl)
   | false=>exact .inr (.inr rfl)
theorem OkM.wrS {s:SS} {m q:Nat} (h:OkM s m) (hq:q<s.n) (bs:Nat->Int):OkM (s.wrS (ofNat q) 64 bs) (m+1):=by
 cases ho:s.off with
 | true=>rw [wrS_off ho];exact h.mono (Nat.le_succ m)
 | false=>
   rw [wrS_on ho hq]
   have base:OkM (s.wrote q bs) (m+1):=⟨h.n,by have:=h.P;show (s.P.length+1)<=_;omega,by have:=h.wr;show s.wr+1<=_;omega,h.left,fun w hw=>by
    rcases List.mem_cons.1 hw with rfl | hw
    · exact hq
    · exact h.at_ w hw⟩
   rcases pay_or (s.wrote q bs) with e | e | e<;>rw [e]
   · exact base
   · exact ⟨base.n,base.P,base.wr,base.left,base.at_⟩
   · exact ⟨base.n,base.P,base.wr,by have:=base.left;show (s.wrote q bs).left-1<_;omega,base.at_⟩
theorem Byt.wrS {s:SS} {q:Nat} {bs:Nat->Int} (h:Byt s) (hq:q<s.n) (hb:∀j,∃n:Nat,n<256/\bs j=ofNat n):Byt (s.wrS (ofNat q) 64 bs):=by
 cases ho:s.off with
 | true=>rw [wrS_off ho];exact h
 | false=>
   rw [wrS_on ho hq]
   have base:Byt (s.wrote q bs):=⟨h.dur,fun w hw j=>by
    rcases List.mem_cons.1 hw with rfl | hw
    · exact hb j
    · exact h.P w hw j⟩
   rcases pay_or (s.wrote q bs) with e | e | e<;>rw [e]
   · exact base
   · exact ⟨base.dur,base.P⟩
   · exact ⟨base.dur,base.P⟩
theorem durL_byt {dur:Nat->Nat->Int} (h:∀i j,∃n:Nat,n<256/\dur i j=ofNat n):∀(P:PW),(∀w∈P,∀j,∃n:Nat,n<256/\w.2 j=ofNat n)->∀i j,∃n:Nat,n<256/\durL dur P i j=ofNat n
 | [],_,i,j=>h i j
 | w :: P,hP,i,j=>by
   have ih:=durL_byt h P (fun w hw=>hP w (List.mem_cons_of_mem _ hw)) i j
   have hw:=hP w List.mem_cons_self j
   first
   | (show ∃n:Nat,n<256/\(bif Nat.beq i w.1 then w.2 else durL dur P i) j=ofNat n
      cases Nat.beq i w.1
      · exact ih
      · exact hw)
   | (show ∃n:Nat,n<256/\durL (fun k=>bif Nat.beq k w.1 then w.2 else dur k) P i j=ofNat n
      exact durL_byt (fun i j=>by
       show ∃n:Nat,n<256/\(bif Nat.beq i w.1 then w.2 else dur i) j=ofNat n
       cases Nat.beq i w.1
       · exact h i j
       · exact hP w List.mem_cons_self j) P (fun w hw=>hP w (List.mem_cons_of_mem _ hw)) i j)
theorem Byt.flush {s:SS} (h:Byt s) (m:Nat):Byt (s.flush m):=
 ⟨durL_byt h.dur _ fun w hw=>h.P w (List.mem_of_mem_drop hw),fun w hw=>by cases hw⟩
theorem Byt.bar {s:SS} (h:Byt s):Byt s.bar:=by
 unfold SS.bar
 split
 · exact h
 · exact h.flush _
theorem OkM.bar {s:SS} {m:Nat} (h:OkM s m):OkM s.bar m:=by
 unfold SS.bar
 split
 · exact h
 · exact ⟨h.n,Nat.zero_le _,h.wr,h.left,fun w hw=>by cases hw⟩
def wrote (s:SS) (a q:Int) (d:List Nat):SS:=s.wrS a 64 fun k=>ofNat (sectB q.toNat d k)
def cmE (s:SS) (a q:Int) (d:List Nat):Int:=match decide (s.wrE a 64=0) with
 | true=>(wrote s a q d).faultE
 | false=>s.wrE a 64
def cmS (s:SS) (a q:Int) (d:List Nat):SS:=match decide (s.wrE a 64=0) with
 | true=>(wrote s a q d).bar
 | false=>wrote s a q d
theorem commit_vc (s:SS) (i q:Int) (d:List Nat) (K:Res->Orc->Prop):runK Tryz.prog 1000000 (.call 158 [.p 0 0,.i .i64 i,.agg [.i .i64 q,.s d]] (mkH [some s.o])) (Orc.cal [] (AV.sv 1 64 (byF (sectB (Int.toNat q) d))) [] (Orc.cal [0] (AV.i .i64 (SS.wrE s i 64)) [Upd.set (SS.o (SS.wrS s i 64 fun k=>ofNat (sectB (Int.toNat q) d k)))] (Orc.s Orc.z (Orc.cal [0] (AV.i .i64 (SS.faultE (SS.wrS s i 64 fun k=>ofNat (sectB (Int.toNat q) d k)))) [Upd.set (SS.o (SS.bar (SS.wrS s i 64 fun k=>ofNat (sectB (Int.toNat q) d k))))] Orc.z)))) K=(Con Tryz.prog 176 [AV.agg [AV.i .i64 q,AV.s d]] [] (AV.sv 1 64 (byF (sectB (Int.toNat q) d))) []/\Con Tryz.prog 175 [AV.p 0 0,AV.i .i64 i,AV.sv 1 64 (byF (sectB (Int.toNat q) d))] [some (SS.o s)] (AV.i .i64 (SS.wrE s i 64)) [Upd.set (SS.o (SS.wrS s i 64 fun k=>ofNat (sectB (Int.toNat q) d k)))]/\((!decide (SS.wrE s i 64=0))
 =true->K (Res.rv (AV.i .i64 (SS.wrE s i 64)) ⟨T.n (some (SS.o (SS.wrS s i 64 fun k=>ofNat (sectB (Int.toNat q) d k)))) (T.n (some (AObj.cells 90 2 [] (T.n (some (AV.i .i64 q)) (T.n (some (AV.s d)) T.e T.e) T.e))) T.e T.e) T.e,2,[0,1]⟩) Orc.z)/\((!decide (SS.wrE s i 64=0))=false->Con Tryz.prog 177 [AV.p 0 0] [some (SS.o (SS.wrS s i 64 fun k=>ofNat (sectB (Int.toNat q) d k)))] (AV.i .i64 (SS.faultE (SS.wrS s i 64 fun k=>ofNat (sectB (Int.toNat q) d k)))) [Upd.set (SS.o (SS.bar (SS.wrS s i 64 fun k=>ofNat (sectB (Int.toNat q) d k))))]/\K (Res.rv (AV.i .i64 (SS.faultE (SS.wrS s i 64 fun k=>ofNat (sectB (Int.toNat q) d k)))) ⟨T.n (some (SS.o (SS.bar (SS.wrS s i 64 fun k=>ofNat (sectB (Int.toNat q) d k))))) (T.n (some (AObj.cells 90 2 [] (T.n (some (AV.i .i64 q)) (T.n (some (AV.s d)) T.e T.e) T.e))) T.e T.e) T.e,2,[0,0,1]⟩) Orc.z)):=by
 kernel_rfl
theorem commit_con (s:SS) (a q m:Nat) (d:List Nat) (ok:OkM s m) (hm:m<1073741823) (ha:a<s.n) (hd:∀x∈d,x<256) (hl:d.length<=51) :
 Con Tryz.prog 158 [.p 0 0,.i .i64 (ofNat a),.agg [.i .i64 (ofNat q),.s d]] [some s.o] (.i .i64 (cmE s (ofNat a) (ofNat q) d)) [.set (cmS s (ofNat a) (ofNat q) d).o]:=by
 have ok1:=ok.wrS ha (fun k=>ofNat (sectB q d k))
 have k1:Con Tryz.prog 175 [.p 0 0,.i .i64 (ofNat a),.sv 1 64 (byF (sectB q d))] [some s.o] (.i .i64 (s.wrE (ofNat a) 64)) [.set (s.wrS (ofNat a) 64 fun k=>ofNat (sectB q d k)).o]:=
  writeW_con s a (fun k=>ofNat (sectB q d k)) (ok.ok (by omega)) ha
 have k2:=barrier_con (s.wrS (ofNat a) 64 fun k=>ofNat (sectB q d k)) (by have:=ok1.P;omega) (fun w hw=>by have:=ok1.at_ w hw;have:=ok1.n;omega)
 by_cases h:s.wrE (ofNat a) 64=0
 · have e1:cmE s (ofNat a) (ofNat q) d=(s.wrS (ofNat a) 64 fun k=>ofNat (sectB q d k)).faultE:=by unfold cmE;rw [decide_eq_true h];exact Eq.refl _
   have e2:cmS s (ofNat a) (ofNat q) d=(s.wrS (ofNat a) 64 fun k=>ofNat (sectB q d k)).bar:=by unfold cmS;rw [decide_eq_true h];exact Eq.refl _
   rw [e1,e2]
   refine con_of_run [] [] ((commit_vc s (ofNat a) (ofNat q) d _).mpr ⟨sector_con q d hd hl,k1,fun h'=>?_,fun _=>⟨k2,_,_,rfl,ret_k (by kernel_rfl)⟩⟩)
   rw [h] at h';cases h'
 · have e1:cmE s (ofNat a) (ofNat q) d=s.wrE (ofNat a) 64:=by unfold cmE;rw [decide_eq_false h]
   have e2:cmS s (ofNat a) (ofNat q) d=s.wrS (ofNat a) 64 fun k=>ofNat (sectB q d k):=by unfold cmS;rw [decide_eq_false h];exact Eq.refl _
   rw [e1,e2]
   refine con_of_run [] [] ((commit_vc s (ofNat a) (ofNat q) d _).mpr ⟨sector_con q d hd hl,k1,fun _=>⟨_,_,rfl,ret_k (by kernel_rfl)⟩,fun h'=>?_⟩)
   rw [decide_eq_false h] at h';cases h'
end Go.Proofs.Cl
