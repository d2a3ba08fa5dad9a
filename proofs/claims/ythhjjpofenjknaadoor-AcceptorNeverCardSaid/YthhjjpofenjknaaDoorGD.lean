/- Runs over unknown values, told by the kernel: part GD. -/
import Derived.Test.YthhjjpofenjknaaDoorGC
noncomputable section
open Int (ofNat)
set_option linter.unusedSimpArgs false
set_option linter.unusedVariables false
set_option maxRecDepth 20000
namespace Go.Proofs.Jn
open Go Go.Sim Go.Proofs Go.Proofs.Cd Go.Proofs.St Go.Proofs.Cl Go.Proofs.YthhjjpofenjknaaDoor
def rcT0 (n gen num:Nat) (G N I P L:Nat->Nat) (D:Nat->Nat->Nat):List (Nat×AV):=
 [(1,.i .i64 (ofNat gen)),(2,.i .i64 (ofNat num)),(8,.i .i64 (ofNat n)),(9,.l0),(30,.sv 5 n (ptF G N I P L D)),(31,.i .i64 (ofNat n)),(32,.i .i64 0)]
theorem recE_vc (Q:Nat) (FF:Nat->Nat) (k gen num:Nat) (G N I P L:Nat->Nat) (D:Nat->Nat->Nat) (h0:decide (ofNat k=0)=false) (h1:decide (ofNat k<ofNat (P 0))=false) (K:Res->Orc->Prop):runK PG 1000000 (.call 42 [.sv 5 k (ptF G N I P L D),inv gen,inv num] (mkH [])) (ot 7 (.f (.f (.lop [] [1,2,8,9,30,31,32] 0 (.exit 0) [(8,.i .i64 (ofNat (P 0))),(9,.lr 0 1 0 Q false)] [some (.rows 5 1 Q (byF FF))] .z)))) K=((fun (q0:Bool)=>(r2 (q0=true) (((0:Int)<=(0:Int)/\(0:Int)<↑k)/\q0=true/\True/\q0=true/\True/\r3 (q0=true) (decide (ofNat k=0)=false/\decide (ofNat k<ofNat (P 0))=false/\((0:Int)<=(0:Int)/\(0:Int)<↑k)/\True/\True/\(True/\0<=ofNat (P 0)/\0<=P 0/\P 0<=k)/\LDoes PG (loopAt PG 42 0) 66 0 (mkT (rcT0 (P 0) gen num G N I P L D)) [] (.exit 0) (mkT [(8,.i .i64 (ofNat (P 0))),(9,.lr 0 1 0 Q false)]) [some (.rows 5 1 Q (byF FF))]/\K (.rv (.tup [.lr 0 1 0 Q false,inv (P 0)]) ⟨zzl (AObj.rows 5 1 Q (byF FF)),1,[0]⟩) .z)))) (!decide (ofNat k=0))):=by kernel_rfl
theorem recF_vc (k gen num:Nat) (G N I P L:Nat->Nat) (D:Nat->Nat->Nat) (h0:decide (ofNat k=0)=false) (h1:decide (ofNat k<ofNat (P 0))=false) (K:Res->Orc->Prop):runK PG 1000000 (.call 42 [.sv 5 k (ptF G N I P L D),inv gen,inv num] (mkH [])) (ot 7 (.f (.f (.lop [] [1,2,8,9,30,31,32] 0 .ret [(6,.l0),(7,.i .i64 0)] [] .z)))) K=((fun (q0:Bool)=>(r2 (q0=true) (((0:Int)<=(0:Int)/\(0:Int)<↑k)/\q0=true/\True/\q0=true/\True/\r3 (q0=true) (decide (ofNat k=0)=false/\decide (ofNat k<ofNat (P 0))=false/\((0:Int)<=(0:Int)/\(0:Int)<↑k)/\True/\True/\(True/\0<=ofNat (P 0)/\0<=P 0/\P 0<=k)/\LDoes PG (loopAt PG 42 0) 66 0 (mkT (rcT0 (P 0) gen num G N I P L D)) [] .ret (mkT [(6,.l0),(7,.i .i64 0)]) []/\K (.rv (.tup [.l0,.i .i64 0]) ⟨.e,0,[]⟩) .z)))) (!decide (ofNat k=0))):=by kernel_rfl
theorem recG_vc (k gen num:Nat) (G N I P L:Nat->Nat) (D:Nat->Nat->Nat) (h0:decide (ofNat k=0)=false) (h1:decide (ofNat k<ofNat (P 0))=true) (K:Res->Orc->Prop):runK PG 1000000 (.call 42 [.sv 5 k (ptF G N I P L D),inv gen,inv num] (mkH [])) (ot 7 (.f (.t .z))) K=((fun (q0:Bool)=>(r2 (q0=true) (((0:Int)<=(0:Int)/\(0:Int)<↑k)/\q0=true/\True/\q0=true/\True/\r3 (q0=true) (decide (ofNat k=0)=false/\decide (ofNat k<ofNat (P 0))=true/\K (.rv (.tup [.l0,.i .i64 0]) ⟨.e,0,[]⟩) .z)))) (!decide (ofNat k=0))):=by kernel_rfl
theorem recH_vc (gen num:Nat) (G N I P L:Nat->Nat) (D:Nat->Nat->Nat) (K:Res->Orc->Prop):runK PG 1000000 (.call 42 [.sv 5 0 (ptF G N I P L D),inv gen,inv num] (mkH [])) (oc 9 .z) K=(K (.rv (.tup [.l0,.i .i64 0]) ⟨.e,0,[]⟩) .z):=by kernel_rfl
theorem rcE_lp (n gen num:Nat) (G N I P L:Nat->Nat) (D:Nat->Nat->Nat) (hn:n<=60) (hL:∀i,L i<=47) (ok:∀i,i<n->RcOk n gen num G N I P i) :
 LDoes PG (loopAt PG 42 0) 66 0 (mkT (rcT0 n gen num G N I P L D)) [] (.exit 0) (mkT [(8,.i .i64 (ofNat n)),(9,.lr 0 1 0 (cl L n) false)]) [some (.rows 5 1 (cl L n) (byF (cb L D n)))]:=
 (rc_lp n gen num G N I P L D (fun _=>0) hn hL ok).weak ⟨rfl,.inl rfl,rfl,.inl rfl,rfl,.inl rfl,rfl,.inr ⟨rfl,.inl ⟨0,1,0,false,rfl⟩⟩,rfl,.inl rfl,rfl,.inl rfl,rfl,.inl rfl,trivial⟩ (by intro o ho;simp at ho;subst ho;exact ⟨_,rfl,rfl⟩)
theorem rcF_lp (n gen num m:Nat) (G N I P L:Nat->Nat) (D:Nat->Nat->Nat) (hn:n<=60) (hL:∀i,L i<=47) (hm:m<n) (bad:¬RcOk n gen num G N I P m) (ok:∀i,i<m->RcOk n gen num G N I P i) :
 LDoes PG (loopAt PG 42 0) 66 0 (mkT (rcT0 n gen num G N I P L D)) [] .ret (mkT [(6,.l0),(7,.i .i64 0)]) []:=
 (rcBad_lp n gen num m G N I P L D (fun _=>0) hn hL hm bad ok).weak ⟨rfl,.inl rfl,rfl,.inl rfl,rfl,.inl rfl,rfl,.inr ⟨rfl,.inl ⟨0,1,0,false,rfl⟩⟩,rfl,.inl rfl,rfl,.inl rfl,rfl,.inl rfl,trivial⟩ (by intro o ho;simp at ho;subst ho;exact ⟨_,rfl,rfl⟩)
theorem recOk_con (k gen num:Nat) (G N I P L:Nat->Nat) (D:Nat->Nat->Nat) (hk:0<k) (hp:P 0<=k) (h60:k<=60) (hL:∀i,L i<=47) (ok:∀i,i<P 0->RcOk (P 0) gen num G N I P i) :
 Con PG 42 [.sv 5 k (ptF G N I P L D),.i .i64 (ofNat gen),.i .i64 (ofNat num)] [] (.tup [.sv 1 (cl L (P 0)) (byF (cb L D (P 0))),.i .i64 (ofNat (P 0))]) [.gone]:=by
 have h0:decide (ofNat k=0)=false:=by simp;omega
 have h1:decide (ofNat k<ofNat (P 0))=false:=by simp;omega
 have z:(0:Int)<=0/\(0:Int)<↑k:=⟨by decide,by omega⟩
 have z2:True/\0<=ofNat (P 0)/\0<=P 0/\P 0<=k:=⟨trivial,by simp,Nat.zero_le _,hp⟩
 have w:=rcE_lp (P 0) gen num G N I P L D (by omega) hL ok
 have k0:Con PG 42 [.sv 5 k (ptF G N I P L D),.i .i64 (ofNat gen),.i .i64 (ofNat num)] [] (.tup [.lr 0 1 0 (cl L (P 0)) false,.i .i64 (ofNat (P 0))]) [.set (.rows 5 1 (cl L (P 0)) (byF (cb L D (P 0))))]:=
  con_of_run [] [0] ((recE_vc (cl L (P 0)) (cb L D (P 0)) k gen num G N I P L D h0 h1 _).mpr ⟨nt h0,nt h0,z,nt h0,trivial,nt h0,trivial,nt h0,nt h0,nt h0,h0,h1,z,trivial,trivial,z2,w,_,_,rfl,ret_k (by kernel_rfl)⟩)
 exact (k0.freeze (us':=[.gone]) (v':=.tup [.sv 1 (cl L (P 0)) (shiftF 0 (byF (cb L D (P 0)))),.i .i64 (ofNat (P 0))]) 0 rfl ⟨rfl,trivial⟩ (.inr ⟨by kernel_rfl,⟨rfl,by omega⟩,trivial,trivial⟩))
theorem recNo_con (k gen num m:Nat) (G N I P L:Nat->Nat) (D:Nat->Nat->Nat) (h60:k<=60) (hL:∀i,L i<=47) (no:k=0\/k<P 0\/(m<P 0/\¬RcOk (P 0) gen num G N I P m/\∀i,i<m->RcOk (P 0) gen num G N I P i)) :
 Con PG 42 [.sv 5 k (ptF G N I P L D),.i .i64 (ofNat gen),.i .i64 (ofNat num)] [] (.tup [.l0,.i .i64 0]) []:=by
 by_cases hk:k=0
 · subst hk
   exact con_of_run [] [] ((recH_vc gen num G N I P L D _).mpr ⟨_,_,rfl,ret_k (by kernel_rfl)⟩)
 have h0:decide (ofNat k=0)=false:=by simp;omega
 have z:(0:Int)<=0/\(0:Int)<↑k:=⟨by decide,by omega⟩
 by_cases hp:k<P 0
 · have h1:decide (ofNat k<ofNat (P 0))=true:=by simp;omega
   exact con_of_run [] [] ((recG_vc k gen num G N I P L D h0 h1 _).mpr ⟨nt h0,nt h0,z,nt h0,trivial,nt h0,trivial,nt h0,nt h0,nt h0,h0,h1,_,_,rfl,ret_k (by kernel_rfl)⟩)
 rcases no with h | h | ⟨hm,bad,ok⟩
 · exact absurd h hk
 · exact absurd h hp
 have h1:decide (ofNat k<ofNat (P 0))=false:=by simp;omega
 have z2:True/\0<=ofNat (P 0)/\0<=P 0/\P 0<=k:=⟨trivial,by simp,Nat.zero_le _,by omega⟩
 have w:=rcF_lp (P 0) gen num m G N I P L D (by omega) hL hm bad ok
 exact con_of_run [] [] ((recF_vc k gen num G N I P L D h0 h1 _).mpr ⟨nt h0,nt h0,z,nt h0,trivial,nt h0,trivial,nt h0,nt h0,nt h0,h0,h1,z,trivial,trivial,z2,w,_,_,rfl,ret_k (by kernel_rfl)⟩)
theorem jnR_vc (Q:Nat) (FF:Nat->Nat) (N2 gen r u:Nat) (F:Nat->Nat->CV) (m:Nat->Nat) (b:Nat->Nat->Nat) (h0:decide (ofNat N2=0)=false) (K:Res->Orc->Prop):runK PG 1000000 (.code (loopAt PG 32 0) 31 (mkT [(0,.sv 5 60 F),(1,.i .i64 (ofNat gen)),(6,.lr 0 1 0 r false),(7,.i .i64 (ofNat u))]) (mkH [some (.rows 87 1 r (recF m b))])) (.cal [] (.tup [.sv 1 Q (byF FF),inv N2]) [.gone] (.f .z)) K=((fun (q1:Int)=>((fun (q0:AV)=>((0<=ofNat u/\True/\u<=60/\60<=60)/\Con PG 42 [.sv 5 (60-u) (shiftF u F),inv gen,inv r] [] q0 [.gone]/\decide (ofNat N2=0)=false/\(0+r<=r/\True/\r+1<=140737488355328/\(3*(r+1)+1536)*24<=562949953421312)/\rg q1/\K (.st .nrm (zz1 (.sv 5 60 F) (zz1 (inv gen) (zz0 (zz1 (.i .i64 q1) (zzl (.lr 0 1 0 r false)) .e) (zz1 (.sv 5 60 F) (zzn N2) (zzl (.lr 3 1 0 (addN r 1) false)))) (zz0 (zz1 (inv N2) (zzl q0) (zzl (.sv 1 Q (byF FF)))) (zz1 (.sv 5 (60-u) (shiftF u F)) (zzl (.b (decide (ofNat N2=0)))) (zzn N2)))) (zz0 (zz0 (zz1 (.sv 1 Q (byF FF)) (zzn r) (zzl (.lr 0 1 0 r false))) (zz1 (inv u) (zzn N2) (zzn u))) (zz1 (.lr 3 1 0 (addN r 1) false) (zz1 q0 (zzl (.sv 1 Q (byF FF))) (zzl (.l 2 0 1 1 1 true))) (zz1 (inv gen) .e (zzl (.i .i64 q1)))))) ⟨zz0 (zz0 (zzl (AObj.rows 87 1 (addN r 1) (appZ r (fun i x=>CV.sv 1 (m i) (byF (b i))) fun x j=>List.getD [CV.sv 1 Q (byF FF)] j CV.p0))) .e) (zzl (AObj.cells 87 1 [] (zzl (.sv 1 Q (byF FF))))),4,[3,0,2,1]⟩) .z)) (.tup
 [.sv 1 Q (byF FF),inv N2]))) (ofNat u+ofNat N2)):=by kernel_rfl
theorem jnN_vc (gen r u:Nat) (F:Nat->Nat->CV) (m:Nat->Nat) (b:Nat->Nat->Nat) (K:Res->Orc->Prop):runK PG 1000000 (.code (loopAt PG 32 0) 31 (mkT [(0,.sv 5 60 F),(1,.i .i64 (ofNat gen)),(6,.lr 0 1 0 r false),(7,.i .i64 (ofNat u))]) (mkH [some (.rows 87 1 r (recF m b))])) (.cal [] (.tup [.l0,.i .i64 0]) [] (.c .z)) K=((fun (q0:AV)=>((0<=ofNat u/\True/\u<=60/\60<=60)/\Con PG 42 [.sv 5 (60-u) (shiftF u F),inv gen,inv r] [] q0 []/\K (.st .ret (zz1 (.sv 5 60 F) (zz1 (inv gen) (zz0 (zz1 (inv u) (zzl (.lr 0 1 0 r false)) (zzn u)) (zz1 (.sv 5 60 F) (zzl (.i .i64 0)) .e)) (zz1 (inv u) (zz1 (.i .i64 0) (zzl q0) .e) (zz1 (.sv 5 (60-u) (shiftF u F)) zzb .e))) (zz0 (zz1 (.lr 0 1 0 r false) (zz1 .l0 (zzn r) .e) (zz1 (inv u) (zzl (.i .i64 0)) .e)) (zz1 (.lr 0 1 0 r false) (zz1 q0 (zzl .l0) .e) (zz1 (inv gen) (zzl (.lr 0 1 0 r false)) .e)))) ⟨zzl (AObj.rows 87 1 r (recF m b)),1,[]⟩) .z)) (.tup [.l0,.i .i64 0])):=by kernel_rfl
theorem jnZ_vc (Q:Nat) (FF:Nat->Nat) (N2 gen r u:Nat) (F:Nat->Nat->CV) (m:Nat->Nat) (b:Nat->Nat->Nat) (h0:decide (ofNat N2=0)=true) (K:Res->Orc->Prop):runK PG 1000000 (.code (loopAt PG 32 0) 31 (mkT [(0,.sv 5 60 F),(1,.i .i64 (ofNat gen)),(6,.lr 0 1 0 r false),(7,.i .i64 (ofNat u))]) (mkH [some (.rows 87 1 r (recF m b))])) (.cal [] (.tup [.sv 1 Q (byF FF),inv N2]) [.gone] (.t .z)) K=((fun (q0:AV)=>((0<=ofNat u/\True/\u<=60/\60<=60)/\Con PG 42 [.sv 5 (60-u) (shiftF u F),inv gen,inv r] [] q0 [.gone]/\decide (ofNat N2=0)=true/\K (.st .ret (zz1 (.sv 5 60 F) (zz1 (inv gen) (zz0 (zz1 (inv u) (zzl (.lr 0 1 0 r false)) (zzn u)) (zz1 (.sv 5 60 F) (zzn N2) .e)) (zz1 (inv u) (zz1 (inv N2) (zzl q0) .e) (zz1 (.sv 5 (60-u) (shiftF u F)) (zzl (.b (decide (ofNat N2=0)))) .e))) (zz0 (zz1 (.lr 0 1 0 r false) (zz1 (.sv 1 Q (byF FF)) (zzn r) .e) (zz1 (inv u) (zzn N2) .e)) (zz1 (.lr 0 1 0 r false) (zz1 q0 (zzl (.sv 1 Q (byF FF))) .e) (zz1 (inv gen) (zzl (.lr 0 1 0 r false)) .e)))) ⟨zz1 (AObj.rows 87 1 r (recF m b)) (zz0 .e .e) .e,2,[1]⟩) .z)) (.tup [.sv 1 Q (byF FF),inv N2])):=by kernel_rfl
theorem join_vc (R U:Nat) (M:Nat->Nat) (B:Nat->Nat->Nat) (gen:Nat) (F:Nat->Nat->CV) (K:Res->Orc->Prop):runK PG 1000000 (.call 32 [.sv 5 60 F,inv gen] (mkH [])) (.lop [] [0,1,6,7] 0 .ret [(4,.lr 0 1 0 R false),(5,.i .i64 (ofNat U))] [some (.rows 87 1 R (recF M B))] .z) K=(LDoes PG (loopAt PG 32 0) 31 0 (mkT [(0,.sv 5 60 F),(1,.i .i64 (ofNat gen)),(6,.l0),(7,.i .i64 0)]) [] .ret (mkT [(4,.lr 0 1 0 R false),(5,.i .i64 (ofNat U))]) [some (.rows 87 1 R (recF M B))]/\K (.rv (.tup [.lr 0 1 0 R false,inv U]) ⟨zzl (AObj.rows 87 1 R (recF M B)),1,[0]⟩) .z):=by kernel_rfl
theorem appZ_CW (n:Nat) (f g:Nat->Nat->CV) (i j:Nat):CW (appZ n f g i j) (bif Nat.blt i n then f i j else g (i-n) j):=by
 cases n with
 | zero=>exact .of (Eq.refl _)
 | succ n=>exact zipCV_CW _ _ _
def jU (P:Nat->Nat):Nat->Nat
 | 0=>0
 | r+1=>jU P r+P (jU P r)
structure StAt (gen:Nat) (G N I P:Nat->Nat) (u r:Nat):Prop where
 fit:P u<=60-u
 pos:1<=P u
 ok:∀i,i<P u->RcOk (P u) gen r (fun i=>G (u+i)) (fun i=>N (u+i)) (fun i=>I (u+i)) (fun i=>P (u+i)) i
def jm (P L:Nat->Nat) (r:Nat):Nat:=cl (fun i=>L (jU P r+i)) (P (jU P r))
def jb (P L:Nat->Nat) (D:Nat->Nat->Nat) (r:Nat):Nat->Nat:=cb (fun i=>L (jU P r+i)) (fun i=>D (jU P r+i)) (P (jU P r))
theorem jU_le {gen:Nat} {G N I P:Nat->Nat}:∀(c:Nat),(∀r,r<c->StAt gen G N I P (jU P r) r)->jU P c<=60/\c<=jU P c
 | 0,_=>⟨Nat.zero_le _,Nat.le_refl _⟩
 | c+1,h=>by
   have ih:=jU_le c fun r hr=>h r (by omega)
   have hs:=h c (by omega)
   have h1:=hs.fit
   have h2:=hs.pos
   show jU P c+P (jU P c)<=60/\c+1<=jU P c+P (jU P c)
   omega
theorem jn_lp (gen c:Nat) (G N I P L:Nat->Nat) (D:Nat->Nat->Nat) (hL:∀i,L i<=47) (m0:Nat->Nat) (b0:Nat->Nat->Nat) (st:∀r,r<c->StAt gen G N I P (jU P r) r) (no:¬StAt gen G N I P (jU P c) c) :
 LDoes PG (loopAt PG 32 0) 31 0 (mkT [(0,.sv 5 60 (ptF G N I P L D)),(1,.i .i64 (ofNat gen)),(6,.lr 0 1 0 0 false),(7,.i .i64 0)]) [some (.rows 87 1 0 (recF m0 b0))] .ret (mkT [(4,.lr 0 1 0 c false),(5,.i .i64 (ofNat (jU P c)))]) [some (.rows 87 1 c (recF (jm P L) (jb P L D)))]:=by
 refine loop_indV (D:=Nat×(Nat->Nat)×(Nat->Nat->Nat)) (l':=[(4,.lr 0 1 0 c false),(5,.i .i64 (ofNat (jU P c)))]) (fun d=>([(0,.sv 5 60 (ptF G N I P L D)),(1,.i .i64 (ofNat gen)),(6,.lr 0 1 0 d.1 false),(7,.i .i64 (ofNat (jU P d.1)))],[some (.rows 87 1 d.1 (recF d.2.1 d.2.2))])) (fun d=>c-d.1)
  (fun d=>d.1<=c/\∀t,t<d.1->d.2.1 t=jm P L t/\d.2.2 t=jb P L D t) ?_ (0,m0,b0) ⟨Nat.zero_le _,fun t ht=>absurd ht (Nat.not_lt_zero _)⟩
 rintro ⟨r,m,b⟩ ⟨hr,h1⟩
 simp only at hr h1
 have hu:=jU_le r fun t ht=>st t (by omega)
 have r0:0<=ofNat (jU P r)/\True/\jU P r<=60/\60<=60:=⟨by simp,trivial,hu.1,Nat.le_refl _⟩
 have hs:=ptF_shift G N I P L D (jU P r)
 by_cases hlt:r<c
 · obtain ⟨a1,a2,a3⟩:=st r hlt
   have h0:decide (ofNat (P (jU P r))=0)=false:=by simp;omega
   have w:=recOk_con (60-jU P r) gen r (fun i=>G (jU P r+i)) (fun i=>N (jU P r+i)) (fun i=>I (jU P r+i)) (fun i=>P (jU P r+i)) (fun i=>L (jU P r+i)) (fun i=>D (jU P r+i)) (by omega) a1 (by omega) (fun i=>hL _) a3
   rw [<-hs] at w
   have r1:0+r<=r/\True/\r+1<=140737488355328/\(3*(r+1)+1536)*24<=562949953421312:=⟨by omega,trivial,by omega,by omega⟩
   have r2:(-9223372036854775808:Int)<=ofNat (jU P r)+ofNat (P (jU P r))/\ofNat (jU P r)+ofNat (P (jU P r))<=9223372036854775807:=⟨by simp<;>omega,by simp<;>omega⟩
   refine ⟨Nat.zero_le _,1000000,_,(jnR_vc (jm P L r) (jb P L D r) (P (jU P r)) gen r (jU P r) (ptF G N I P L D) m b h0 _).mpr ⟨r0,w,h0,r1,r2,.inl ⟨(r+1,jm P L,jb P L D),[3],[],_,_,[(0,.sv 5 60 (ptF G N I P L D)),(1,.i .i64 (ofNat gen)),(6,.lr 0 1 0 (addN r 1) false),(7,.i .i64 (ofNat (jU P r)+ofNat (P (jU P r))))],
    [some (.rows 87 1 (addN r 1) (appZ r (recF m b) fun x j=>List.getD [CV.sv 1 (jm P L r) (byF (jb P L D r))] j CV.p0))],⟨hlt,fun t _=>⟨rfl,rfl⟩⟩,by simp only;omega,rfl,st_k [3] (by kernel_rfl),?_,?_⟩⟩⟩
   · rw [addN_eq];exact .refl _
   · rw [addN_eq]
     refine ⟨.rowsW fun t j ht hj=>?_,trivial⟩
     obtain rfl:j=0:=by omega
     refine (appZ_CW _ _ _ _ _).trans ?_
     by_cases hc:t<r
     · rw [show Nat.blt t r=true from by rw [Nat.blt_eq];exact hc,cond_true]
       refine .of ?_
       show CV.sv 1 (m t) (byF (b t))=CV.sv 1 (jm P L t) (byF (jb P L D t))
       rw [(h1 t hc).1,(h1 t hc).2]
     · rw [show Nat.blt t r=false from by rw [Bool.eq_false_iff,ne_eq,Nat.blt_eq];exact hc,cond_false]
       have:t=r:=by omega
       subst this
       exact .refl _
 · have:r=c:=by omega
   subst this
   have fin:OVL [some (.rows 87 1 r (recF m b))] [some (.rows 87 1 r (recF (jm P L) (jb P L D)))]:=⟨.rowsW fun t j ht hj=>.of (by
    show CV.sv 1 (m t) (byF (b t))=CV.sv 1 (jm P L t) (byF (jb P L D t))
    rw [(h1 t ht).1,(h1 t ht).2]),trivial⟩
   by_cases hz:P (jU P r)=0/\0<60-jU P r
   · have w:=recOk_con (60-jU P r) gen r (fun i=>G (jU P r+i)) (fun i=>N (jU P r+i)) (fun i=>I (jU P r+i)) (fun i=>P (jU P r+i)) (fun i=>L (jU P r+i)) (fun i=>D (jU P r+i)) (by omega) (by show P (jU P r)<=_;omega) (by omega) (fun i=>hL _) (fun i hi=>by have:i<P (jU P r):=hi;omega)
     rw [<-hs] at w
     refine ⟨Nat.zero_le _,1000000,_,(jnZ_vc _ _ (P (jU P r)) gen r (jU P r) (ptF G N I P L D) m b (by simp;exact hz.1) _).mpr ⟨r0,w,by simp;exact hz.1,?_⟩⟩
     exact .inr ⟨[0],[],_,_,[(4,.lr 0 1 0 r false),(5,.i .i64 (ofNat (jU P r)))],[some (.rows 87 1 r (recF m b))],rfl,by simp,st_k [0] (by kernel_rfl),.refl _,fin⟩
   · have hno:60-jU P r=0\/60-jU P r<P (jU P r)\/∃q,q<P (jU P r)/\¬RcOk (P (jU P r)) gen r (fun i=>G (jU P r+i)) (fun i=>N (jU P r+i)) (fun i=>I (jU P r+i)) (fun i=>P (jU P r+i)) q/\∀i,i<q->RcOk (P (jU P r)) gen r (fun i=>G (jU P r+i)) (fun i=>N (jU P r+i)) (fun i=>I (jU P r+i)) (fun i=>P (jU P r+i)) i:=by
      by_cases e1:60-jU P r=0
      · exact .inl e1
      by_cases e2:60-jU P r<P (jU P r)
      · exact .inr (.inl e2)
      refine .inr (.inr ?_)
      have e3:¬∀i,i<P (jU P r)->RcOk (P (jU P r)) gen r (fun i=>G (jU P r+i)) (fun i=>N (jU P r+i)) (fun i=>I (jU P r+i)) (fun i=>P (jU P r+i)) i:=fun h=>no ⟨by omega,by omega,h⟩
      -- the first that is not
      have key:∀j,j<=P (jU P r)->(∀i,i<j->RcOk (P (jU P r)) gen r (fun i=>G (jU P r+i)) (fun i=>N (jU P r+i)) (fun i=>I (jU P r+i)) (fun i=>P (jU P r+i)) i)\/∃q,q<P (jU P r)/\¬RcOk (P (jU P r)) gen r (fun i=>G (jU P r+i)) (fun i=>N (jU P r+i)) (fun i=>I (jU P r+i)) (fun i=>P (jU P r+i)) q/\∀i,i<q->RcOk (P (jU P r)) gen r (fun i=>G (jU P r+i)) (fun i=>N (jU P r+i)) (fun i=>I (jU P r+i)) (fun i=>P (jU P r+i)) i:=by
       intro j
       induction j with
       | zero=>exact fun _=>.inl fun i hi=>absurd hi (Nat.not_lt_zero _)
       | succ j ih=>
         intro hj
         rcases ih (by omega) with h | h
         · by_cases hq:RcOk (P (jU P r)) gen r (fun i=>G (jU P r+i)) (fun i=>N (jU P r+i)) (fun i=>I (jU P r+i)) (fun i=>P (jU P r+i)) j
           · exact .inl fun i hi=>by
              rcases Nat.lt_or_ge i j with h' | h'
              · exact h i h'
              · have:i=j:=by omega
                subst this;exact hq
           · exact .inr ⟨j,by omega,hq,h⟩
         · exact .inr h
      rcases key _ (Nat.le_refl _) with h | h
      · exact absurd h e3
      · exact h
     have w:Con PG 42 [.sv 5 (60-jU P r) (shiftF (jU P r) (ptF G N I P L D)),.i .i64 (ofNat gen),.i .i64 (ofNat r)] [] (.tup [.l0,.i .i64 0]) []:=by
      rw [hs]
      rcases hno with h | h | ⟨q,hq⟩
      · exact recNo_con _ gen r 0 _ _ _ _ _ _ (by omega) (fun i=>hL _) (.inl h)
      · exact recNo_con _ gen r 0 _ _ _ _ _ _ (by omega) (fun i=>hL _) (.inr (.inl h))
      · exact recNo_con _ gen r q _ _ _ _ _ _ (by omega) (fun i=>hL _) (.inr (.inr hq))
     refine ⟨Nat.zero_le _,1000000,_,(jnN_vc gen r (jU P r) (ptF G N I P L D) m b _).mpr ⟨r0,w,?_⟩⟩
     exact .inr ⟨[0],[],_,_,[(4,.lr 0 1 0 r false),(5,.i .i64 (ofNat (jU P r)))],[some (.rows 87 1 r (recF m b))],rfl,by simp,st_k [0] (by kernel_rfl),.refl _,fin⟩
theorem join_con (gen c:Nat) (G N I P L:Nat->Nat) (D:Nat->Nat->Nat) (hL:∀i,L i<=47) (st:∀r,r<c->StAt gen G N I P (jU P r) r) (no:¬StAt gen G N I P (jU P c) c) :
 Con PG 32 [.sv 5 60 (ptF G N I P L D),.i .i64 (ofNat gen)] [] (.tup [.sv 1 c (recF (jm P L) (jb P L D)),.i .i64 (ofNat (jU P c))]) [.gone]:=by
 have w:=(jn_lp gen c G N I P L D hL (fun _=>0) (fun _ _=>0) st no).weak (l0:=[(0,.sv 5 60 (ptF G N I P L D)),(1,.i .i64 (ofNat gen)),(6,.l0),(7,.i .i64 0)]) (objs0:=[]) ⟨rfl,.inl rfl,rfl,.inl rfl,rfl,.inr ⟨rfl,.inl ⟨0,1,0,false,rfl⟩⟩,rfl,.inl rfl,trivial⟩ (by intro o ho;simp at ho;subst ho;exact ⟨_,rfl,rfl⟩)
 have k0:Con PG 32 [.sv 5 60 (ptF G N I P L D),.i .i64 (ofNat gen)] [] (.tup [.lr 0 1 0 c false,.i .i64 (ofNat (jU P c))]) [.set (.rows 87 1 c (recF (jm P L) (jb P L D)))]:=
  con_of_run [] [0] ((join_vc c (jU P c) (jm P L) (jb P L D) gen (ptF G N I P L D) _).mpr ⟨w,_,_,rfl,ret_k (by kernel_rfl)⟩)
 exact (k0.freeze (us':=[.gone]) (v':=.tup [.sv 1 c (shiftF 0 (recF (jm P L) (jb P L D))),.i .i64 (ofNat (jU P c))]) 0 rfl ⟨rfl,trivial⟩ (.inr ⟨by kernel_rfl,⟨rfl,by omega⟩,trivial,trivial⟩))
theorem openJ_vc (s S2:SS) (E2:Int) (G A:Nat) (F:Nat->Nat->CV) (C U:Nat) (RF:Nat->Nat->CV) (h0:decide (ofNat s.n<122)=false) (h1:s.off=false) (h2:decide (E2=0)=true) (K:Res->Orc->Prop):runK PG 1000000 (.call 20 [.p 0 0] (mkH [some s.o])) (.c (.cal [0] (inv (SS.n s)) [.keep] (.f (.cal [0] (.b (SS.off s)) [.keep] (.f (.cal [0] (.tup [inv G,inv A,.i .i64 E2]) [.set (SS.o S2)] (.f (.cal [0] (.tup [.sv 5 60 F,.i .i64 0]) [.keep,.gone] (.c (.cal [] (.tup [.sv 1 C RF,inv U]) [.gone] .z)))))))))) K=(True/\Con PG 29 [.p 0 0] [some (SS.o s)] (inv (SS.n s)) [.keep]/\decide (ofNat (SS.n s)<122)=false/\Con PG 17 [.p 0 0] [some (SS.o s)] (.b (SS.off s)) [.keep]/\SS.off s=false/\Con PG 30 [.p 0 0] [some (SS.o s)] (.tup [inv G,inv A,.i .i64 E2]) [.set (SS.o S2)]/\(!decide (E2=0))=false/\Con PG 31 [.p 0 0,inv A] [some (SS.o S2)] (.tup [.sv 5 60 F,.i .i64 0]) [.keep,.gone]/\Con PG 32 [.sv 5 60 F,inv G] [] (.tup [.sv 1 C RF,inv U]) [.gone]/\rg (60-ofNat U)/\K (.rv (.tup [.p 3 0,.sv 1 C RF,.i .i64 0]) ⟨zz1 (SS.o S2) (zz0 (zzl (AObj.cells 50 6 [] (zz1 (.p 0 0) (zz1 (inv G) (zzn C) (zzl (.b false))) (zz1 (inv A) (zzl (.i .i64 (60-ofNat U))) .e)))) .e) (zz0 .e .e),4,[3,2,1,0]⟩) .z):=by kernel_rfl
structure JS where
 gen:Nat
 area:Nat
 recs:Nat
 room:Int
 dead:Bool
def JS.o (j:JS):AObj:=cellsO 50 [.p 0 0,.i .i64 (ofNat j.gen),.i .i64 (ofNat j.area),.i .i64 (ofNat j.recs),.i .i64 j.room,.b j.dead]
def aG (s:SS) (a i:Nat):Nat:=stG (bB s (2+a*60+i))
def aN (s:SS) (a i:Nat):Nat:=stN (bB s (2+a*60+i))
def aI (s:SS) (a i:Nat):Nat:=stI (bB s (2+a*60+i))
def aP (s:SS) (a i:Nat):Nat:=stP (bB s (2+a*60+i))
def aL (s:SS) (a i:Nat):Nat:=stL (bB s (2+a*60+i))
def aD (s:SS) (a i t:Nat):Nat:=bB s (2+a*60+i) (11+t)
theorem prF_a (s:SS) (a:Nat):prF s a=ptF (aG s a) (aN s a) (aI s a) (aP s a) (aL s a) (aD s a):=prF_eq s a
theorem stL_le (b:Nat->Nat):stL b<=47:=by
 by_cases h:PtOk b
 · rw [stL_t h];exact h.size
 · unfold stL;rw [ptB_f h,cond_false];omega
structure Recs (s:SS) (a g c:Nat):Prop where
 st:∀r,r<c->StAt g (aG s a) (aN s a) (aI s a) (aP s a) (jU (aP s a) r) r
 no:¬StAt g (aG s a) (aN s a) (aI s a) (aP s a) (jU (aP s a) c) c
def opJ (s:SS) (a g c:Nat):JS:={ gen:=g,area:=a,recs:=c,room:=60-ofNat (jU (aP s a) c),dead:=false}
def opM (s:SS) (a:Nat):Nat->Nat:=jm (aP s a) (aL s a)
def opB (s:SS) (a:Nat):Nat->Nat->Nat:=jb (aP s a) (aL s a) (aD s a)
theorem openX_con (s S2:SS) (g a c:Nat) (hs:122<=s.n) (ho:s.off=false) (bg:Con PG 30 [.p 0 0] [some s.o] (.tup [.i .i64 (ofNat g),.i .i64 (ofNat a),.i .i64 0]) [.set S2.o])
 (h2:122<=S2.n) (h512:S2.n<=512) (on:S2.off=false) (hb:Byt S2) (ha:a<=1) (rc:Recs S2 a g c) :
 Con PG 20 [.p 0 0] [some s.o] (.tup [.p 1 0,.sv 1 c (recF (opM S2 a) (opB S2 a)),.i .i64 0]) [.set S2.o,.set (opJ S2 a g c).o]:=by
 have w:=look_con S2 a on h2 h512 hb ha
 have w2:=join_con g c (aG S2 a) (aN S2 a) (aI S2 a) (aP S2 a) (aL S2 a) (aD S2 a) (fun i=>stL_le _) rc.st rc.no
 have hu:=jU_le c rc.st
 rw [<-prF_a] at w2
 have h0:decide (ofNat s.n<122)=false:=by simp;omega
 have r:(-9223372036854775808:Int)<=(60:Int)-ofNat (jU (aP S2 a) c)/\60-ofNat (jU (aP S2 a) c)<=9223372036854775807:=⟨by simp;omega,by simp;omega⟩
 exact con_of_run [] [3] ((openJ_vc s S2 0 g a (prF S2 a) c (jU (aP S2 a) c) (recF (opM S2 a) (opB S2 a)) h0 ho (by decide) _).mpr ⟨trivial,len2_con s,h0,off2_con s,ho,bg,by decide,w,w2,r,_,_,rfl,ret_k (by kernel_rfl)⟩)
def ftT (room:Int) (n i q:Nat) (m:Nat->Nat) (b:Nat->Nat->Nat):List (Nat×AV):=[(0,.i .i64 room),(6,.i .i64 (ofNat q)),(9,.sv 1 n (recF m b)),(10,.i .i64 (ofNat n)),(11,.i .i64 (ofNat i))]
theorem ftR_vc (N2:Nat) (room:Int) (n i q:Nat) (m:Nat->Nat) (b:Nat->Nat->Nat) (h0:decide (ofNat i<ofNat n)=true) (h1:decide (1128<ofNat (m i))=false) (K:Res->Orc->Prop):runK PG 1000000 (.code (loopAt PG 49 0) 27 (mkT (ftT room n i q m b)) (mkH [])) (.t (.f (.cal [] (inv N2) [] .z))) K=((fun (q1:Int)=>((fun (q0:AV)=>(decide (ofNat i<ofNat n)=true/\(0<=ofNat i/\ofNat i<↑n)/\True/\decide (1128<ofNat (m i))=false/\Con PG 68 [.sv 1 (m i) (byF (b (Int.toNat (ofNat i))))] [] (inv N2) []/\rg q1/\rg (ofNat i+1)/\K (.st .nrm (zz1 (.i .i64 room) (zz0 (zz0 (zz0 (zzl q0) .e) (zz1 (.i .i64 (ofNat i+1)) (zzl q0) .e)) (zz0 (zz1 (.sv 1 n (recF m b)) (zzl (.b (decide (1128<ofNat (m i))))) .e) (zz1 (.pv 1 (recF m b i)) (zzl (.i .i64 q1)) .e))) (zz0 (zz0 (zz1 q0 (zzn (m i)) .e) (zz1 (.b (decide (ofNat i<ofNat n))) (zzn N2) .e)) (zz1 (.i .i64 q1) (zz1 (inv n) (zzn q) .e) (zz1 q0 (zzl (.i .i64 (ofNat i+1))) .e)))) ⟨.e,0,[]⟩) .z)) (.sv 1 (m i) (byF (b (Int.toNat (ofNat i))))))) (ofNat q+ofNat N2)):=by kernel_rfl
theorem ftE_vc (room:Int) (n i q:Nat) (m:Nat->Nat) (b:Nat->Nat->Nat) (h0:decide (ofNat i<ofNat n)=false) (K:Res->Orc->Prop):runK PG 1000000 (.code (loopAt PG 49 0) 27 (mkT (ftT room n i q m b)) (mkH [])) (.f .z) K=(decide (ofNat i<ofNat n)=false/\K (.st (.exit 0) (zz1 (.i .i64 room) (zz0 (zz0 .e (zzn i)) (zz0 (zzl (.sv 1 n (recF m b))) .e)) (zz0 (zz0 .e (zzl (.b (decide (ofNat i<ofNat n))))) (zz1 (inv q) (zzn n) .e))) ⟨.e,0,[]⟩) .z):=by kernel_rfl
theorem fitA_vc (S3:Nat) (room:Int) (n:Nat) (m:Nat->Nat) (b:Nat->Nat->Nat) (K:Res->Orc->Prop):runK PG 1000000 (.call 49 [.i .i64 room,.sv 1 n (recF m b)] (mkH [])) (.lop [] [0,6,9,10,11] 0 (.exit 0) [(0,.i .i64 room),(6,.i .i64 (ofNat S3))] [] (.s .z .z)) K=(LDoes PG (loopAt PG 49 0) 27 0 (mkT (ftT room n 0 0 m b)) [] (.exit 0) (mkT [(0,.i .i64 room),(6,.i .i64 (ofNat S3))]) []/\(decide (room<ofNat S3)=true->K (.rv (.tup [.i .i64 0,.i .i64 12]) ⟨.e,0,[]⟩) .z)/\(decide (room<ofNat S3)=false->K (.rv (.tup [inv S3,.i .i64 0]) ⟨.e,0,[]⟩) .z)):=by kernel_rfl
theorem sumP_snoc (m:Nat->Nat):∀(j i:Nat),sumP m (j+1) i=sumP m j i+npF (m (i+j))
 | 0,i=>by show npF (m i)+0=0+npF (m (i+0));rw [Nat.add_zero,Nat.zero_add,Nat.add_zero]
 | j+1,i=>by
   have ih:=sumP_snoc m j (i+1)
   show npF (m i)+sumP m (j+1) (i+1)=npF (m i)+sumP m j (i+1)+npF (m (i+(j+1)))
   rw [ih,show i+1+j=i+(j+1) by omega];omega
theorem npF_24 {m:Nat} (h:m<=1128):npF m<=24:=by unfold npF;split<;>omega
theorem sumP_24 {m:Nat->Nat}:∀(j:Nat),(∀i,i<j->m i<=1128)->sumP m j 0<=24*j
 | 0,_=>Nat.le_refl _
 | j+1,h=>by
   have ih:=sumP_24 j fun i hi=>h i (by omega)
   have:=npF_24 (h j (by omega))
   rw [sumP_snoc,Nat.zero_add];omega
theorem fitA_lp (room:Int) (n:Nat) (m:Nat->Nat) (b:Nat->Nat->Nat) (hn:n<=17592186044416) (ok:∀i,i<n->m i<=1128) :
 LDoes PG (loopAt PG 49 0) 27 0 (mkT (ftT room n 0 0 m b)) [] (.exit 0) (mkT [(0,.i .i64 room),(6,.i .i64 (ofNat (sumP m n 0)))]) []:=by
 refine loop_ind (D:=Nat) (l':=[(0,.i .i64 room),(6,.i .i64 (ofNat (sumP m n 0)))]) (fun i=>(ftT room n i (sumP m i 0) m b,[])) (fun i=>n-i) (fun i=>i<=n) ?_ 0 (Nat.zero_le _)
 intro i hi
 have hq:=sumP_24 i fun t ht=>ok t (by omega)
 by_cases hlt:i<n
 · have h0:decide (ofNat i<ofNat n)=true:=by simpa using hlt
   have hm:=ok i hlt
   have h1:decide ((1128:Int)<ofNat (m i))=false:=by simp;omega
   have h24:=npF_24 hm
   have w:=parts_con (m i) (b i) (by omega)
   have e:sumP m (i+1) 0=sumP m i 0+npF (m i):=by rw [sumP_snoc,Nat.zero_add]
   refine ⟨Nat.le_refl _,1000000,_,(ftR_vc (npF (m i)) room n i (sumP m i 0) m b h0 h1 _).mpr ⟨h0,⟨by simp,by simp;omega⟩,trivial,h1,w,⟨by simp<;>omega,by simp<;>omega⟩,⟨by simp<;>omega,by simp<;>omega⟩,.inl ⟨i+1,[],[],_,_,hlt,by simp only;omega,rfl,?_⟩⟩⟩
   simp only
   rw [e]
   exact st_k [] (by kernel_rfl)
 · have:i=n:=by omega
   subst this
   have h0:decide (ofNat i<ofNat i)=false:=by simp
   exact ⟨Nat.le_refl _,1000000,_,(ftE_vc room i i (sumP m i 0) m b h0 _).mpr ⟨h0,.inr ⟨[],[],_,_,rfl,by simp,st_k [] (by kernel_rfl)⟩⟩⟩
theorem fitOk_con (room:Int) (n:Nat) (m:Nat->Nat) (b:Nat->Nat->Nat) (hn:n<=17592186044416) (ok:∀i,i<n->m i<=1128) (hr:ofNat (sumP m n 0)<=room) :
 Con PG 49 [.i .i64 room,.sv 1 n (recF m b)] [] (.tup [.i .i64 (ofNat (sumP m n 0)),.i .i64 0]) []:=by
 have h:decide (room<ofNat (sumP m n 0))=false:=decide_eq_false (by omega)
 exact con_of_run [] [] ((fitA_vc (sumP m n 0) room n m b _).mpr ⟨fitA_lp room n m b hn ok,fun h'=>(by rw [h] at h';cases h'),fun _=>⟨_,_,rfl,ret_k (by kernel_rfl)⟩⟩)
theorem fitSpace_con (room:Int) (n:Nat) (m:Nat->Nat) (b:Nat->Nat->Nat) (hn:n<=17592186044416) (ok:∀i,i<n->m i<=1128) (hr:room<ofNat (sumP m n 0)) :
 Con PG 49 [.i .i64 room,.sv 1 n (recF m b)] [] (.tup [.i .i64 0,.i .i64 12]) []:=by
 have h:decide (room<ofNat (sumP m n 0))=true:=decide_eq_true hr
 exact con_of_run [] [] ((fitA_vc (sumP m n 0) room n m b _).mpr ⟨fitA_lp room n m b hn ok,fun _=>⟨_,_,rfl,ret_k (by kernel_rfl)⟩,fun h'=>(by rw [h] at h';cases h')⟩)
def litL (L:Nat) (bs:Nat->Nat):Nat->Nat->CV:=listF 1 [.sv 1 L (byF bs)] 1
theorem fit1_con (room:Int) (L:Nat) (bs:Nat->Nat) (v:AV) (h0:ren (nameIn [] 1) v=v) (h:Con PG 49 [.i .i64 room,.sv 1 1 (recF (fun _=>L) fun _=>bs)] [] v []) :
 Con PG 49 [.i .i64 room,.l 0 0 1 1 1 true] [some (cellsO 87 [.sv 1 L (byF bs)])] v [.gone]:=by
 have k1:Con PG 49 [.i .i64 room,.sv 1 1 (litL L bs)] [] v []:=h.pre ⟨.refl _,.sv fun i j hi hj=>by
  obtain rfl:j=0:=by omega
  exact Eq.refl _,trivial⟩
 have k2:=k1.slot (by kernel_rfl) (by kernel_rfl) h0
 exact k2.thawZ (us0:=[.gone]) 0 (z:=.cells 1 [.sv 1 L (byF bs)]) (by kernel_rfl) ⟨rfl,trivial⟩ ⟨.inl rfl,.inr ⟨by kernel_rfl,by show 0+1*1<=1;decide,rfl⟩,trivial⟩ rfl
theorem commit2_con (gen first mm L:Nat) (bs:Nat->Nat) (s:SS) (a:Nat) (ok:OkM s mm) (hb:∀t,bs t<256) (hn:first+1<4611686018427387904) (hm:mm+npF L<1073741823) (ha:a+npF L<=s.n) :
 Con PG 50 [.p 0 0,.i .i64 (ofNat a),cutV] [some s.o,some (cellsO 46 [.l 4 0 1 1 1 true]),some (cellsO 3 [.i .i64 (ofNat gen)]),some (cellsO 3 [.i .i64 (ofNat first)]),some (cellsO 87 [.sv 1 L (byF bs)])]
  (.i .i64 (cmtE gen first 1 (fun _=>L) (fun _=>bs) s a)) [.set (cmtS gen first 1 (fun _=>L) (fun _=>bs) s a).o,.set (cellsO 46 [.sv 1 1 (recF (fun _=>L) fun _=>bs)]),.keep,.keep,.gone]:=by
 have e1:sumP (fun _=>L) 1 0=npF L:=by
  show npF L+sumP (fun _=>L) 0 1=npF L
  show npF L+0=npF L
  rw [Nat.add_zero]
 have k0:=commit_con gen first 1 mm (fun _=>L) (fun _=>bs) s a ok (fun _=>hb) hn (by rw [e1];exact hm) (by rw [e1];exact ha)
 generalize cmtE gen first 1 (fun _=>L) (fun _=>bs) s a=E at k0⊢
 generalize cmtS gen first 1 (fun _=>L) (fun _=>bs) s a=S at k0⊢
 have k1:Con PG 50 [.p 0 0,.i .i64 (ofNat a),cutV] [some s.o,some (cellsO 46 [.sv 1 1 (recF (fun _=>L) fun _=>bs)]),some (cellsO 3 [.i .i64 (ofNat gen)]),some (cellsO 3 [.i .i64 (ofNat first)]),none]
  (.i .i64 E) [.set S.o,.keep,.keep,.keep,.gone]:=
  k0.more [0,1,2,3] (by kernel_rfl) (hasAll_of (by kernel_rfl) (by kernel_rfl)) (by kernel_rfl) (by kernel_rfl) (by kernel_rfl) (by kernel_rfl)
 have k2:Con PG 50 [.p 0 0,.i .i64 (ofNat a),cutV] [some s.o,some (cellsO 46 [.sv 1 1 (litL L bs)]),some (cellsO 3 [.i .i64 (ofNat gen)]),some (cellsO 3 [.i .i64 (ofNat first)]),none]
  (.i .i64 E) [.set S.o,.set (cellsO 46 [.sv 1 1 (recF (fun _=>L) fun _=>bs)]),.keep,.keep,.gone]:=by
  refine k1.ovl ⟨.refl _,.cells ⟨.sv fun i j hi hj=>?_,trivial⟩,.refl _,.refl _,.refl _,trivial⟩ rfl
  obtain rfl:j=0:=by omega
  exact Eq.refl _
 exact k2.thawZ 4 (z:=.cells 1 [.sv 1 L (byF bs)]) (by kernel_rfl) ⟨.inl rfl,.cells ⟨.inr ⟨by kernel_rfl,by show 0+1*1<=1;decide,rfl⟩,trivial⟩,.inl rfl,.inl rfl,rfl,trivial⟩ ⟨.inl rfl,.inl rfl,.inl rfl,trivial⟩ rfl
theorem sumP1 (L:Nat):sumP (fun _=>L) 1 0=npF L:=by
 show npF L+0=npF L
 rw [Nat.add_zero]
def apQ (j:JS) (rm:Nat):Nat:=2+j.area*60+(60-rm)
def apE (j:JS) (rm:Nat) (s:SS) (L:Nat) (bs:Nat->Nat):Int:=cmtE j.gen j.recs 1 (fun _=>L) (fun _=>bs) s (apQ j rm)
def apS (j:JS) (rm:Nat) (s:SS) (L:Nat) (bs:Nat->Nat):SS:=cmtS j.gen j.recs 1 (fun _=>L) (fun _=>bs) s (apQ j rm)
def nxT (g i:Nat) (F:Nat->Nat->CV):List (Nat×AV):=[(0,.p 1 0),(6,.i .i64 (ofNat g)),(33,.sv 5 60 F),(34,.i .i64 60),(35,.i .i64 (ofNat i))]
def mxG (G:Nat->Nat) (g:Nat):Nat->Nat
 | 0=>g
 | i+1=>if G i>mxG G g i then G i else mxG G g i
theorem mxG_le {G:Nat->Nat} {g B:Nat} (hg:g<=B) (hG:∀i,G i<=B):∀i,mxG G g i<=B
 | 0=>hg
 | i+1=>by
   have:=mxG_le hg hG i
   show (if G i>mxG G g i then G i else mxG G g i)<=B
   split
   · exact hG i
   · exact this
def nxG (s:SS) (j:JS):Nat:=mxG (aG s (1-j.area)) j.gen 60
def nxV (s:SS) (j:JS):Nat:=bif Nat.beq ((nxG s j+1) % 2) (j.gen % 2) then nxG s j+1+1 else nxG s j+1
theorem bar_n (s:SS):s.bar.n=s.n:=by
 unfold SS.bar
 split<;>rfl
theorem cmtS_ok (gen first n mm:Nat) (m:Nat->Nat) (b:Nat->Nat->Nat) (s:SS) (a:Nat) (ok:OkM s mm) (ha:a+sumP m n 0<=s.n):OkM (cmtS gen first n m b s a) (mm+sumP m n 0)/\(cmtS gen first n m b s a).n=s.n:=by
 have h:=runR_ok gen first m b n s a 0 mm ok ha
 unfold cmtS
 cases decide ((runR gen first m b n s a 0).1=0) with
 | true=>exact ⟨h.1.bar,(bar_n _).trans h.2⟩
 | false=>exact h
def rwS (s:SS) (j:JS) (n:Nat) (m:Nat->Nat) (b:Nat->Nat->Nat):SS:=cmtS (nxV s j) 0 n m b s (2+(1-j.area)*60)
def rwE (s:SS) (j:JS) (n:Nat) (m:Nat->Nat) (b:Nat->Nat->Nat):Int:=cmtE (nxV s j) 0 n m b s (2+(1-j.area)*60)
def rwJ (s:SS) (j:JS) (n:Nat) (m:Nat->Nat):JS:={ gen:=nxV s j,area:=1-j.area,recs:=n,room:=60-ofNat (sumP m n 0),dead:=j.dead}
theorem bf {n m:Nat} (h:¬n<=m):Nat.ble n m=false:=by rw [Bool.eq_false_iff,ne_eq,Nat.ble_eq];exact h
theorem bt {n m:Nat} (h:n<=m):Nat.ble n m=true:=Nat.ble_eq_true_of_le h
theorem lf {n m:Nat} (h:¬n<m):Nat.blt n m=false:=by rw [Bool.eq_false_iff,ne_eq,Nat.blt_eq];exact h
theorem lt_ {n m:Nat} (h:n<m):Nat.blt n m=true:=by rw [Nat.blt_eq];exact h
theorem ef {n m:Nat} (h:n≠m):Nat.beq n m=false:=by rw [Bool.eq_false_iff,ne_eq,Nat.beq_eq];exact h
section
variable (gen num idx np m:Nat) (b:Nat->Nat)
theorem pb_gen {k:Nat} (h:k<4):pbodyB gen num idx np m b k=fourB (gen % 4294967296) k:=by
 unfold pbodyB
 rw [bf (by omega:¬11<=k),ef (by omega:k≠10),ef (by omega:k≠9),ef (by omega:k≠8),bf (by omega:¬4<=k),bt (Nat.zero_le k),lt_ h]
 simp only [Bool.false_and,Bool.and_self,cond_false,cond_true]
theorem pb_num {k:Nat} (h1:4<=k) (h:k<8):pbodyB gen num idx np m b k=fourB (num % 4294967296) (k-4):=by
 unfold pbodyB
 rw [bf (by omega:¬11<=k),ef (by omega:k≠10),ef (by omega:k≠9),ef (by omega:k≠8),bt h1,lt_ h]
 simp only [Bool.false_and,Bool.and_self,cond_false,cond_true]
theorem pb_8:pbodyB gen num idx np m b 8=idx % 256:=by
 unfold pbodyB
 rw [bf (by omega:¬11<=8),ef (by omega:8≠10),ef (by omega:8≠9),Nat.beq_refl]
 simp only [Bool.false_and,cond_false,cond_true]
theorem pb_9:pbodyB gen num idx np m b 9=np % 256:=by
 unfold pbodyB
 rw [bf (by omega:¬11<=9),ef (by omega:9≠10),Nat.beq_refl]
 simp only [Bool.false_and,cond_false,cond_true]
theorem pb_10:pbodyB gen num idx np m b 10=m % 256:=by
 unfold pbodyB
 rw [bf (by omega:¬11<=10),Nat.beq_refl]
 simp only [Bool.false_and,cond_false,cond_true]
theorem pb_txt {i:Nat} (h:i<m):pbodyB gen num idx np m b (11+i)=b i:=by
 unfold pbodyB
 rw [bt (by omega:11<=11+i),lt_ (by omega:11+i<11+m)]
 simp only [Bool.and_self,cond_true]
 rw [Nat.add_sub_cancel_left]
theorem pb_rest {k:Nat} (h:11+m<=k):pbodyB gen num idx np m b k=0:=by
 unfold pbodyB
 rw [bt (by omega:11<=k),lf (by omega:¬k<11+m),ef (by omega:k≠10),ef (by omega:k≠9),ef (by omega:k≠8),lf (by omega:¬k<8),lf (by omega:¬k<4)]
 simp only [Bool.and_false,cond_false]
theorem ps_body {k:Nat} (h:k<60):psecB gen num idx np m b k=pbodyB gen num idx np m b k:=by
 unfold psecB;rw [lt_ h,cond_true]
theorem ps_sum (k:Nat):psecB gen num idx np m b (60+k)=fourB (sumN (pbodyB gen num idx np m b) 60) k:=by
 unfold psecB;rw [lf (by omega:¬60+k<60),cond_false,Nat.add_sub_cancel_left]
theorem bOf_by (b:Nat->Nat) (k:Nat):bOf (byF b) k=b k:=Eq.refl _
theorem bOf_sh (b:Nat->Nat) (l k:Nat):bOf (shiftF l (byF b)) k=b (l+k):=by
 show cvN (shiftF l (byF b) k 0)= _
 rw [shiftF_eq];exact Eq.refl _
theorem ps_open:openB (byF (psecB gen num idx np m b))=true:=by
 unfold openB
 refine decide_eq_true ?_
 have e1:sumN (bOf (byF (psecB gen num idx np m b))) 60=sumN (pbodyB gen num idx np m b) 60:=sumN_congr fun k hk=>by rw [bOf_by,ps_body _ _ _ _ _ _ hk]
 have e2:four1 (bOf (shiftF 60 (byF (psecB gen num idx np m b))))=four1 (fourB (sumN (pbodyB gen num idx np m b) 60)):=four1_congr fun k hk=>by rw [bOf_sh,ps_sum]
 rw [e1,e2,four1_four (sumN_lt _ _)]
theorem ps_g1 (h:gen<=1073741824):g1 (psecB gen num idx np m b)=gen:=by
 unfold g1
 rw [four1_congr (b':=fourB (gen % 4294967296)) fun k hk=>by rw [bOf_by,ps_body _ _ _ _ _ _ (by omega),pb_gen _ _ _ _ _ _ hk]]
 rw [four1_four (Nat.mod_lt _ (by decide)),Nat.mod_eq_of_lt (by omega)]
theorem ps_g2 (h:num<=1073741824):g2 (psecB gen num idx np m b)=num:=by
 unfold g2
 rw [four1_congr (b':=fourB (num % 4294967296)) fun k hk=>by rw [bOf_sh,ps_body _ _ _ _ _ _ (by omega),pb_num _ _ _ _ _ _ (by omega) (by omega),Nat.add_sub_cancel_left]]
 rw [four1_four (Nat.mod_lt _ (by decide)),Nat.mod_eq_of_lt (by omega)]
theorem ps_8 (h:idx<256):psecB gen num idx np m b 8=idx:=by rw [ps_body _ _ _ _ _ _ (by omega),pb_8,Nat.mod_eq_of_lt h]
theorem ps_9 (h:np<256):psecB gen num idx np m b 9=np:=by rw [ps_body _ _ _ _ _ _ (by omega),pb_9,Nat.mod_eq_of_lt h]
theorem ps_10 (h:m<256):psecB gen num idx np m b 10=m:=by rw [ps_body _ _ _ _ _ _ (by omega),pb_10,Nat.mod_eq_of_lt h]
theorem ps_rest (h:m<=47):restP (psecB gen num idx np m b)=0:=by
 unfold restP
 rw [ps_10 _ _ _ _ _ _ (by omega),trN_zero]
 intro k hk
 rw [bOf_sh,ps_body _ _ _ _ _ _ (by omega),pb_rest _ _ _ _ _ _ (by omega)]
theorem ps_ok (h1:1<=gen) (h2:gen<=1073741824) (h3:num<=1073741824) (h4:np<=24) (h5:idx<np) (h6:m<=47) (h7:idx+1<np->m=47) (h8:np<=idx+1->0<m\/np=1):PtOk (psecB gen num idx np m b):=by
 have e8:=ps_8 gen num idx np m b (by omega)
 have e9:=ps_9 gen num idx np m b (by omega)
 have e10:=ps_10 gen num idx np m b (by omega)
 refine ⟨ps_open _ _ _ _ _ _,by rw [e10];exact h6,by rw [ps_g1 _ _ _ _ _ _ h2];exact h1,by rw [ps_g1 _ _ _ _ _ _ h2];exact h2,by rw [ps_g2 _ _ _ _ _ _ h3];exact h3,by rw [e9];exact h4,by rw [e8,e9];exact h5,?_,?_,ps_rest _ _ _ _ _ _ h6⟩
 · rw [e8,e9,e10];exact h7
 · rw [e8,e9,e10];exact h8
theorem ps_txt {i:Nat} (hm:m<=47) (h:i<m):psecB gen num idx np m b (11+i)=b i:=by
 rw [ps_body _ _ _ _ _ _ (by omega),pb_txt _ _ _ _ _ _ h]
end
theorem runW_byt (c:Nat->Nat->Nat) (hc:∀k t,c k t<256):∀(j:Nat) (s:SS) (a k:Nat),Byt s->a+j<=s.n->Byt (runW c j s a k).2.1
 | 0,s,a,k,hb,ha=>hb
 | j+1,s,a,k,hb,ha=>by
   have h1:=hb.wrS (q:=a) (bs:=fun t=>ofNat (c k t)) (by omega) fun t=>⟨c k t,hc k t,rfl⟩
   show Byt (match decide (s.wrE (ofNat a) 64=0) with | true=>_ | false=>_:Int×SS×Nat).2.1
   cases decide (s.wrE (ofNat a) 64=0) with
   | true=>exact runW_byt c hc j _ (a+1) (k+1) h1 (by rw [wrS_n];omega)
   | false=>exact h1
theorem pcB_lt (gen num np mi:Nat) (bi:Nat->Nat) (hb:∀t,bi t<256) (k t:Nat):pcB gen num np mi bi k t<256:=psecB_lt (fun _ _=>hb _) t
theorem recW_at (gen first:Nat) (m:Nat->Nat) (b:Nat->Nat->Nat) (s:SS) (a i mm:Nat) (ok:OkM s mm) (ha:a+npF (m i)<=s.n):(recW gen first m b s a i).2.1.n=s.n/\(recW gen first m b s a i).2.2<=a+npF (m i)/\OkM (recW gen first m b s a i).2.1 (mm+npF (m i)):=
 have h:=runW_ok (pcB gen (first+i) (npF (m i)) (m i) (b i)) (npF (m i)) s a 0 mm ok ha
 ⟨h.2.1,h.2.2,h.1⟩
theorem runR_byt (gen first:Nat) (m:Nat->Nat) (b:Nat->Nat->Nat) (hb:∀i t,b i t<256):∀(j:Nat) (s:SS) (a i mm:Nat),OkM s mm->Byt s->a+sumP m j i<=s.n->Byt (runR gen first m b j s a i).2.1
 | 0,s,a,i,mm,ok,h,ha=>h
 | j+1,s,a,i,mm,ok,h,ha=>by
   have ha':a+(npF (m i)+sumP m j (i+1))<=s.n:=ha
   have h1:Byt (recW gen first m b s a i).2.1:=runW_byt _ (pcB_lt _ _ _ _ _ (hb i)) _ s a 0 h (by omega)
   have h2:=recW_at gen first m b s a i mm ok (by omega)
   show Byt (match decide ((recW gen first m b s a i).1=0) with | true=>_ | false=>_:Int×SS×Nat).2.1
   cases decide ((recW gen first m b s a i).1=0) with
   | true=>exact runR_byt gen first m b hb j _ _ (i+1) _ h2.2.2 h1 (by rw [h2.1];have:=h2.2.1;omega)
   | false=>exact h1
theorem cmtS_byt (gen first n mm:Nat) (m:Nat->Nat) (b:Nat->Nat->Nat) (hb:∀i t,b i t<256) (s:SS) (a:Nat) (ok:OkM s mm) (h:Byt s) (ha:a+sumP m n 0<=s.n):Byt (cmtS gen first n m b s a):=by
 have h1:=runR_byt gen first m b hb n s a 0 mm ok h ha
 unfold cmtS
 cases decide ((runR gen first m b n s a 0).1=0) with
 | true=>exact h1.bar
 | false=>exact h1
theorem cmt_on (gen first n:Nat) (m:Nat->Nat) (b:Nat->Nat->Nat) (s:SS) (a:Nat) (h:cmtE gen first n m b s a=0):(cmtS gen first n m b s a).off=false/\(cmtS gen first n m b s a).P=[]/\(runR gen first m b n s a 0).1=0:=by
 unfold cmtE at h
 unfold cmtS
 cases d:decide ((runR gen first m b n s a 0).1=0) with
 | false=>rw [d] at h;exact absurd h (of_decide_eq_false d)
 | true=>
   rw [d] at h
   have h0:(runR gen first m b n s a 0).1=0:=of_decide_eq_true d
   simp only
   generalize (runR gen first m b n s a 0).2.1=S at h
   have ho:S.off=false:=by
    cases e:S.off with
    | false=>rfl
    | true=>
      have hf:S.faultE=13:=by unfold SS.faultE;rw [e,cond_true]
      have h':S.faultE=0:=h
      rw [hf] at h'
      exact absurd h' (by decide)
   refine ⟨?_,?_,h0⟩
   · unfold SS.bar;rw [ho];exact ho
   · unfold SS.bar;rw [ho];rfl
def vwB (s:SS) (q:Nat):Nat->Int:=bif lB s.P q then lbs s.P q else s.dur q
def vwT (s:SS) (q:Nat):Bool:=bif lB s.P q then false else s.torn q
theorem durL_v (dur:Nat->Nat->Int):∀(P:PW) (q:Nat),durL dur P q=bif lB P q then lbs P q else dur q
 | [],q=>by show dur q=bif false then _ else dur q;rw [cond_false]
 | w :: P,q=>by
   have ih:=durL_v dur P q
   show setD (durL dur P) w.1 w.2 q=bif (bif Nat.beq q w.1 then true else lB P q) then (bif Nat.beq q w.1 then w.2 else lbs P q) else dur q
   have e:setD (durL dur P) w.1 w.2 q=bif Nat.beq q w.1 then w.2 else durL dur P q:=by
    first
    | rfl
    | (funext j;unfold setD;cases Nat.beq q w.1<;>rfl)
   rw [e]
   cases Nat.beq q w.1 with
   | true=>rw [cond_true,cond_true,cond_true,cond_true]
   | false=>rw [cond_false,cond_false,cond_false];exact ih
theorem tornL_v (torn:Nat->Bool):∀(P:PW) (q:Nat),tornL torn P q=bif lB P q then false else torn q
 | [],q=>by show torn q=bif false then _ else torn q;rw [cond_false]
 | w :: P,q=>by
   have ih:=tornL_v torn P q
   show setT (tornL torn P) w.1 false q=bif (bif Nat.beq q w.1 then true else lB P q) then false else torn q
   have e:setT (tornL torn P) w.1 false q=bif Nat.beq q w.1 then false else tornL torn P q:=by
    first
    | rfl
    | (unfold setT;cases Nat.beq q w.1<;>rfl)
   rw [e]
   cases Nat.beq q w.1 with
   | true=>rw [cond_true,cond_true,cond_true]
   | false=>rw [cond_false,cond_false];exact ih
theorem vw_bar (s:SS) (q:Nat):vwB s.bar q=vwB s q/\vwT s.bar q=vwT s q:=by
 unfold SS.bar
 cases s.off with
 | true=>exact ⟨rfl,rfl⟩
 | false=>
   have eP:s.P.drop (s.P.length-s.P.length)=s.P:=by rw [Nat.sub_self];rfl
   refine ⟨?_,?_⟩
   · show (bif false then _ else durL s.dur (s.P.drop (s.P.length-s.P.length)) q)=vwB s q
     rw [cond_false,eP,durL_v];rfl
   · show (bif false then _ else tornL s.torn (s.P.drop (s.P.length-s.P.length)) q)=vwT s q
     rw [cond_false,eP,tornL_v];rfl
theorem vw_wrS {s:SS} {q0:Nat} {bs:Nat->Int} (ho:s.off=false) (h0:q0<s.n) (q:Nat):vwB (s.wrS (ofNat q0) 64 bs) q=(bif Nat.beq q q0 then bs else vwB s q)/\vwT (s.wrS (ofNat q0) 64 bs) q=(bif Nat.beq q q0 then false else vwT s q):=by
 rw [wrS_on ho h0]
 have key:∀t:SS,t.P=(q0,bs) :: s.P->t.dur=s.dur->t.torn=s.torn->vwB t q=(bif Nat.beq q q0 then bs else vwB s q)/\vwT t q=(bif Nat.beq q q0 then false else vwT s q):=by
  intro t e1 e2 e3
  unfold vwB vwT
  rw [e1,e2,e3]
  show (bif (bif Nat.beq q q0 then true else lB s.P q) then (bif Nat.beq q q0 then bs else lbs s.P q) else s.dur q)= _/\(bif (bif Nat.beq q q0 then true else lB s.P q) then false else s.torn q)= _
  cases Nat.beq q q0 with
  | true=>simp only [cond_true];exact ⟨trivial,trivial⟩
  | false=>simp only [cond_false];exact ⟨trivial,trivial⟩
 rcases pay_or (s.wrote q0 bs) with e | e | e<;>rw [e]<;>exact key _ rfl rfl rfl
theorem wrE_on {s:SS} {i:Int} (h:s.wrE i 64=0):s.off=false:=by
 cases e:s.off with
 | false=>rfl
 | true=>
   have h13:s.wrE i 64=13:=by unfold SS.wrE;rw [e]
   rw [h13] at h
   exact absurd h (by decide)
theorem runW_vw (c:Nat->Nat->Nat):∀(j:Nat) (s:SS) (a k mm:Nat),OkM s mm->a+j<=s.n->(runW c j s a k).1=0->(runW c j s a k).2.2=a+j/\
 ∀q,(∀i,i<j->q=a+i->vwB (runW c j s a k).2.1 q=(fun t=>ofNat (c (k+i) t))/\vwT (runW c j s a k).2.1 q=false)/\((q<a\/a+j<=q)->vwB (runW c j s a k).2.1 q=vwB s q/\vwT (runW c j s a k).2.1 q=vwT s q)
 | 0,s,a,k,mm,ok,ha,h=>⟨rfl,fun q=>⟨fun i hi=>absurd hi (Nat.not_lt_zero _),fun _=>⟨rfl,rfl⟩⟩⟩
 | j+1,s,a,k,mm,ok,ha,h=>by
   have e:runW c (j+1) s a k=(match decide (s.wrE (ofNat a) 64=0) with
    | true=>runW c j (s.wrS (ofNat a) 64 fun t=>ofNat (c k t)) (a+1) (k+1)
    | false=>(s.wrE (ofNat a) 64,s.wrS (ofNat a) 64 (fun t=>ofNat (c k t)),a)):=rfl
   cases d:decide (s.wrE (ofNat a) 64=0) with
   | false=>
     rw [d] at e
     rw [e] at h
     exact absurd h (of_decide_eq_false d)
   | true=>
     rw [d] at e
     simp only at e
     have on:=wrE_on (of_decide_eq_true d)
     have ok1:=ok.wrS (q:=a) (by omega) fun t=>ofNat (c k t)
     have v1:=fun q=>vw_wrS (bs:=fun t=>ofNat (c k t)) on (by omega:a<s.n) q
     rw [e] at h⊢
     have ih:=runW_vw c j _ (a+1) (k+1) (mm+1) ok1 (by rw [wrS_n];omega) h
     refine ⟨by rw [ih.1];omega,fun q=>⟨fun i hi hq=>?_,fun hq=>?_⟩⟩
     · cases i with
       | zero=>
         have hq':q=a:=hq
         subst hq'
         have h2:=(ih.2 q).2 (.inl (by omega))
         rw [h2.1,h2.2,(v1 q).1,(v1 q).2,Nat.beq_refl,cond_true,cond_true]
         exact ⟨rfl,rfl⟩
       | succ i=>
         have h2:=(ih.2 q).1 i (by omega) (by omega)
         rw [h2.1,h2.2,show k+1+i=k+(i+1) by omega]
         exact ⟨rfl,rfl⟩
     · have h2:=(ih.2 q).2 (by omega)
       have hb:Nat.beq q a=false:=by rw [Bool.eq_false_iff,ne_eq,Nat.beq_eq];omega
       rw [h2.1,h2.2,(v1 q).1,(v1 q).2,hb,cond_false,cond_false]
       exact ⟨rfl,rfl⟩
theorem runR_vw (gen first:Nat) (m:Nat->Nat) (b:Nat->Nat->Nat):∀(j:Nat) (s:SS) (a i mm:Nat),OkM s mm->a+sumP m j i<=s.n->(runR gen first m b j s a i).1=0->
 ∀q,(∀r k,r<j->k<npF (m (i+r))->q=a+sumP m r i+k->vwB (runR gen first m b j s a i).2.1 q=(fun t=>ofNat (pcB gen (first+(i+r)) (npF (m (i+r))) (m (i+r)) (b (i+r)) k t))/\vwT (runR gen first m b j s a i).2.1 q=false)/\
  ((q<a\/a+sumP m j i<=q)->vwB (runR gen first m b j s a i).2.1 q=vwB s q/\vwT (runR gen first m b j s a i).2.1 q=vwT s q)
 | 0,s,a,i,mm,ok,ha,h,q=>⟨fun r k hr=>absurd hr (Nat.not_lt_zero _),fun _=>⟨rfl,rfl⟩⟩
 | j+1,s,a,i,mm,ok,ha,h,q=>by
   have e:runR gen first m b (j+1) s a i=(match decide ((recW gen first m b s a i).1=0) with
    | true=>runR gen first m b j (recW gen first m b s a i).2.1 (recW gen first m b s a i).2.2 (i+1)
    | false=>recW gen first m b s a i):=rfl
   have ha':a+(npF (m i)+sumP m j (i+1))<=s.n:=ha
   have h2:=recW_at gen first m b s a i mm ok (by omega)
   cases d:decide ((recW gen first m b s a i).1=0) with
   | false=>
     rw [d] at e
     rw [e] at h
     exact absurd h (of_decide_eq_false d)
   | true=>
     rw [d] at e
     simp only at e
     have w:=runW_vw (pcB gen (first+i) (npF (m i)) (m i) (b i)) (npF (m i)) s a 0 mm ok (by omega) (of_decide_eq_true d)
     have wa:(recW gen first m b s a i).2.2=a+npF (m i):=w.1
     rw [e] at h⊢
     rw [wa] at h⊢
     have ih:=runR_vw gen first m b j (recW gen first m b s a i).2.1 (a+npF (m i)) (i+1) (mm+npF (m i)) h2.2.2 (by rw [h2.1];omega) h q
     refine ⟨fun r k hr hk hq=>?_,fun hq=>?_⟩
     · cases r with
       | zero=>
         have hk':k<npF (m i):=hk
         have hq':q=a+k:=by rw [hq];show a+0+k=a+k;omega
         have h3:=ih.2 (.inl (by omega))
         have h4:=(w.2 q).1 k hk' hq'
         refine ⟨h3.1.trans (h4.1.trans ?_),h3.2.trans h4.2⟩
         rw [Nat.zero_add];rfl
       | succ r=>
         have es:sumP m (r+1) i=npF (m i)+sumP m r (i+1):=rfl
         have h3:=ih.1 r k (by omega) (by rw [show i+1+r=i+(r+1) by omega];exact hk) (by rw [hq,es];omega)
         rw [show i+1+r=i+(r+1) by omega] at h3
         exact h3
     · have es:sumP m (j+1) i=npF (m i)+sumP m j (i+1):=rfl
       rw [es] at hq
       have h3:=ih.2 (by omega)
       have h4:=(w.2 q).2 (by omega)
       exact ⟨h3.1.trans h4.1,h3.2.trans h4.2⟩
theorem rdB_v (s:SS) (q:Nat):s.rdB (ofNat q)=vwB s q:=by
 have et:(ofNat q).toNat=q:=rfl
 unfold SS.rdB vwB
 rw [et]
 cases lB s.P q with
 | true=>rw [cond_true]
 | false=>rw [cond_false]
theorem bB_v {s:SS} {q:Nat} (on:s.off=false) (hq:q<s.n):bB s q=bif vwT s q then (fun _=>0) else fun t=>(vwB s q t).toNat:=by
 have et:(ofNat q).toNat=q:=rfl
 have e:s.rdE (ofNat q)=bif vwT s q then 14 else 0:=by
  unfold SS.rdE vwT
  rw [on,decide_eq_true (show (0:Int)<=ofNat q/\ofNat q<ofNat s.n from ⟨by simp,by simp;omega⟩)]
  simp only [et]
  cases lB s.P q with
  | true=>rw [cond_true,cond_false]
  | false=>
    rw [cond_false]
    cases s.torn q with
    | true=>rw [cond_true]
    | false=>rw [cond_false]
 unfold bB
 rw [e]
 cases vwT s q with
 | true=>
   rw [cond_true,cond_true]
   rfl
 | false=>
   rw [cond_false,cond_false]
   show rdC s (ofNat q)= _
   unfold rdC
   rw [rdB_v]
theorem bB_same {s s':SS} {q:Nat} (on:s.off=false) (on':s'.off=false) (hq:q<s.n) (hq':q<s'.n) (h1:vwB s' q=vwB s q) (h2:vwT s' q=vwT s q):bB s' q=bB s q:=by
 rw [bB_v on hq,bB_v on' hq',h1,h2]
theorem bB_laid {s:SS} {q:Nat} {c:Nat->Nat} (on:s.off=false) (hq:q<s.n) (h1:vwB s q=fun t=>ofNat (c t)) (h2:vwT s q=false):bB s q=c:=by
 rw [bB_v on hq,h2,cond_false,h1]
 rfl
theorem cmt_bB (gen first n mm:Nat) (m:Nat->Nat) (b:Nat->Nat->Nat) (s:SS) (a:Nat) (ok:OkM s mm) (ha:a+sumP m n 0<=s.n) (on:s.off=false) (h:cmtE gen first n m b s a=0) (q:Nat) (hq:q<s.n) :
 (∀r k,r<n->k<npF (m r)->q=a+sumP m r 0+k->bB (cmtS gen first n m b s a) q=pcB gen (first+r) (npF (m r)) (m r) (b r) k)/\((q<a\/a+sumP m n 0<=q)->bB (cmtS gen first n m b s a) q=bB s q):=by
 obtain ⟨o1,_,o3⟩:=cmt_on gen first n m b s a h
 have hn:=(cmtS_ok gen first n mm m b s a ok ha).2
 have e:cmtS gen first n m b s a=(runR gen first m b n s a 0).2.1.bar:=by
  unfold cmtS;rw [decide_eq_true o3]
 have w:=runR_vw gen first m b n s a 0 mm ok ha o3 q
 have v:=vw_bar (runR gen first m b n s a 0).2.1 q
 rw [<-e] at v
 refine ⟨fun r k hr hk hp=>?_,fun hp=>?_⟩
 · have h1:=w.1 r k hr (by rw [Nat.zero_add];exact hk) hp
   rw [Nat.zero_add] at h1
   exact bB_laid o1 (by rw [hn];exact hq) (v.1.trans h1.1) (v.2.trans h1.2)
 · have h1:=w.2 hp
   exact bB_same on o1 hq (by rw [hn];exact hq) (v.1.trans h1.1) (v.2.trans h1.2)
end Go.Proofs.Jn
