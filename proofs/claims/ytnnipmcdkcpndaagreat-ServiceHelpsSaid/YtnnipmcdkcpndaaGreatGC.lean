/- Runs over unknown values, told by the kernel: part GC. -/
import Derived.Test.YtnnipmcdkcpndaaGreatGB
noncomputable section
open Int (ofNat)
set_option linter.unusedSimpArgs false
set_option linter.unusedVariables false
set_option maxRecDepth 20000
namespace Go.Proofs.Lk
open Go Go.Sim Go.Proofs
theorem tsC_1 (t:TS):∀i,i<44->(tsC t).getD (0+i*1+0) .p0=rsF t.r i
 | 0,_=>by kernel_rfl
 | 1,_=>by kernel_rfl
 | 2,_=>by kernel_rfl
 | 3,_=>by kernel_rfl
 | 4,_=>by kernel_rfl
 | 5,_=>by kernel_rfl
 | 6,_=>by kernel_rfl
 | 7,_=>by kernel_rfl
 | 8,_=>by kernel_rfl
 | 9,_=>by kernel_rfl
 | 10,_=>by kernel_rfl
 | 11,_=>by kernel_rfl
 | 12,_=>by kernel_rfl
 | 13,_=>by kernel_rfl
 | 14,_=>by kernel_rfl
 | 15,_=>by kernel_rfl
 | 16,_=>by kernel_rfl
 | 17,_=>by kernel_rfl
 | 18,_=>by kernel_rfl
 | 19,_=>by kernel_rfl
 | 20,_=>by kernel_rfl
 | 21,_=>by kernel_rfl
 | 22,_=>by kernel_rfl
 | 23,_=>by kernel_rfl
 | 24,_=>by kernel_rfl
 | 25,_=>by kernel_rfl
 | 26,_=>by kernel_rfl
 | 27,_=>by kernel_rfl
 | 28,_=>by kernel_rfl
 | 29,_=>by kernel_rfl
 | 30,_=>by kernel_rfl
 | 31,_=>by kernel_rfl
 | 32,_=>by kernel_rfl
 | 33,_=>by kernel_rfl
 | 34,_=>by kernel_rfl
 | 35,_=>by kernel_rfl
 | 36,_=>by kernel_rfl
 | 37,_=>by kernel_rfl
 | 38,_=>by kernel_rfl
 | 39,_=>by kernel_rfl
 | 40,_=>by kernel_rfl
 | 41,_=>by kernel_rfl
 | 42,_=>by kernel_rfl
 | 43,_=>by kernel_rfl
 | n+44,h=>absurd h (by omega)
theorem tsC_2 (t:TS):∀i j,i<19->j<3->(tsC t).getD (44+i*3+j) .p0=hF t.h i j
 | 0,0,_,_=>by kernel_rfl
 | 0,1,_,_=>by kernel_rfl
 | 0,2,_,_=>by kernel_rfl
 | 1,0,_,_=>by kernel_rfl
 | 1,1,_,_=>by kernel_rfl
 | 1,2,_,_=>by kernel_rfl
 | 2,0,_,_=>by kernel_rfl
 | 2,1,_,_=>by kernel_rfl
 | 2,2,_,_=>by kernel_rfl
 | 3,0,_,_=>by kernel_rfl
 | 3,1,_,_=>by kernel_rfl
 | 3,2,_,_=>by kernel_rfl
 | 4,0,_,_=>by kernel_rfl
 | 4,1,_,_=>by kernel_rfl
 | 4,2,_,_=>by kernel_rfl
 | 5,0,_,_=>by kernel_rfl
 | 5,1,_,_=>by kernel_rfl
 | 5,2,_,_=>by kernel_rfl
 | 6,0,_,_=>by kernel_rfl
 | 6,1,_,_=>by kernel_rfl
 | 6,2,_,_=>by kernel_rfl
 | 7,0,_,_=>by kernel_rfl
 | 7,1,_,_=>by kernel_rfl
 | 7,2,_,_=>by kernel_rfl
 | 8,0,_,_=>by kernel_rfl
 | 8,1,_,_=>by kernel_rfl
 | 8,2,_,_=>by kernel_rfl
 | 9,0,_,_=>by kernel_rfl
 | 9,1,_,_=>by kernel_rfl
 | 9,2,_,_=>by kernel_rfl
 | 10,0,_,_=>by kernel_rfl
 | 10,1,_,_=>by kernel_rfl
 | 10,2,_,_=>by kernel_rfl
 | 11,0,_,_=>by kernel_rfl
 | 11,1,_,_=>by kernel_rfl
 | 11,2,_,_=>by kernel_rfl
 | 12,0,_,_=>by kernel_rfl
 | 12,1,_,_=>by kernel_rfl
 | 12,2,_,_=>by kernel_rfl
 | 13,0,_,_=>by kernel_rfl
 | 13,1,_,_=>by kernel_rfl
 | 13,2,_,_=>by kernel_rfl
 | 14,0,_,_=>by kernel_rfl
 | 14,1,_,_=>by kernel_rfl
 | 14,2,_,_=>by kernel_rfl
 | 15,0,_,_=>by kernel_rfl
 | 15,1,_,_=>by kernel_rfl
 | 15,2,_,_=>by kernel_rfl
 | 16,0,_,_=>by kernel_rfl
 | 16,1,_,_=>by kernel_rfl
 | 16,2,_,_=>by kernel_rfl
 | 17,0,_,_=>by kernel_rfl
 | 17,1,_,_=>by kernel_rfl
 | 17,2,_,_=>by kernel_rfl
 | 18,0,_,_=>by kernel_rfl
 | 18,1,_,_=>by kernel_rfl
 | 18,2,_,_=>by kernel_rfl
 | n+19,_,h,_=>absurd h (by omega)
 | 0,n+3,_,h=>absurd h (by omega)
 | 1,n+3,_,h=>absurd h (by omega)
 | 2,n+3,_,h=>absurd h (by omega)
 | 3,n+3,_,h=>absurd h (by omega)
 | 4,n+3,_,h=>absurd h (by omega)
 | 5,n+3,_,h=>absurd h (by omega)
 | 6,n+3,_,h=>absurd h (by omega)
 | 7,n+3,_,h=>absurd h (by omega)
 | 8,n+3,_,h=>absurd h (by omega)
 | 9,n+3,_,h=>absurd h (by omega)
 | 10,n+3,_,h=>absurd h (by omega)
 | 11,n+3,_,h=>absurd h (by omega)
 | 12,n+3,_,h=>absurd h (by omega)
 | 13,n+3,_,h=>absurd h (by omega)
 | 14,n+3,_,h=>absurd h (by omega)
 | 15,n+3,_,h=>absurd h (by omega)
 | 16,n+3,_,h=>absurd h (by omega)
 | 17,n+3,_,h=>absurd h (by omega)
 | 18,n+3,_,h=>absurd h (by omega)
theorem tsC_3 (t:TS):∀i,i<19->(tsC t).getD (101+i*1+0) .p0=quF t.n t.A t.M t.W i
 | 0,_=>by kernel_rfl
 | 1,_=>by kernel_rfl
 | 2,_=>by kernel_rfl
 | 3,_=>by kernel_rfl
 | 4,_=>by kernel_rfl
 | 5,_=>by kernel_rfl
 | 6,_=>by kernel_rfl
 | 7,_=>by kernel_rfl
 | 8,_=>by kernel_rfl
 | 9,_=>by kernel_rfl
 | 10,_=>by kernel_rfl
 | 11,_=>by kernel_rfl
 | 12,_=>by kernel_rfl
 | 13,_=>by kernel_rfl
 | 14,_=>by kernel_rfl
 | 15,_=>by kernel_rfl
 | 16,_=>by kernel_rfl
 | 17,_=>by kernel_rfl
 | 18,_=>by kernel_rfl
 | n+19,h=>absurd h (by omega)
theorem tsW_ov (t:TS):OV (some (tsW t)) (some (tsS t)):=by
 refine OV.segsW ⟨⟨rfl,rfl,rfl,fun i j hi hj=>?_⟩,⟨rfl,rfl,rfl,fun i j hi hj=>.of (tsC_2 t i j hi hj)⟩,⟨rfl,rfl,rfl,fun i j hi hj=>?_⟩,trivial⟩
 · obtain rfl:j=0:=by have:j<1:=hj;omega
   exact .of (tsC_1 t i hi)
 · obtain rfl:j=0:=by have:j<1:=hj;omega
   exact .of (tsC_3 t i hi)
theorem tsL_map (t:TS):tsL t=(tsC t).map toAV:=by kernel_rfl
theorem tsL_len (t:TS):(tsL t).length=120:=by kernel_rfl
theorem tsC_len (t:TS):(tsC t).length=120:=by kernel_rfl
theorem vwl_at {l r:List AV} (h:VWL l r) {i:Nat} (hi:i<r.length):∃u,l[i]? =some u/\VW u (r[i]):=h.get i _ (List.getElem?_eq_getElem hi)
theorem cells_ov (e:TypeId) (d:List AV) (cs:T AV) (t:TS) (l:List AV) (hl:∀i,i<120->cellAt 120 d cs i=l[i]?) (hv:VWL l (tsL t)):OX (some (.cells e 120 d cs)) (some (.segs e 120 [⟨0,1,44,fun i j=>(tsC t).getD (0+i*1+j) .p0⟩,⟨44,3,19,fun i j=>(tsC t).getD (44+i*3+j) .p0⟩,⟨101,1,19,fun i j=>(tsC t).getD (101+i*1+j) .p0⟩] [])):=by
 have key:∀k,k<120->∃v,cellAt 120 d cs k=some v/\∀(ρ:Rho) (x:Value),VR ρ v x->CR ρ.ro ((tsC t).getD k .p0) x:=by
  intro k hk
  obtain ⟨u,u1,u2⟩:=vwl_at hv (i:=k) (by rw [tsL_len];exact hk)
  refine ⟨u,by rw [hl k hk];exact u1,fun ρ x hx=>?_⟩
  have h2:=u2.2 ρ x hx
  have e2:(tsL t)[k]'(by rw [tsL_len];exact hk)=toAV ((tsC t).getD k .p0):=by
   have:(tsL t)[k]? =((tsC t)[k]?).map toAV:=by rw [tsL_map,List.getElem?_map]
   rw [List.getElem?_eq_getElem (by rw [tsL_len];exact hk),List.getElem?_eq_getElem (by rw [tsC_len];exact hk)] at this
   rw [List.getD_eq_getElem?_getD,List.getElem?_eq_getElem (by rw [tsC_len];exact hk)]
   simpa using this
  rw [e2] at h2
  exact toAV_CR h2
 refine OX.cellsSegs fun g hg=>?_
 simp only [List.mem_cons,List.not_mem_nil,or_false] at hg
 rcases hg with rfl | rfl | rfl
 · exact ⟨by simp,fun i j hi hj=>key _ (by simp only at hi hj⊢;omega)⟩
 · exact ⟨by simp,fun i j hi hj=>key _ (by simp only at hi hj⊢;omega)⟩
 · exact ⟨by simp,fun i j hi hj=>key _ (by simp only at hi hj⊢;omega)⟩
theorem OV.trans {a b c:Option AObj} (h:OV a b) (h':OV b c):OV a c:=by
 refine .x fun x' hx=>?_
 obtain ⟨y,hy,y1,y2⟩:=h'.some hx
 obtain ⟨z,hz,z1,z2⟩:=h.some hy
 exact ⟨z,hz,fun q=>y1 (z1 q),fun ρ p w q=>y2 ρ p w (z2 ρ p w q)⟩
theorem tsZ_ov (d:List AV) (t:TS):OV (some (tsD d t)) (some (tsS t)):=by
 refine OV.trans (.x (cells_ov 39 d (setAll .e 0 (tsL t)) t (tsL t) (fun i hi=>?_) (VWL.refl _))) (tsW_ov t)
 unfold cellAt
 have hb:Nat.blt i 120=true:=by rw [Nat.blt_eq];exact hi
 rw [hb,setAll_get,if_pos ⟨Nat.zero_le _,by rw [tsL_len];omega⟩]
 rw [Nat.sub_zero,List.getElem?_eq_getElem (by rw [tsL_len];exact hi)]
 rfl
theorem shR_vc (n i:Nat) (A M W:Nat->Int) (h0:decide (ofNat i<ofNat n)=true) (h1:(!(decide (A (Int.toNat (ofNat i))=A (Int.toNat (ofNat i))) && (decide (M (Int.toNat (ofNat i))=M (Int.toNat (ofNat i))) && (decide (W (Int.toNat (ofNat i))=W (Int.toNat (ofNat i))) && true))))=false) (K:Res->Orc->Prop):runK PG 1000000 (.code (loopAt PG 49 0) 26 (mkT [(0,svN n A M W),(1,svN n A M W),(5,.i .i64 (ofNat i))]) (mkH [])) (.t (.f .z)) K=((fun (q2:AV)=>((fun (q1:AV)=>((fun (q0:Bool)=>(decide (ofNat i<ofNat n)=true/\(0<=ofNat i/\ofNat i<↑n)/\True/\(0<=ofNat i/\ofNat i<↑n)/\True/\True/\(!q0)=false/\rg (ofNat i+1)/\K (.st .nrm (zz1 q1 (zz1 q1 (zz0 (zz0 (zzn i) (zzl (.pv 3 (qF A M W i)))) (zz1 (inv i) (zzl (.pv 3 (qF A M W i))) .e)) (zz1 (.i .i64 (ofNat i+1)) (zz0 (zzl q1) (zzl (.b !q0))) (zz1 (inv n) (zzl q1) .e))) (zz0 (zz0 (zz0 (zzl (.i .i64 (ofNat i+1))) (zzl q2)) (zz1 q1 (zzl q2) .e)) (zz0 (zz0 (zzn i) .e) (zz1 (.b (decide (ofNat i<ofNat n))) (zzn i) .e)))) ⟨.e,0,[]⟩) .z)) (decide (A i=A i) && (decide (M i=M i) && (decide (W i=W i) && true))))) (.sv 3 n (qF A M W)))) (.agg [.i .i64 (A i),.i .i64 (M i),.i .i64 (W i)])):=by kernel_rfl
theorem shE_vc (n i:Nat) (A M W:Nat->Int) (h0:decide (ofNat i<ofNat n)=false) (K:Res->Orc->Prop):runK PG 1000000 (.code (loopAt PG 49 0) 26 (mkT [(0,svN n A M W),(1,svN n A M W),(5,.i .i64 (ofNat i))]) (mkH [])) (.f .z) K=((fun (q0:AV)=>(decide (ofNat i<ofNat n)=false/\K (.st (.exit 0) (zz1 q0 (zz1 q0 (zz0 .e (zzn i)) (zz1 (inv i) .e (zzn n))) (zz0 (zz0 .e (zzl q0)) (zz0 .e (zzl (.b (decide (ofNat i<ofNat n))))))) ⟨.e,0,[]⟩) .z)) (.sv 3 n (qF A M W))):=by kernel_rfl
theorem sh_vc (n:Nat) (A M W:Nat->Int) (V:AV):runK PG 1000000 (.call 49 [svN n A M W,svN n A M W] (mkH [])) (.f (.lop [] [0,1,5] 0 (.exit 0) [] [] .z)) (fun r _=>rvIs V r)=((!decide (ofNat n=ofNat n))=false/\LDoes PG (loopAt PG 49 0) 26 0 (mkT [(0,svN n A M W),(1,svN n A M W),(5,AV.i .i64 0)]) [] (.exit 0) (mkT []) []/\(AV.b true)=V):=by kernel_rfl
theorem saR_vc (t:TS) (l:Nat) (h1:decide (ofNat l<19)=true) (h2:(!(decide (t.h l 0=t.h l 0) && (decide (t.h l 1=t.h l 1) && (decide (t.h l 2=t.h l 2) && true))))=false) (K:Res->Orc->Prop):runK PG 1000000 (.code (loopAt PG 48 0) 31 (mkT [(2,.p 0 0),(3,.p 1 0),(5,.i .i64 (ofNat l))]) (mkH [some (tsS t),some (tsS t)])) (.t (.s (.s (ot 3 (.s (ot 4 (.s (.t (.t (.cal [] (.b true) [] (.t (.f (.c .z)))))) .z)) .z)) .z) .z)) K=((fun (q2:AV)=>((fun (q1:Nat)=>((fun (q0:Bool)=>(decide (ofNat l<19)=true/\True/\(0<=ofNat l/\ofNat l<19)/\l<19/\True/\(0<=ofNat l/\ofNat l<19)/\l<19/\True/\r2 ((!!q0)=true) (True/\(!!q0)=true/\(0<=ofNat l/\ofNat l<19)/\(!!q0)=true/\l<19/\r2 ((!!q0)=true) (True/\(!!q0)=true/\(0<=ofNat l/\ofNat l<19)/\(!!q0)=true/\l<19/\(!!q0)=true/\Con PG 49 [svN (TS.n t l) (TS.A t q1) (TS.M t q1) (TS.W t q1),svN (TS.n t l) (TS.A t q1) (TS.M t q1) (TS.W t q1)] [] (.b true) []/\(!!q0)=true/\True/\(!q0)=false/\rg (ofNat l+1)/\K (.st .nrm (zz0 (zz0 (zz1 (.p 1 0) (zz1 (.b (decide (ofNat l<19))) (zzl (.p 1 44)) (zzl (.sv 3 (TS.n t l) (qF (TS.A t q1) (TS.M t q1) (TS.W t q1))))) (zz1 (.p 0 44) (zzl (.b !q0)) (zzl (.sv 3 (TS.n t l) (qF (TS.A t q1) (TS.M t q1) (TS.W t q1)))))) (zz1 (.i .i64 (ofNat l+1)) (zz1 (.i .i64 (ofNat l+1)) (zzl q2) (zzl (.p 1 101))) (zz1 q2 (zzl (.p 0 101)) (zzl (.b false))))) (zz1
 (.p 0 0) (zz0 (zz1 (inv l) (zzl (.ps 1 44 3 19 l)) (zzn l)) (zz1 (.ps 0 44 3 19 l) (zzn l) zzb)) (zz1 (inv l) (zz1 (inv l) (zzl (.b !q0)) (zzl (.ps 1 101 1 19 l))) (zz1 (inv l) (zzl (.ps 0 101 1 19 l)) (zzl (.b false)))))) ⟨zz1 (tsS t) (zzl (tsS t)) .e,2,[]⟩) .z)))) (decide (TS.h t l 0=TS.h t l 0) && (decide (TS.h t l 1=TS.h t l 1) && (decide (TS.h t l 2=TS.h t l 2) && true))))) (Int.toNat (ofNat l)))) (.agg [.i .i64 (TS.h t l 0),.i .i64 (TS.h t l 1),.i .i64 (TS.h t l 2)])):=by kernel_rfl
theorem saE_vc (t:TS) (K:Res->Orc->Prop):runK PG 1000000 (.code (loopAt PG 48 0) 31 (mkT [(2,.p 0 0),(3,.p 1 0),(5,.i .i64 19)]) (mkH [some (tsS t),some (tsS t)])) (.c .z) K=(K (.st (.exit 0) (zz0 (zz0 (zz1 (.p 1 0) (zzl (.b false)) .e) (zzl (.i .i64 19))) (zz1 (.p 0 0) .e (zzl (.i .i64 19)))) ⟨zz1 (tsS t) (zzl (tsS t)) .e,2,[]⟩) .z):=by kernel_rfl
theorem sa_vc (t:TS) (V:AV):runK PG 1000000 (.call 48 [tsV t,tsV t] (mkH [])) (oc 2 (.lop [0,1] [2,3,5] 2 (.exit 0) [] [some (tsS t),some (tsS t)] .z)) (fun r _=>rvIs V r)=(LDoes PG (loopAt PG 48 0) 31 2 (mkT [(2,AV.p 0 0),(3,AV.p 1 0),(5,AV.i .i64 0)]) [some (tsO t),some (tsO t)] (.exit 0) (mkT []) [some (tsS t),some (tsS t)]/\(AV.b true)=V):=by kernel_rfl
theorem sh_lp (n:Nat) (A M W:Nat->Int) (hn:n<=1152921504606846976):LDoes PG (loopAt PG 49 0) 26 0 (mkT [(0,svN n A M W),(1,svN n A M W),(5,.i .i64 0)]) [] (.exit 0) (mkT []) []:=by
 refine loop_ind (fun i:Nat=>([(0,svN n A M W),(1,svN n A M W),(5,.i .i64 (ofNat i))],[])) (fun i=>n-i) (fun i=>i<=n) ?_ 0 (Nat.zero_le _)
 intro i hi
 refine ⟨Nat.le_refl _,?_⟩
 by_cases e:i=n
 · have h0:decide (ofNat i<ofNat n)=false:=by simp;omega
   exact ⟨_,_,(shE_vc n i A M W h0 _).mpr ⟨h0,.inr ⟨[],[],_,_,rfl,by simp,st_k [] (by kernel_rfl)⟩⟩⟩
 · have h0:decide (ofNat i<ofNat n)=true:=by simp;omega
   have h1:(!(decide (A (Int.toNat (ofNat i))=A (Int.toNat (ofNat i))) && (decide (M (Int.toNat (ofNat i))=M (Int.toNat (ofNat i))) && (decide (W (Int.toNat (ofNat i))=W (Int.toNat (ofNat i))) && true))))=false:=by simp
   exact ⟨_,_,(shR_vc n i A M W h0 h1 _).mpr ⟨h0,⟨by simp<;>omega,by simp<;>omega⟩,trivial,⟨by simp<;>omega,by simp<;>omega⟩,trivial,trivial,h1,⟨by simp<;>omega,by simp<;>omega⟩,.inl ⟨i+1,[],[],_,_,by omega,by show n-(i+1)<n-i;omega,rfl,st_k [] (by kernel_rfl)⟩⟩⟩
theorem sameH_con (q:List HQ) (hn:q.length<=1152921504606846976):Con PG 49 [svQ q,svQ q] [] (.b true) []:=
 con_pureX (sh_vc _ _ _ _ _) rfl ⟨by simp,sh_lp _ _ _ _ hn,rfl⟩
theorem same_lp (s:LS) (ok:s.ok):LDoes PG (loopAt PG 48 0) 31 2 (mkT [(2,.p 0 0),(3,.p 1 0),(5,.i .i64 0)]) [some (tsO s.ts),some (tsO s.ts)] (.exit 0) (mkT []) [some (tsS s.ts),some (tsS s.ts)]:=by
 have key:=loop_ind (P:=PG) (c:=loopAt PG 48 0) (n:=31) (b:=2) (x:=.exit 0) (l':=[]) (objs':=[some (tsS s.ts),some (tsS s.ts)]) (D:=Nat) (fun l:Nat=>([(2,.p 0 0),(3,.p 1 0),(5,.i .i64 (ofNat l))],[some (tsS s.ts),some (tsS s.ts)])) (fun l=>19-l) (fun l=>l<=19) (fun l hl=>?_) 0 (Nat.zero_le _)
 · exact key.ovl (objs0:=[some (tsO s.ts),some (tsO s.ts)]) ⟨tsZ_ov [] _,tsZ_ov [] _,trivial⟩
 refine ⟨Nat.le_refl _,?_⟩
 by_cases e:l=19
 · subst e
   exact ⟨_,_,(saE_vc s.ts _).mpr (.inr ⟨[0,1],[],_,_,rfl,by simp,st_k [0,1] (by kernel_rfl)⟩)⟩
 have h1:decide (ofNat l<19)=true:=by simp<;>omega
 have h2p:(decide (s.ts.h l 0=s.ts.h l 0) && (decide (s.ts.h l 1=s.ts.h l 1) && (decide (s.ts.h l 2=s.ts.h l 2) && true)))=true:=by simp
 have h2:(!(decide (s.ts.h l 0=s.ts.h l 0) && (decide (s.ts.h l 1=s.ts.h l 1) && (decide (s.ts.h l 2=s.ts.h l 2) && true))))=false:=by rw [h2p];rfl
 have h2n:(!!(decide (s.ts.h l 0=s.ts.h l 0) && (decide (s.ts.h l 1=s.ts.h l 1) && (decide (s.ts.h l 2=s.ts.h l 2) && true))))=true:=by rw [h2p];rfl
 have shT:=sameH_con (s.row l).q (by have:=ok.q l;have e:s.ts.n l=(s.row l).q.length:=rfl;omega)
 exact ⟨_,_,(saR_vc s.ts l h1 h2 _).mpr ⟨h1,trivial,⟨by simp<;>omega,by simp<;>omega⟩,by omega,trivial,⟨by simp<;>omega,by simp<;>omega⟩,by omega,trivial,h2n,h2n,trivial,h2n,⟨by simp<;>omega,by simp<;>omega⟩,h2n,by omega,h2n,h2n,trivial,h2n,⟨by simp<;>omega,by simp<;>omega⟩,h2n,by omega,h2n,shT,h2n,trivial,h2,⟨by simp<;>omega,by simp<;>omega⟩,.inl ⟨l+1,[0,1],[],_,_,by omega,by show 19-(l+1)<19-l;omega,rfl,st_k [0,1] (by kernel_rfl)⟩⟩⟩
theorem same_con (s:LS) (ok:s.ok):Con PG 48 [lsV s,lsV s] [] (.b true) []:=
 con_pureX (sa_vc s.ts _) rfl ⟨same_lp s ok,rfl⟩
section
attribute [local irreducible] VWL upto
end
end Go.Proofs.Lk
