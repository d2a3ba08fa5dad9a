/- Runs over unknown values, told by the kernel: part GC. -/
import Derived.Test.YthhjjpofenjknaaDoorGB
noncomputable section
open Int (ofNat)
set_option linter.unusedSimpArgs false
set_option linter.unusedVariables false
set_option maxRecDepth 20000
namespace Go.Proofs.Jn
open Go Go.Sim Go.Proofs Go.Proofs.Cd Go.Proofs.St Go.Proofs.Cl Go.Proofs.YthhjjpofenjknaaDoor
theorem runW_ok (c:Nat->Nat->Nat):∀(j:Nat) (s:SS) (a k mm:Nat),OkM s mm->a+j<=s.n->OkM (runW c j s a k).2.1 (mm+j)/\(runW c j s a k).2.1.n=s.n/\(runW c j s a k).2.2<=a+j
 | 0,s,a,k,mm,ok,ha=>⟨ok,rfl,Nat.le_refl _⟩
 | j+1,s,a,k,mm,ok,ha=>by
   show OkM (match decide (s.wrE (ofNat a) 64=0) with | true=>_ | false=>_:Int×SS×Nat).2.1 _/\(match decide (s.wrE (ofNat a) 64=0) with | true=>_ | false=>_:Int×SS×Nat).2.1.n= _/\(match decide (s.wrE (ofNat a) 64=0) with | true=>_ | false=>_:Int×SS×Nat).2.2<=_
   have ok1:=ok.wrS (q:=a) (by omega) fun t=>ofNat (c k t)
   cases decide (s.wrE (ofNat a) 64=0) with
   | true=>
     have ih:=runW_ok c j (s.wrS (ofNat a) 64 fun t=>ofNat (c k t)) (a+1) (k+1) (mm+1) ok1 (by rw [wrS_n];omega)
     exact ⟨ih.1.mono (by omega),ih.2.1.trans (wrS_n _ _ _),Nat.le_trans ih.2.2 (by omega)⟩
   | false=>exact ⟨ok1.mono (by omega),wrS_n _ _ _,by simp only;omega⟩
def recW (gen first:Nat) (m:Nat->Nat) (b:Nat->Nat->Nat) (s:SS) (a i:Nat):Int×SS×Nat:=runW (pcB gen (first+i) (npF (m i)) (m i) (b i)) (npF (m i)) s a 0
def runR (gen first:Nat) (m:Nat->Nat) (b:Nat->Nat->Nat):Nat->SS->Nat->Nat->Int×SS×Nat
 | 0,s,a,_=>(0,s,a)
 | j+1,s,a,i=>match decide ((recW gen first m b s a i).1=0) with
   | true=>runR gen first m b j (recW gen first m b s a i).2.1 (recW gen first m b s a i).2.2 (i+1)
   | false=>recW gen first m b s a i
def sumP (m:Nat->Nat):Nat->Nat->Nat
 | 0,_=>0
 | j+1,i=>npF (m i)+sumP m j (i+1)
theorem runR_ok (gen first:Nat) (m:Nat->Nat) (b:Nat->Nat->Nat):∀(j:Nat) (s:SS) (a i mm:Nat),OkM s mm->a+sumP m j i<=s.n->
 OkM (runR gen first m b j s a i).2.1 (mm+sumP m j i)/\(runR gen first m b j s a i).2.1.n=s.n
 | 0,s,a,i,mm,ok,ha=>⟨ok,rfl⟩
 | j+1,s,a,i,mm,ok,ha=>by
   have ha':a+(npF (m i)+sumP m j (i+1))<=s.n:=ha
   have h1:=runW_ok (pcB gen (first+i) (npF (m i)) (m i) (b i)) (npF (m i)) s a 0 mm ok (by omega)
   show OkM (match decide ((recW gen first m b s a i).1=0) with | true=>_ | false=>_:Int×SS×Nat).2.1 (mm+(npF (m i)+sumP m j (i+1)))/\(match decide ((recW gen first m b s a i).1=0) with | true=>_ | false=>_:Int×SS×Nat).2.1.n= _
   cases decide ((recW gen first m b s a i).1=0) with
   | true=>
     have ih:=runR_ok gen first m b j (recW gen first m b s a i).2.1 (recW gen first m b s a i).2.2 (i+1) (mm+npF (m i)) h1.1 (by
      rw [show (recW gen first m b s a i).2.1.n=s.n from h1.2.1]
      have:(recW gen first m b s a i).2.2<=a+npF (m i):=h1.2.2
      omega)
     exact ⟨ih.1.mono (by omega),ih.2.trans h1.2.1⟩
   | false=>exact ⟨h1.1.mono (by omega),h1.2.1⟩
theorem sumP_ge (m:Nat->Nat):∀(j i:Nat),j<=sumP m j i
 | 0,i=>Nat.le_refl _
 | j+1,i=>by
   have:=sumP_ge m j (i+1)
   have:=npF_pos (m i)
   show j+1<=npF (m i)+sumP m j (i+1)
   omega
theorem npF_inv {m:Nat} (h:npF m<=512):m<=24064:=by
 unfold npF at h;split at h<;>omega
section
variable (at0:Int) (gen first n:Nat) (m:Nat->Nat) (b:Nat->Nat->Nat)
def ouI (at0:Int) (gen first n:Nat) (m:Nat->Nat) (b:Nat->Nat->Nat) (d:SS×Nat×Nat):List (Nat×AV)×List (Option AObj):=
 (oT n d.2.2 m b,cmR d.1 at0 (ofNat d.2.1) resO 0 gen first n m b)
structure OuOk (gen first n:Nat) (m:Nat->Nat) (b:Nat->Nat->Nat) (R:Int×SS×Nat) (d:SS×Nat×Nat):Prop where
 i:d.2.2<=n
 run:runR gen first m b (n-d.2.2) d.1 d.2.1 d.2.2=R
 ok:∃mm,OkM d.1 mm/\mm+sumP m (n-d.2.2) d.2.2<1073741823
 at_:d.2.1+sumP m (n-d.2.2) d.2.2<=d.1.n
theorem out_lp (hb:∀i t,b i t<256) (hn:first+n<4611686018427387904) (R:Int×SS×Nat) (x:XO) (objs':List (Option AObj))
 (hx:(R.1=0/\x=.exit 0/\objs'=cmR R.2.1 at0 (ofNat R.2.2) resO 0 gen first n m b)\/
   (R.1≠0/\x=.ret/\objs'=cmR R.2.1 at0 (ofNat R.2.2) (resE R.1) 1 gen first n m b)) (d:SS×Nat×Nat) (hd:OuOk gen first n m b R d) :
 LDoes PG (loopAt PG 72 0) 46 8 (mkT (ouI at0 gen first n m b d).1) (ouI at0 gen first n m b d).2 x (mkT []) objs':=by
 refine loop_ind (D:=SS×Nat×Nat) (l':=[]) (ouI at0 gen first n m b) (fun d=>n-d.2.2) (OuOk gen first n m b R) ?_ d hd
 rintro ⟨s,a,i⟩ ⟨hi,hR,⟨mm,ok,hmm⟩,ha⟩
 simp only at hi hR ok hmm ha
 have hn512:=ok.n
 by_cases hlt:i<n
 · obtain ⟨j,hj⟩:∃j,n-i=j+1:=⟨n-i-1,by omega⟩
   rw [hj] at hR hmm ha
   have hmm':mm+(npF (m i)+sumP m j (i+1))<1073741823:=hmm
   have ha':a+(npF (m i)+sumP m j (i+1))<=s.n:=ha
   have hge:=sumP_ge m j (i+1)
   have hmi:=npF_inv (m:=m i) (by omega)
   have h1:=runW_ok (pcB gen (first+i) (npF (m i)) (m i) (b i)) (npF (m i)) s a 0 mm ok (by omega)
   have hR':(match decide ((recW gen first m b s a i).1=0) with
    | true=>runR gen first m b j (recW gen first m b s a i).2.1 (recW gen first m b s a i).2.2 (i+1)
    | false=>recW gen first m b s a i)=R:=hR
   have hin:=fun x l' objs' hx=>in_lp at0 gen first n i (m i) (b i) m b (by omega) (hb i) (by omega) (recW gen first m b s a i) x l' objs' hx (s,a,0) ⟨Nat.zero_le _,by rw [Nat.sub_zero];rfl,⟨mm,ok,by simp only;omega⟩,by simp only;omega⟩
   have kP:=parts_con (m i) (b i) (by omega)
   by_cases hE:(recW gen first m b s a i).1=0
   · rw [decide_eq_true hE] at hR'
     have hL:=hin (.exit 2) (oT n i m b) _ (.inl ⟨hE,rfl,rfl,rfl⟩)
     refine ⟨Nat.le_refl _,1000000,_,(outA_vc s (recW gen first m b s a i).2.1 (ofNat (recW gen first m b s a i).2.2) (npF (m i)) at0 (ofNat a) gen first n i m b _).mpr ⟨fun _=>?_,fun h=>?_⟩⟩
     · refine ⟨⟨by simp,by simp;omega⟩,trivial,kP,hL,⟨by simp;omega,by simp;omega⟩,.inl ⟨((recW gen first m b s a i).2.1,(recW gen first m b s a i).2.2,i+1),[0,1,2,3,4,5,6,7],[],_,_,⟨hlt,?_,⟨mm+npF (m i),h1.1,?_⟩,?_⟩,by simp only;omega,rfl,st_k [0,1,2,3,4,5,6,7] (by kernel_rfl)⟩⟩
       · simp only;rw [show n-(i+1)=j by omega];exact hR'
       · simp only;rw [show n-(i+1)=j by omega];omega
       · simp only;rw [show n-(i+1)=j by omega,show (recW gen first m b s a i).2.1.n=s.n from h1.2.1]
         have:(recW gen first m b s a i).2.2<=a+npF (m i):=h1.2.2
         omega
     · simp at h;omega
   · rw [decide_eq_false hE] at hR'
     simp only at hR'
     rcases hx with ⟨h0,_⟩ | ⟨_,rfl,rfl⟩
     · rw [<-hR'] at h0;exact absurd h0 hE
     · subst hR'
       have hL:=hin .ret [] _ (.inr ⟨hE,rfl,rfl,rfl⟩)
       refine ⟨Nat.le_refl _,1000000,_,(outB_vc s (recW gen first m b s a i).2.1 (recW gen first m b s a i).1 (ofNat (recW gen first m b s a i).2.2) (npF (m i)) at0 (ofNat a) gen first n i m b _).mpr ⟨fun _=>?_,fun h=>?_⟩⟩
       · exact ⟨⟨by simp,by simp;omega⟩,trivial,kP,hL,.inr ⟨[0,1,2,3,4,5,6,7],[],_,_,rfl,by simp,st_k [0,1,2,3,4,5,6,7] (by kernel_rfl)⟩⟩
       · simp at h;omega
 · have hi':i=n:=by omega
   subst hi'
   rw [Nat.sub_self] at hR
   have hR':(0,s,a)=R:=hR
   subst hR'
   rcases hx with ⟨_,rfl,rfl⟩ | ⟨h0,_⟩
   · refine ⟨Nat.le_refl _,1000000,_,(outA_vc s s (ofNat a) 0 at0 (ofNat a) gen first i i m b _).mpr ⟨fun h=>?_,fun _=>?_⟩⟩
     · simp at h
     · exact .inr ⟨[0,1,2,3,4,5,6,7],[],_,_,rfl,by simp,st_k [0,1,2,3,4,5,6,7] (by kernel_rfl)⟩
   · exact absurd rfl h0
end
def cmtE (gen first n:Nat) (m:Nat->Nat) (b:Nat->Nat->Nat) (s:SS) (a:Nat):Int:=match decide ((runR gen first m b n s a 0).1=0) with
 | true=>(runR gen first m b n s a 0).2.1.faultE
 | false=>(runR gen first m b n s a 0).1
def cmtS (gen first n:Nat) (m:Nat->Nat) (b:Nat->Nat->Nat) (s:SS) (a:Nat):SS:=match decide ((runR gen first m b n s a 0).1=0) with
 | true=>(runR gen first m b n s a 0).2.1.bar
 | false=>(runR gen first m b n s a 0).2.1
theorem commit_con (gen first n mm:Nat) (m:Nat->Nat) (b:Nat->Nat->Nat) (s:SS) (a:Nat) (ok:OkM s mm) (hb:∀i t,b i t<256) (hn:first+n<4611686018427387904) (hm:mm+sumP m n 0<1073741823) (ha:a+sumP m n 0<=s.n) :
 Con PG 50 [.p 0 0,.i .i64 (ofNat a),cutV] [some s.o,some (cellsO 46 [.sv 1 n (recF m b)]),some (cellsO 3 [.i .i64 (ofNat gen)]),some (cellsO 3 [.i .i64 (ofNat first)])]
  (.i .i64 (cmtE gen first n m b s a)) [.set (cmtS gen first n m b s a).o,.keep,.keep,.keep]:=by
 have hok:=runR_ok gen first m b n s a 0 mm ok ha
 have hd:OuOk gen first n m b (runR gen first m b n s a 0) (s,a,0):=⟨Nat.zero_le _,by rw [Nat.sub_zero],⟨mm,ok,by simp only;rw [Nat.sub_zero];omega⟩,by simp only;rw [Nat.sub_zero];omega⟩
 by_cases hE:(runR gen first m b n s a 0).1=0
 · have hL:=out_lp (ofNat a) gen first n m b hb hn _ (.exit 0) _ (.inl ⟨hE,rfl,rfl⟩) (s,a,0) hd
   have kB:=barrier_con (runR gen first m b n s a 0).2.1 (by have:=hok.1.P;omega) (fun w hw=>by have:=hok.1.at_ w hw;have:=hok.1.n;omega)
   have e1:cmtE gen first n m b s a=(runR gen first m b n s a 0).2.1.faultE:=by unfold cmtE;rw [decide_eq_true hE]
   have e2:cmtS gen first n m b s a=(runR gen first m b n s a 0).2.1.bar:=by unfold cmtS;rw [decide_eq_true hE]
   rw [e1,e2]
   exact con_of_run [] [] ((cmA_vc s (runR gen first m b n s a 0).2.1 (runR gen first m b n s a 0).2.1.faultE (runR gen first m b n s a 0).2.1.bar (ofNat (runR gen first m b n s a 0).2.2) a gen first n m b _).mpr ⟨hL,kB,_,_,rfl,ret_k (by kernel_rfl)⟩)
 · have hL:=out_lp (ofNat a) gen first n m b hb hn _ .ret _ (.inr ⟨hE,rfl,rfl⟩) (s,a,0) hd
   have e1:cmtE gen first n m b s a=(runR gen first m b n s a 0).1:=by unfold cmtE;rw [decide_eq_false hE]
   have e2:cmtS gen first n m b s a=(runR gen first m b n s a 0).2.1:=by unfold cmtS;rw [decide_eq_false hE]
   rw [e1,e2]
   exact con_of_run [] [] ((cmB_vc s (runR gen first m b n s a 0).2.1 (runR gen first m b n s a 0).1 (ofNat (runR gen first m b n s a 0).2.2) a gen first n m b _).mpr ⟨hL,_,_,rfl,ret_k (by kernel_rfl)⟩)
def oneB (x:Int):Nat->Nat->CV:=listF 1 [.i .u8 x] 1
def oneL (x:Int):Nat->Nat->CV:=listF 1 [.sv 1 1 (oneB x)] 1
theorem commit1_con (gen first mm x:Nat) (s:SS) (a:Nat) (ok:OkM s mm) (hx:x<256) (hn:first+1<4611686018427387904) (hm:mm+1<1073741823) (ha:a+1<=s.n) :
 Con PG 50 [.p 0 0,.i .i64 (ofNat a),cutV] [some s.o,some (cellsO 46 [.l 4 0 1 1 1 true]),some (cellsO 3 [.i .i64 (ofNat gen)]),some (cellsO 3 [.i .i64 (ofNat first)]),some (cellsO 87 [.l 5 0 1 1 1 true]),some (cellsO 5 [.i .u8 (ofNat x)])]
  (.i .i64 (cmtE gen first 1 (fun _=>1) (fun _ _=>x) s a)) [.set (cmtS gen first 1 (fun _=>1) (fun _ _=>x) s a).o,.set (cellsO 46 [.sv 1 1 (recF (fun _=>1) fun _ _=>x)]),.keep,.keep,.gone,.gone]:=by
 have e1:sumP (fun _=>1) 1 0=1:=by
  show npF 1+sumP (fun _=>1) 0 1=1
  unfold npF sumP;rfl
 have k0:=commit_con gen first 1 mm (fun _=>1) (fun _ _=>x) s a ok (fun _ _=>hx) hn (by rw [e1];exact hm) (by rw [e1];exact ha)
 generalize cmtE gen first 1 (fun _=>1) (fun _ _=>x) s a=E at k0⊢
 generalize cmtS gen first 1 (fun _=>1) (fun _ _=>x) s a=S at k0⊢
 have k1:Con PG 50 [.p 0 0,.i .i64 (ofNat a),cutV] [some s.o,some (cellsO 46 [.sv 1 1 (recF (fun _=>1) fun _ _=>x)]),some (cellsO 3 [.i .i64 (ofNat gen)]),some (cellsO 3 [.i .i64 (ofNat first)]),none,none]
  (.i .i64 E) [.set S.o,.keep,.keep,.keep,.gone,.gone]:=
  k0.more [0,1,2,3] (by kernel_rfl) (hasAll_of (by kernel_rfl) (by kernel_rfl)) (by kernel_rfl) (by kernel_rfl) (by kernel_rfl) (by kernel_rfl)
 have k2:Con PG 50 [.p 0 0,.i .i64 (ofNat a),cutV] [some s.o,some (cellsO 46 [.sv 1 1 (oneL (ofNat x))]),some (cellsO 3 [.i .i64 (ofNat gen)]),some (cellsO 3 [.i .i64 (ofNat first)]),none,none]
  (.i .i64 E) [.set S.o,.set (cellsO 46 [.sv 1 1 (recF (fun _=>1) fun _ _=>x)]),.keep,.keep,.gone,.gone]:=by
  refine k1.ovl ⟨.refl _,.cells ⟨.svW fun i j hi hj=>?_,trivial⟩,.refl _,.refl _,.refl _,.refl _,trivial⟩ rfl
  obtain rfl:j=0:=by omega
  refine CW.sv fun i' j' hi' hj'=>?_
  obtain rfl:j'=0:=by omega
  exact .refl _
 have k3:Con PG 50 [.p 0 0,.i .i64 (ofNat a),cutV] [some s.o,some (cellsO 46 [.l 4 0 1 1 1 true]),some (cellsO 3 [.i .i64 (ofNat gen)]),some (cellsO 3 [.i .i64 (ofNat first)]),some (cellsO 87 [.sv 1 1 (oneB (ofNat x))]),none]
  (.i .i64 E) [.set S.o,.set (cellsO 46 [.sv 1 1 (recF (fun _=>1) fun _ _=>x)]),.keep,.keep,.gone,.gone]:=
  k2.thawZ 4 (z:=.cells 1 [.sv 1 1 (oneB (ofNat x))]) (by kernel_rfl) ⟨.inl rfl,.cells ⟨.inr ⟨by kernel_rfl,by show 0+1*1<=1;decide,rfl⟩,trivial⟩,.inl rfl,.inl rfl,rfl,.inl rfl,trivial⟩ ⟨.inl rfl,.inl rfl,.inl rfl,trivial⟩ rfl
 exact k3.thawZ 5 (z:=.cells 1 [.i .u8 (ofNat x)]) (by kernel_rfl) ⟨.inl rfl,.inl rfl,.inl rfl,.inl rfl,.cells ⟨.inr ⟨by kernel_rfl,by show 0+1*1<=1;decide,rfl⟩,trivial⟩,rfl,trivial⟩ ⟨.inl rfl,.inl rfl,.inl rfl,trivial⟩ rfl
theorem name_vc (s S2:SS) (E2:Int) (F2:Nat->Nat->CV) (gen area:Nat) (K:Res->Orc->Prop):runK PG 1000000 (.call 38 [.p 0 0,inv gen,inv area] (mkH [some s.o])) (.inl (.cal [0,5,3,4,2,1] (.i .i64 E2) [.set (SS.o S2),.set (cellsO 46 [.sv 1 1 F2]),.keep,.keep,.gone,.gone] .z)) K=((2:Int)≠(0:Int)/\True/\Con PG 50 [.p 0 0,.i .i64 (Int.tmod (ofNat gen) 2),cutV] [some (SS.o s),some (cellsO 46 [.l 4 0 1 1 1 true]),some (cellsO 3 [inv gen]),some (cellsO 3 [.i .i64 0]),some (cellsO 87 [.l 5 0 1 1 1 true]),some (cellsO 5 [.i .u8 (wrapA .u8 (ofNat area))])] (.i .i64 E2) [.set (SS.o S2),.set (cellsO 46 [.sv 1 1 F2]),.keep,.keep,.gone,.gone]/\K (.rv (.i .i64 E2) ⟨zz1 (SS.o S2) (zz0 (zzl (AObj.cells 3 1 [] (zzn gen))) (zzl (AObj.cells 46 1 [] (zzl (.sv 1 1 F2))))) (zz0 (zzl (AObj.cells 3 1 [] (zzl (.i .i64 0)))) .e),6,[1,2,5,0,5,4,3,2,1]⟩) .z):=by kernel_rfl
def rvIs (v:AV) (r:Res):Prop:=match r with | .rv v1 _=>v1=v | _=>False
theorem con_pure {P:Program} {f:Nat} {g:FuncId} {pargs:List AV} {o:Orc} {v:AV} (hb:below 0 v=true) (h:runK P f (.call g pargs (mkH [])) o fun r _=>rvIs v r):Con P g pargs [] v []:=by
 obtain ⟨r,o',hr,hd⟩:=runK_ok P f _ _ _ h
 cases r with
 | rv v1 H1=>
   obtain rfl:v1=v:=hr
   obtain ⟨hlg,hcall⟩:CallDoes P g pargs (mkH []) v1 H1:=hd
   intro ρ w args' hv hh hoff
   refine (hcall ρ w args' hv hh (fun A q1 _=>hoff A (Nat.zero_le _))).mono ?_
   rintro e w' ⟨v',ρ1,rfl,k1,k2,k3⟩
   have hid:ren id v1=v1:=ren_id v1
   have hnone:∀A,ρ A=none:=fun A=>hoff A (Nat.zero_le _)
   have hemp:∀A o,(mkH (postL [] [])).get A=some o->False:=by
    intro A o h
    rw [mkH_get] at h
    have:(postL [] []:List (Option AObj))=[]:=rfl
    rw [this] at h;simp at h
   refine ⟨v',⟨fun _=>none,ρ1.ro⟩,rfl,?_,⟨fun A o h=>(hemp A o h).elim,fun A _ o _ _ _ h=>(hemp A o h).elim,fun A x h=>by simp at h,k2.ro,fun B j v hv A o x h=>(hemp A o h).elim⟩,?_⟩
   · exact unren_VR (ρ:=⟨fun _=>none,ρ1.ro⟩) (ρ':=ρ1) (σ:=id) (k:=0) (fun A h=>by omega) (fun _ _ _ h=>h) hb (by rw [hid];exact k1)
   · refine ⟨Nat.zero_le _,⟨fun A x h=>by rw [hnone A] at h;simp at h,k3.ext.ro⟩,fun A x h=>by simp at h,k3.size,?_,fun A o x h=>(hemp A o h).elim,?_,k3.tape,k3.os,k3.output⟩
     · exact k3.frame
     · exact k3.roimg
 | st _ _ _=>exact absurd hr (by simp [rvIs])
theorem con_pureX {P:Program} {f:Nat} {g:FuncId} {pargs:List AV} {o:Orc} {v:AV} {R:Prop} (h:runK P f (.call g pargs (mkH [])) o (fun r _=>rvIs v r)=R) (hb:below 0 v=true) (hr:R):Con P g pargs [] v []:=con_pure hb (h.mpr hr)
abbrev rg (x:Int):Prop:=(-9223372036854775808)<=x/\x<=9223372036854775807
abbrev nt1 (x:Bool):Prop:=(!x)=true
abbrev dA (b:Nat->Nat):Bool:=decide ((47:Int)<ofNat (b 10))
abbrev dB (G:Nat):Bool:=decide (ofNat G<1)
abbrev dC (G:Nat):Bool:=decide ((1073741824:Int)<ofNat G)
abbrev dE (b:Nat->Nat):Bool:=decide ((24:Int)<ofNat (b 9))
abbrev dF (b:Nat->Nat):Bool:=decide (ofNat (b 9)<=ofNat (b 8))
abbrev dG (b:Nat->Nat):Bool:=decide (ofNat (b 8)<ofNat (b 9)-1)
abbrev dH (b:Nat->Nat):Bool:=decide (ofNat (Int.toNat ((11:Int)+ofNat (b 10))-11)=47)
abbrev dI (b:Nat->Nat):Bool:=decide (ofNat (b 9)=1)
abbrev dJ (R:Nat):Bool:=decide ((0:Int)<ofNat R)
abbrev dK (b:Nat->Nat):Bool:=decide ((0:Int)<ofNat (Int.toNat ((11:Int)+ofNat (b 10))-11))
abbrev kA (b:Nat->Nat):Prop:=Con PG 61 [.sv 1 64 (byF b)] [] (.tup [.sv 1 60 (byF b),.b true]) []
abbrev kB (b:Nat->Nat) (G1:Nat):Prop:=Con PG 62 [.sv 1 60 (byF b)] [] (.tup [.i .u32 (ofNat G1),.b true]) []
abbrev kC (b:Nat->Nat) (G2:Nat):Prop:=Con PG 62 [.sv 1 56 (shiftF 4 (byF b))] [] (.tup [.i .u32 (ofNat G2),.b true]) []
abbrev kD (b:Nat->Nat) (R:Nat) (RB:Nat->Nat):Prop:=Con PG 64 [.sv 1 (60-Int.toNat ((11:Int)+ofNat (b 10))) (shiftF (Int.toNat ((11:Int)+ofNat (b 10))) (byF b)),.s [0]] [] (.sv 1 R (byF RB)) []
abbrev ptZ:AV:=.agg [.i .i64 0,.i .i64 0,.i .i64 0,.i .i64 0,.l0]
abbrev okV (G1 G2:Nat) (b:Nat->Nat):AV:=.agg [.i .i64 (ofNat G1),.i .i64 (ofNat G2),.i .i64 (ofNat (b 8)),.i .i64 (ofNat (b 9)),.sv 1 (Int.toNat ((11:Int)+ofNat (b 10))-11) (shiftF 11 (byF b))]
abbrev ptW (b:Nat->Nat) (v:AV):Prop:=Con PG 41 [.sv 1 64 (byF b)] [] v []
abbrev q2 (G1 G2:Nat) (b:Nat->Nat) (X:Prop):Prop:=kA b/\True/\(0<=(10:Int)/\(10:Int)<(60:Int))/\True/\rg (ofNat (b 10))/\dA b=false/\kB b G1/\(0<=(4:Int)/\True/\4<=60/\60<=60)/\kC b G2/\rg (11+ofNat (b 10))/\((0:Int)<=11/\(0:Int)<=11+ofNat (b 10)/\11<=Int.toNat (11+ofNat (b 10))/\Int.toNat (11+ofNat (b 10))<=60)/\rg (11+ofNat (b 10))/\(0<=11+ofNat (b 10)/\True/\Int.toNat (11+ofNat (b 10))<=60/\60<=60)/\rg (ofNat G1)/\rg (ofNat G2)/\(0<=(8:Int)/\(8:Int)<(60:Int))/\True/\rg (ofNat (b 8))/\(0<=(9:Int)/\(9:Int)<(60:Int))/\True/\rg (ofNat (b 9))/\True/\X
abbrev q3 (G1 G2:Nat) (b:Nat->Nat) (X:Prop):Prop:=q2 G1 G2 b (nt1 (dB G1)/\True/\nt1 (dB G1)/\nt1 (dB G1)/\dB G1=false/\X)
abbrev q4 (G1 G2:Nat) (b:Nat->Nat) (X:Prop):Prop:=q3 G1 G2 b (nt1 (dC G1)/\True/\nt1 (dC G1)/\nt1 (dC G1)/\dC G1=false/\X)
abbrev q5 (G1 G2:Nat) (b:Nat->Nat) (X:Prop):Prop:=q4 G1 G2 b (dC G2=false/\True/\X)
abbrev q6 (G1 G2:Nat) (b:Nat->Nat) (X:Prop):Prop:=q5 G1 G2 b (nt1 (dE b)/\True/\nt1 (dE b)/\nt1 (dE b)/\True/\nt1 (dE b)/\nt1 (dE b)/\dE b=false/\X)
abbrev q7 (G1 G2:Nat) (b:Nat->Nat) (X:Prop):Prop:=q6 G1 G2 b (dF b=false/\True/\True/\rg (ofNat (b 9)-1)/\X)
abbrev q8 (G1 G2:Nat) (b:Nat->Nat) (R:Nat) (RB:Nat->Nat) (X:Prop):Prop:=q7 G1 G2 b (dG b=true/\True/\True/\(!!(dH b))=true/\(!!(dH b))=true/\kD b R RB/\(!!(dH b))=true/\(!!(dH b))=true/\(!(dH b))=false/\X)
abbrev q10 (G1 G2:Nat) (b:Nat->Nat) (X:Prop):Prop:=q7 G1 G2 b (dG b=false/\True/\X)
abbrev q11 (G1 G2:Nat) (b:Nat->Nat) (R:Nat) (RB:Nat->Nat) (X:Prop):Prop:=q10 G1 G2 b ((!(dK b))=false/\(!(dK b))=false/\(!(dK b))=false/\dK b=true/\True/\kD b R RB/\X)
abbrev q12 (G1 G2:Nat) (b:Nat->Nat) (X:Prop):Prop:=q10 G1 G2 b (nt1 (dK b)/\True/\nt1 (dK b)/\nt1 (dK b)/\dK b=false/\True/\X)
abbrev q13 (G1 G2:Nat) (b:Nat->Nat) (R:Nat) (RB:Nat->Nat) (X:Prop):Prop:=q12 G1 G2 b ((!!(dI b))=true/\(!!(dI b))=true/\kD b R RB/\(!!(dI b))=true/\(!!(dI b))=true/\(!(dI b))=false/\X)
abbrev oQA (G1 G2:Nat) (b:Nat->Nat) (x:Orc):Orc:=(Orc.cal [] (AV.tup [AV.sv 1 60 (byF b),AV.b true]) [] (Orc.c (Orc.f (Orc.cal [] (AV.tup [AV.i .u32 (ofNat G1),AV.b true]) [] (Orc.cal [] (AV.tup [AV.i .u32 (ofNat G2),AV.b true]) [] (Orc.inl x))))))
abbrev oQE (G1 G2:Nat) (b:Nat->Nat) (x:Orc):Orc:=(Orc.cal [] (AV.tup [AV.sv 1 60 (byF b),AV.b true]) [] (Orc.c (Orc.f (Orc.cal [] (AV.tup [AV.i .u32 (ofNat G1),AV.b true]) [] (Orc.cal [] (AV.tup [AV.i .u32 (ofNat G2),AV.b true]) [] (Orc.inl (Orc.t (Orc.t (Orc.t (Orc.f (Orc.t (Orc.t (Orc.t (Orc.f (Orc.f (Orc.t (Orc.t (Orc.t (Orc.t (Orc.t (Orc.f x)))))))))))))))))))))
theorem nt {x:Bool} (h:x=false):(!x)=true:=by rw [h];rfl
theorem nf {x:Bool} (h:x=true):(!x)=false:=by rw [h];rfl
theorem nnt {x:Bool} (h:x=true):(!!x)=true:=by rw [h];rfl
theorem nnf {x:Bool} (h:x=false):(!!x)=false:=by rw [h];rfl
theorem rng (n:Nat) (h:n<=4294967296):(-9223372036854775808:Int)<=ofNat n/\ofNat n<=(9223372036854775807:Int):=⟨by simp<;>omega,by simp<;>omega⟩
theorem rng11 (n:Nat) (h:n<=47):(-9223372036854775808:Int)<=(11:Int)+ofNat n/\(11:Int)+ofNat n<=(9223372036854775807:Int):=⟨by simp<;>omega,by simp<;>omega⟩
theorem sl11 (n:Nat) (h:n<=47):(0:Int)<=(11:Int)/\(0:Int)<=(11:Int)+ofNat n/\11<=Int.toNat ((11:Int)+ofNat n)/\Int.toNat ((11:Int)+ofNat n)<=60:=by
 have e:Int.toNat ((11:Int)+ofNat n)=11+n:=rfl
 exact ⟨by decide,by simp;omega,by rw [e];omega,by rw [e];omega⟩
theorem sl12 (n:Nat) (h:n<=47):(0:Int)<=(11:Int)+ofNat n/\True/\Int.toNat ((11:Int)+ofNat n)<=60/\60<=60:=by
 have e:Int.toNat ((11:Int)+ofNat n)=11+n:=rfl
 exact ⟨by simp;omega,trivial,by rw [e];omega,Nat.le_refl _⟩
theorem rngm (n:Nat) (h:n<256):(-9223372036854775808:Int)<=ofNat n-1/\ofNat n-(1:Int)<=(9223372036854775807:Int):=⟨by simp<;>omega,by simp<;>omega⟩
theorem ptX {b:Nat->Nat} {v:AV} (o:Orc) (R:Prop) (hb:below 0 v=true:=by rfl) (h:runK PG 1000000 (.call 41 [.sv 1 64 (byF b)] (mkH [])) o (fun r _=>rvIs v r)=R:=by kernel_rfl) (hr:R:=by repeat' first | exact trivial | exact rng _ (by omega) | exact rng11 _ (by assumption) | exact sl11 _ (by assumption) | exact sl12 _ (by assumption) | exact rngm _ (by assumption) | refine And.intro ?_ ?_ | assumption | exact nt (by assumption) | exact nf (by assumption) | exact nnt (by assumption) | exact nnf (by assumption) | (decide;done) | exact rfl):ptW b v:=con_pureX h hb hr
theorem sp1 (G1 G2 R:Nat) (RB b:Nat->Nat) (h8:b 8<256) (h9:b 9<256) (h10:b 10<256) (hd47:dA b=true) (k1:kA b):ptW b (ptZ):=
 ptX (Orc.cal [] (AV.tup [AV.sv 1 60 (byF b),AV.b true]) [] (Orc.c (Orc.t Orc.z))) (kA b/\True/\(0<=(10:Int)/\(10:Int)<(60:Int))/\True/\rg (ofNat (b 10))/\dA b=true/\ptZ=ptZ)
theorem sp2 (G1 G2 R:Nat) (RB b:Nat->Nat) (h8:b 8<256) (h9:b 9<256) (h10:b 10<256) (q47:b 10<=47) (hG1:G1<=4294967296) (hG2:G2<=4294967296) (hd47:dA b=false) (hd1:dB G1=true) (k1:kA b) (k2:kB b G1) (k3:kC b G2):ptW b (ptZ):=
 ptX (oQA G1 G2 b (Orc.f (Orc.f (Orc.f (Orc.t (oc 11 Orc.z)))))) (q2 G1 G2 b ((!(dB G1))=false/\(!(dB G1))=false/\(!(dB G1))=false/\dB G1=true/\True/\ptZ=ptZ))
theorem sp3 (G1 G2 R:Nat) (RB b:Nat->Nat) (h8:b 8<256) (h9:b 9<256) (h10:b 10<256) (q47:b 10<=47) (hG1:G1<=4294967296) (hG2:G2<=4294967296) (hd47:dA b=false) (hd1:dB G1=false) (hd2:dC G1=true) (k1:kA b) (k2:kB b G1) (k3:kC b G2):ptW b (ptZ):=
 ptX (oQA G1 G2 b (Orc.t (Orc.t (Orc.t (Orc.f (Orc.f (Orc.f (Orc.f (Orc.t (oc 7 Orc.z)))))))))) (q3 G1 G2 b ((!(dC G1))=false/\(!(dC G1))=false/\(!(dC G1))=false/\dC G1=true/\True/\ptZ=ptZ))
theorem sp4 (G1 G2 R:Nat) (RB b:Nat->Nat) (h8:b 8<256) (h9:b 9<256) (h10:b 10<256) (q47:b 10<=47) (hG1:G1<=4294967296) (hG2:G2<=4294967296) (hd47:dA b=false) (hd1:dB G1=false) (hd2:dC G1=false) (hd3:dC G2=true) (k1:kA b) (k2:kB b G1) (k3:kC b G2):ptW b (ptZ):=
 ptX (oQA G1 G2 b (Orc.t (Orc.t (Orc.t (Orc.f (Orc.t (Orc.t (Orc.t (Orc.f (Orc.t (oc 6 Orc.z))))))))))) (q4 G1 G2 b (dC G2=true/\True/\ptZ=ptZ))
theorem sp5 (G1 G2 R:Nat) (RB b:Nat->Nat) (h8:b 8<256) (h9:b 9<256) (h10:b 10<256) (q47:b 10<=47) (hG1:G1<=4294967296) (hG2:G2<=4294967296) (hd47:dA b=false) (hd1:dB G1=false) (hd2:dC G1=false) (hd3:dC G2=false) (hd4:dE b=true) (k1:kA b) (k2:kB b G1) (k3:kC b G2):ptW b (ptZ):=
 ptX (oQA G1 G2 b (Orc.t (Orc.t (Orc.t (Orc.f (Orc.t (Orc.t (Orc.t (Orc.f (Orc.f (Orc.f (Orc.f (Orc.f (Orc.f (Orc.f (Orc.t (oc 7 Orc.z))))))))))))))))) (q5 G1 G2 b ((!(dE b))=false/\(!(dE b))=false/\(!(dE b))=false/\(!(dE b))=false/\(!(dE b))=false/\dE b=true/\True/\ptZ=ptZ))
theorem sp6 (G1 G2 R:Nat) (RB b:Nat->Nat) (h8:b 8<256) (h9:b 9<256) (h10:b 10<256) (q47:b 10<=47) (hG1:G1<=4294967296) (hG2:G2<=4294967296) (hd47:dA b=false) (hd1:dB G1=false) (hd2:dC G1=false) (hd3:dC G2=false) (hd4:dE b=false) (hd5:dF b=true) (k1:kA b) (k2:kB b G1) (k3:kC b G2):ptW b (ptZ):=
 ptX (oQE G1 G2 b (Orc.t (oc 6 Orc.z))) (q6 G1 G2 b (dF b=true/\True/\ptZ=ptZ))
theorem sp7 (G1 G2 R:Nat) (RB b:Nat->Nat) (h8:b 8<256) (h9:b 9<256) (h10:b 10<256) (q47:b 10<=47) (hG1:G1<=4294967296) (hG2:G2<=4294967296) (hd47:dA b=false) (hd1:dB G1=false) (hd2:dC G1=false) (hd3:dC G2=false) (hd4:dE b=false) (hd5:dF b=false) (hd6:dG b=true) (hd7a:dH b=false) (k1:kA b) (k2:kB b G1) (k3:kC b G2):ptW b (ptZ):=
 ptX (oQE G1 G2 b (Orc.f (Orc.t (Orc.f (Orc.f (Orc.f (Orc.f (Orc.t (Orc.c Orc.z))))))))) (q7 G1 G2 b (dG b=true/\True/\True/\(!!(dH b))=false/\(!!(dH b))=false/\(!!(dH b))=false/\(!!(dH b))=false/\nt1 (dH b)/\ptZ=ptZ))
theorem sp8 (G1 G2 R:Nat) (RB b:Nat->Nat) (h8:b 8<256) (h9:b 9<256) (h10:b 10<256) (q47:b 10<=47) (hG1:G1<=4294967296) (hG2:G2<=4294967296) (hd47:dA b=false) (hd1:dB G1=false) (hd2:dC G1=false) (hd3:dC G2=false) (hd4:dE b=false) (hd5:dF b=false) (hd6:dG b=true) (hd7a:dH b=true) (hd8:dJ R=true) (k1:kA b) (k2:kB b G1) (k3:kC b G2) (k4:kD b R RB):ptW b (ptZ):=
 ptX (oQE G1 G2 b (Orc.f (Orc.t (Orc.t (Orc.t (Orc.cal [] (AV.sv 1 R (byF RB)) [] (Orc.t (Orc.t (Orc.f (Orc.t Orc.z)))))))))) (q8 G1 G2 b R RB (dJ R=true/\ptZ=ptZ))
theorem sp9 (G1 G2 R:Nat) (RB b:Nat->Nat) (h8:b 8<256) (h9:b 9<256) (h10:b 10<256) (q47:b 10<=47) (hG1:G1<=4294967296) (hG2:G2<=4294967296) (hd47:dA b=false) (hd1:dB G1=false) (hd2:dC G1=false) (hd3:dC G2=false) (hd4:dE b=false) (hd5:dF b=false) (hd6:dG b=true) (hd7a:dH b=true) (hd8:dJ R=false) (k1:kA b) (k2:kB b G1) (k3:kC b G2) (k4:kD b R RB):ptW b (okV G1 G2 b):=
 ptX (oQE G1 G2 b (Orc.f (Orc.t (Orc.t (Orc.t (Orc.cal [] (AV.sv 1 R (byF RB)) [] (Orc.t (Orc.t (Orc.f (Orc.f Orc.z)))))))))) (q8 G1 G2 b R RB (dJ R=false/\okV G1 G2 b=okV G1 G2 b))
theorem sp10 (G1 G2 R:Nat) (RB b:Nat->Nat) (h8:b 8<256) (h9:b 9<256) (h10:b 10<256) (q47:b 10<=47) (hG1:G1<=4294967296) (hG2:G2<=4294967296) (hd47:dA b=false) (hd1:dB G1=false) (hd2:dC G1=false) (hd3:dC G2=false) (hd4:dE b=false) (hd5:dF b=false) (hd6:dG b=false) (hd7b:dK b=true) (hd8:dJ R=true) (k1:kA b) (k2:kB b G1) (k3:kC b G2) (k4:kD b R RB):ptW b (ptZ):=
 ptX (oQE G1 G2 b (Orc.f (Orc.f (Orc.f (Orc.f (Orc.f (Orc.t (oc 2 (Orc.cal [] (AV.sv 1 R (byF RB)) [] (oc 3 (Orc.t Orc.z))))))))))) (q11 G1 G2 b R RB (dJ R=true/\ptZ=ptZ))
theorem sp11 (G1 G2 R:Nat) (RB b:Nat->Nat) (h8:b 8<256) (h9:b 9<256) (h10:b 10<256) (q47:b 10<=47) (hG1:G1<=4294967296) (hG2:G2<=4294967296) (hd47:dA b=false) (hd1:dB G1=false) (hd2:dC G1=false) (hd3:dC G2=false) (hd4:dE b=false) (hd5:dF b=false) (hd6:dG b=false) (hd7b:dK b=true) (hd8:dJ R=false) (k1:kA b) (k2:kB b G1) (k3:kC b G2) (k4:kD b R RB):ptW b (okV G1 G2 b):=
 ptX (oQE G1 G2 b (Orc.f (Orc.f (Orc.f (Orc.f (Orc.f (Orc.t (oc 2 (Orc.cal [] (AV.sv 1 R (byF RB)) [] (oc 3 (Orc.f Orc.z))))))))))) (q11 G1 G2 b R RB (dJ R=false/\okV G1 G2 b=okV G1 G2 b))
theorem sp12 (G1 G2 R:Nat) (RB b:Nat->Nat) (h8:b 8<256) (h9:b 9<256) (h10:b 10<256) (q47:b 10<=47) (hG1:G1<=4294967296) (hG2:G2<=4294967296) (hd47:dA b=false) (hd1:dB G1=false) (hd2:dC G1=false) (hd3:dC G2=false) (hd4:dE b=false) (hd5:dF b=false) (hd6:dG b=false) (hd7b:dK b=false) (hd9:dI b=false) (k1:kA b) (k2:kB b G1) (k3:kC b G2):ptW b (ptZ):=
 ptX (oQE G1 G2 b (Orc.f (Orc.f (Orc.t (Orc.t (Orc.t (Orc.f (Orc.f (Orc.f (Orc.f (Orc.f (Orc.t (Orc.c Orc.z))))))))))))) (q12 G1 G2 b ((!!(dI b))=false/\(!!(dI b))=false/\(!!(dI b))=false/\(!!(dI b))=false/\nt1 (dI b)/\ptZ=ptZ))
theorem sp13 (G1 G2 R:Nat) (RB b:Nat->Nat) (h8:b 8<256) (h9:b 9<256) (h10:b 10<256) (q47:b 10<=47) (hG1:G1<=4294967296) (hG2:G2<=4294967296) (hd47:dA b=false) (hd1:dB G1=false) (hd2:dC G1=false) (hd3:dC G2=false) (hd4:dE b=false) (hd5:dF b=false) (hd6:dG b=false) (hd7b:dK b=false) (hd9:dI b=true) (hd8:dJ R=true) (k1:kA b) (k2:kB b G1) (k3:kC b G2) (k4:kD b R RB):ptW b (ptZ):=
 ptX (oQE G1 G2 b (Orc.f (Orc.f (Orc.t (Orc.t (Orc.t (Orc.f (Orc.t (Orc.t (Orc.cal [] (AV.sv 1 R (byF RB)) [] (Orc.t (Orc.t (Orc.f (Orc.t Orc.z)))))))))))))) (q13 G1 G2 b R RB (dJ R=true/\ptZ=ptZ))
theorem sp14 (G1 G2 R:Nat) (RB b:Nat->Nat) (h8:b 8<256) (h9:b 9<256) (h10:b 10<256) (q47:b 10<=47) (hG1:G1<=4294967296) (hG2:G2<=4294967296) (hd47:dA b=false) (hd1:dB G1=false) (hd2:dC G1=false) (hd3:dC G2=false) (hd4:dE b=false) (hd5:dF b=false) (hd6:dG b=false) (hd7b:dK b=false) (hd9:dI b=true) (hd8:dJ R=false) (k1:kA b) (k2:kB b G1) (k3:kC b G2) (k4:kD b R RB):ptW b (okV G1 G2 b):=
 ptX (oQE G1 G2 b (Orc.f (Orc.f (Orc.t (Orc.t (Orc.t (Orc.f (Orc.t (Orc.t (Orc.cal [] (AV.sv 1 R (byF RB)) [] (Orc.t (Orc.t (Orc.f (Orc.f Orc.z)))))))))))))) (q13 G1 G2 b R RB (dJ R=false/\okV G1 G2 b=okV G1 G2 b))
theorem spF (b:Nat->Nat) (k:Con PG 61 [.sv 1 64 (byF b)] [] (.tup [.l0,.b false]) []):ptW b ptZ:=
 con_pureX (f:=1000000) (o:=Orc.cal [] (AV.tup [AV.l0,AV.b false]) [] (Orc.c Orc.z)) (R:=Con PG 61 [.sv 1 64 (byF b)] [] (.tup [.l0,.b false]) []/\True/\ptZ=ptZ) (by kernel_rfl) rfl ⟨k,trivial,rfl⟩
theorem sp0 (gg:Nat->Nat->CV) (k:Con PG 61 [.sv 1 0 gg] [] (.tup [.l0,.b false]) []):Con PG 41 [.sv 1 0 gg] [] ptZ []:=
 con_pureX (f:=1000000) (o:=Orc.cal [] (AV.tup [AV.l0,AV.b false]) [] (Orc.c Orc.z)) (R:=Con PG 61 [.sv 1 0 gg] [] (.tup [.l0,.b false]) []/\True/\ptZ=ptZ) (by kernel_rfl) rfl ⟨k,trivial,rfl⟩
def nmE (s:SS) (gen area:Nat):Int:=cmtE gen 0 1 (fun _=>1) (fun _ _=>area % 256) s (gen % 2)
def nmS (s:SS) (gen area:Nat):SS:=cmtS gen 0 1 (fun _=>1) (fun _ _=>area % 256) s (gen % 2)
theorem name_con (s:SS) (gen area mm:Nat) (ok:OkM s mm) (hm:mm+1<1073741823) (hn:2<=s.n) :
 Con PG 38 [.p 0 0,.i .i64 (ofNat gen),.i .i64 (ofNat area)] [some s.o] (.i .i64 (nmE s gen area)) [.set (nmS s gen area).o]:=by
 have k:=commit1_con gen 0 mm (area % 256) s (gen % 2) ok (Nat.mod_lt _ (by decide)) (by decide) hm (by omega)
 exact con_of_run [] [] ((name_vc s (nmS s gen area) (nmE s gen area) (recF (fun _=>1) fun _ _=>area % 256) gen area _).mpr ⟨by decide,trivial,k,_,_,rfl,ret_k (by kernel_rfl)⟩)
def g1 (b:Nat->Nat):Nat:=four1 (bOf (byF b))
def g2 (b:Nat->Nat):Nat:=four1 (bOf (shiftF 4 (byF b)))
def restP (b:Nat->Nat):Nat:=trN (bOf (shiftF (11+b 10) (byF b))) (60-(11+b 10))
structure PtOk (b:Nat->Nat):Prop where
 op:openB (byF b)=true
 size:b 10<=47
 gen0:1<=g1 b
 gen1:g1 b<=1073741824
 num:g2 b<=1073741824
 parts:b 9<=24
 idx:b 8<b 9
 full:b 8+1<b 9->b 10=47
 last:b 9<=b 8+1->0<b 10\/b 9=1
 rest:restP b=0
open Classical in
def ptB (b:Nat->Nat):Bool:=decide (PtOk b)
def stG (b:Nat->Nat):Nat:=bif ptB b then g1 b else 0
def stN (b:Nat->Nat):Nat:=bif ptB b then g2 b else 0
def stI (b:Nat->Nat):Nat:=bif ptB b then b 8 else 0
def stP (b:Nat->Nat):Nat:=bif ptB b then b 9 else 0
def stL (b:Nat->Nat):Nat:=bif ptB b then b 10 else 0
def ptV (b:Nat->Nat):AV:=.agg [.i .i64 (ofNat (stG b)),.i .i64 (ofNat (stN b)),.i .i64 (ofNat (stI b)),.i .i64 (ofNat (stP b)),.sv 1 (stL b) (byF fun j=>b (11+j))]
open Classical in
theorem ptB_t {b:Nat->Nat} (h:PtOk b):ptB b=true:=by unfold ptB;exact decide_eq_true h
open Classical in
theorem ptB_f {b:Nat->Nat} (h:¬PtOk b):ptB b=false:=by unfold ptB;exact decide_eq_false h
theorem open64T_con (gg:Nat->Nat->CV) (h:IsBy 64 gg) (hb:openB gg=true):Con PG 61 [.sv 1 64 gg] [] (.tup [.sv 1 60 gg,.b true]) []:=by
 have k:=open64_con gg h
 rw [hb] at k;exact k
theorem open64F_con (gg:Nat->Nat->CV) (h:IsBy 64 gg) (hb:openB gg=false):Con PG 61 [.sv 1 64 gg] [] (.tup [.l0,.b false]) []:=by
 have h4:IsBy 4 (shiftF 60 gg):=fun k hk=>h (60+k) (by omega)
 have h6:IsBy 60 gg:=h.le (by omega)
 have hd:(!decide (ofNat (four1 (bOf (shiftF 60 gg)))=ofNat (sumN (bOf gg) 60)))=true:=by
  show (!openB gg)=true
  rw [hb];rfl
 exact con_of_run [] [] ((open64_vc gg _).mpr ⟨by decide,⟨by decide,trivial,by decide,by decide⟩,ofFour_con 4 _ (by decide) h4,⟨trivial,by decide,by decide,by decide⟩,sumf_con 60 gg (by decide) h6,fun _=>⟨_,_,rfl,ret_k (by kernel_rfl)⟩,fun h=>(by rw [hd] at h;cases h)⟩)
theorem zeroPt {b:Nat->Nat} (h:¬PtOk b) {pargs:List AV} {g:Nat} {objs:List (Option AObj)} {us:List Upd} (k:Con PG g pargs objs (.agg [.i .i64 0,.i .i64 0,.i .i64 0,.i .i64 0,.l0]) us):Con PG g pargs objs (ptV b) us:=by
 have e:ptV b=.agg [.i .i64 0,.i .i64 0,.i .i64 0,.i .i64 0,.sv 1 0 (byF fun j=>b (11+j))]:=by
  unfold ptV stG stN stI stP stL
  rw [ptB_f h];simp only [cond_false];exact Eq.refl _
 rw [e]
 exact k.post (.agg ⟨.refl _,.refl _,.refl _,.refl _,.nil _ _,trivial⟩) (OVL.refl _)
theorem k4_con (b:Nat->Nat) (hb:∀k,k<64->b k<256) (q47:b 10<=47):Con PG 64 [.sv 1 (60-(11+b 10)) (shiftF (11+b 10) (byF b)),.s [0]] [] (.sv 1 (restP b) (byF (trB (bOf (shiftF (11+b 10) (byF b))) (60-(11+b 10))))) []:=by
 have e:shiftF (11+b 10) (byF b)=byF fun k=>b (11+b 10+k):=shift_by _ _
 have h:IsBy (60-(11+b 10)) (byF fun k=>b (11+b 10+k)):=.of fun k hk=>hb _ (by omega)
 unfold restP
 rw [e]
 exact trim_con _ _ (by omega) h
theorem r11 (n:Nat):Int.toNat ((11:Int)+ofNat n)=11+n:=rfl
theorem r10 (n:Nat):Int.toNat ((11:Int)+ofNat n)-11=n:=by rw [r11];omega
theorem stG_t {b:Nat->Nat} (h:PtOk b):stG b=g1 b:=by unfold stG;rw [ptB_t h,cond_true]
theorem stN_t {b:Nat->Nat} (h:PtOk b):stN b=g2 b:=by unfold stN;rw [ptB_t h,cond_true]
theorem stI_t {b:Nat->Nat} (h:PtOk b):stI b=b 8:=by unfold stI;rw [ptB_t h,cond_true]
theorem stP_t {b:Nat->Nat} (h:PtOk b):stP b=b 9:=by unfold stP;rw [ptB_t h,cond_true]
theorem stL_t {b:Nat->Nat} (h:PtOk b):stL b=b 10:=by unfold stL;rw [ptB_t h,cond_true]
theorem okPt {b:Nat->Nat} (h:PtOk b) (k:Con PG 41 [.sv 1 64 (byF b)] [] (.agg [.i .i64 (ofNat (g1 b)),.i .i64 (ofNat (g2 b)),.i .i64 (ofNat (b 8)),.i .i64 (ofNat (b 9)),.sv 1 (Int.toNat ((11:Int)+ofNat (b 10))-11) (shiftF 11 (byF b))]) []):Con PG 41 [.sv 1 64 (byF b)] [] (ptV b) []:=by
 have e2:shiftF 11 (byF b)=byF fun j=>b (11+j):=shift_by 11 b
 have e1:Int.toNat ((11:Int)+ofNat (b 10))-11=b 10:=r10 (b 10)
 generalize shiftF 11 (byF b)=F at e2 k
 generalize Int.toNat ((11:Int)+ofNat (b 10))-11=L at e1 k
 subst e2 e1
 unfold ptV
 rw [stG_t h,stN_t h,stI_t h,stP_t h,stL_t h]
 exact k
theorem standP_con (b:Nat->Nat) (hb:∀k,k<64->b k<256):Con PG 41 [.sv 1 64 (byF b)] [] (ptV b) []:=by
 have hI:IsBy 64 (byF b):=.of hb
 cases ho:openB (byF b) with
 | false=>exact zeroPt (fun h=>by rw [h.op] at ho;cases ho) (spF b (open64F_con _ hI ho))
 | true=>
   have k1:=open64T_con _ hI ho
   have h8:=hb 8 (by omega)
   have h9:=hb 9 (by omega)
   have h10:=hb 10 (by omega)
   have hlo:four1 (bOf (byF b))<4294967296:=four1_lt fun k hk=>hb k (by omega)
   have hhi:four1 (bOf (shiftF 4 (byF b)))<4294967296:=four1_lt fun k hk=>hb (4+k) (by omega)
   have k2:Con PG 62 [.sv 1 60 (byF b)] [] (.tup [.i .u32 (ofNat (g1 b)),.b true]) []:=ofFour_con 60 (byF b) (by omega) (hI.le (by omega))
   have k3:Con PG 62 [.sv 1 56 (shiftF 4 (byF b))] [] (.tup [.i .u32 (ofNat (g2 b)),.b true]) []:=ofFour_con 56 (shiftF 4 (byF b)) (by omega) (fun k hk=>hI (4+k) (by omega))
   have hg1:g1 b<4294967296:=hlo
   have hg2:g2 b<4294967296:=hhi
   have e10:=r10 (b 10)
   by_cases q47:b 10<=47
   rotate_left
   · have d47:decide ((47:Int)<ofNat (b 10))=true:=by simp;omega
     refine zeroPt (fun h=>q47 h.size) (sp1 (g1 b) (g2 b) (restP b) (trB (bOf (shiftF (11+b 10) (byF b))) (60-(11+b 10))) b h8 h9 h10 d47 k1)
   have d47:decide ((47:Int)<ofNat (b 10))=false:=by simp;omega
   have k4:=k4_con b hb q47
   have k4':Con PG 64 [.sv 1 (60-Int.toNat ((11:Int)+ofNat (b 10))) (shiftF (Int.toNat ((11:Int)+ofNat (b 10))) (byF b)),.s [0]] [] (.sv 1 (restP b) (byF (trB (bOf (shiftF (11+b 10) (byF b))) (60-(11+b 10))))) []:=by rw [r11];exact k4
   by_cases q1:1<=g1 b
   rotate_left
   · have d1:decide (ofNat (g1 b)<1)=true:=by simp;omega
     refine zeroPt (fun h=>q1 h.gen0) (sp2 (g1 b) (g2 b) (restP b) (trB (bOf (shiftF (11+b 10) (byF b))) (60-(11+b 10))) b h8 h9 h10 q47 (Nat.le_of_lt hg1) (Nat.le_of_lt hg2) d47 d1 k1 k2 k3)
   have d1:decide (ofNat (g1 b)<1)=false:=by simp;omega
   by_cases q2:g1 b<=1073741824
   rotate_left
   · have d2:decide ((1073741824:Int)<ofNat (g1 b))=true:=by simp;omega
     refine zeroPt (fun h=>q2 h.gen1) (sp3 (g1 b) (g2 b) (restP b) (trB (bOf (shiftF (11+b 10) (byF b))) (60-(11+b 10))) b h8 h9 h10 q47 (Nat.le_of_lt hg1) (Nat.le_of_lt hg2) d47 d1 d2 k1 k2 k3)
   have d2:decide ((1073741824:Int)<ofNat (g1 b))=false:=by simp;omega
   by_cases q3:g2 b<=1073741824
   rotate_left
   · have d3:decide ((1073741824:Int)<ofNat (g2 b))=true:=by simp;omega
     refine zeroPt (fun h=>q3 h.num) (sp4 (g1 b) (g2 b) (restP b) (trB (bOf (shiftF (11+b 10) (byF b))) (60-(11+b 10))) b h8 h9 h10 q47 (Nat.le_of_lt hg1) (Nat.le_of_lt hg2) d47 d1 d2 d3 k1 k2 k3)
   have d3:decide ((1073741824:Int)<ofNat (g2 b))=false:=by simp;omega
   by_cases q4:b 9<=24
   rotate_left
   · have d4:decide ((24:Int)<ofNat (b 9))=true:=by simp;omega
     refine zeroPt (fun h=>q4 h.parts) (sp5 (g1 b) (g2 b) (restP b) (trB (bOf (shiftF (11+b 10) (byF b))) (60-(11+b 10))) b h8 h9 h10 q47 (Nat.le_of_lt hg1) (Nat.le_of_lt hg2) d47 d1 d2 d3 d4 k1 k2 k3)
   have d4:decide ((24:Int)<ofNat (b 9))=false:=by simp;omega
   by_cases q5:b 8<b 9
   rotate_left
   · have d5:decide (ofNat (b 9)<=ofNat (b 8))=true:=by simp;omega
     refine zeroPt (fun h=>q5 h.idx) (sp6 (g1 b) (g2 b) (restP b) (trB (bOf (shiftF (11+b 10) (byF b))) (60-(11+b 10))) b h8 h9 h10 q47 (Nat.le_of_lt hg1) (Nat.le_of_lt hg2) d47 d1 d2 d3 d4 d5 k1 k2 k3)
   have d5:decide (ofNat (b 9)<=ofNat (b 8))=false:=by simp;omega
   by_cases q6:b 8+1<b 9
   · have d6:decide (ofNat (b 8)<ofNat (b 9)-1)=true:=by simp;omega
     by_cases q7:b 10=47
     · have d7a:decide (ofNat (Int.toNat ((11:Int)+ofNat (b 10))-11)=47)=true:=by rw [e10];simp;omega
       by_cases q8:restP b=0
       · have d8:decide ((0:Int)<ofNat (restP b))=false:=by simp;omega
         refine okPt ⟨ho,q47,q1,q2,q3,q4,q5,fun _=>q7,fun h=>by omega,q8⟩ (sp9 (g1 b) (g2 b) (restP b) (trB (bOf (shiftF (11+b 10) (byF b))) (60-(11+b 10))) b h8 h9 h10 q47 (Nat.le_of_lt hg1) (Nat.le_of_lt hg2) d47 d1 d2 d3 d4 d5 d6 d7a d8 k1 k2 k3 k4')
       · have d8:decide ((0:Int)<ofNat (restP b))=true:=by simp;omega
         refine zeroPt (fun h=>q8 h.rest) (sp8 (g1 b) (g2 b) (restP b) (trB (bOf (shiftF (11+b 10) (byF b))) (60-(11+b 10))) b h8 h9 h10 q47 (Nat.le_of_lt hg1) (Nat.le_of_lt hg2) d47 d1 d2 d3 d4 d5 d6 d7a d8 k1 k2 k3 k4')
     · have d7a:decide (ofNat (Int.toNat ((11:Int)+ofNat (b 10))-11)=47)=false:=by rw [e10];simp;omega
       refine zeroPt (fun h=>q7 (h.full q6)) (sp7 (g1 b) (g2 b) (restP b) (trB (bOf (shiftF (11+b 10) (byF b))) (60-(11+b 10))) b h8 h9 h10 q47 (Nat.le_of_lt hg1) (Nat.le_of_lt hg2) d47 d1 d2 d3 d4 d5 d6 d7a k1 k2 k3)
   · have d6:decide (ofNat (b 8)<ofNat (b 9)-1)=false:=by simp;omega
     by_cases q7:0<b 10
     · have d7b:decide ((0:Int)<ofNat (Int.toNat ((11:Int)+ofNat (b 10))-11))=true:=by rw [e10];simp;omega
       by_cases q8:restP b=0
       · have d8:decide ((0:Int)<ofNat (restP b))=false:=by simp;omega
         refine okPt ⟨ho,q47,q1,q2,q3,q4,q5,fun h=>by omega,fun _=>.inl q7,q8⟩ (sp11 (g1 b) (g2 b) (restP b) (trB (bOf (shiftF (11+b 10) (byF b))) (60-(11+b 10))) b h8 h9 h10 q47 (Nat.le_of_lt hg1) (Nat.le_of_lt hg2) d47 d1 d2 d3 d4 d5 d6 d7b d8 k1 k2 k3 k4')
       · have d8:decide ((0:Int)<ofNat (restP b))=true:=by simp;omega
         refine zeroPt (fun h=>q8 h.rest) (sp10 (g1 b) (g2 b) (restP b) (trB (bOf (shiftF (11+b 10) (byF b))) (60-(11+b 10))) b h8 h9 h10 q47 (Nat.le_of_lt hg1) (Nat.le_of_lt hg2) d47 d1 d2 d3 d4 d5 d6 d7b d8 k1 k2 k3 k4')
     · have d7b:decide ((0:Int)<ofNat (Int.toNat ((11:Int)+ofNat (b 10))-11))=false:=by rw [e10];simp;omega
       by_cases q9:b 9=1
       · have d9:decide (ofNat (b 9)=1)=true:=by simp;omega
         by_cases q8:restP b=0
         · have d8:decide ((0:Int)<ofNat (restP b))=false:=by simp;omega
           refine okPt ⟨ho,q47,q1,q2,q3,q4,q5,fun h=>by omega,fun _=>.inr q9,q8⟩ (sp14 (g1 b) (g2 b) (restP b) (trB (bOf (shiftF (11+b 10) (byF b))) (60-(11+b 10))) b h8 h9 h10 q47 (Nat.le_of_lt hg1) (Nat.le_of_lt hg2) d47 d1 d2 d3 d4 d5 d6 d7b d9 d8 k1 k2 k3 k4')
         · have d8:decide ((0:Int)<ofNat (restP b))=true:=by simp;omega
           refine zeroPt (fun h=>q8 h.rest) (sp13 (g1 b) (g2 b) (restP b) (trB (bOf (shiftF (11+b 10) (byF b))) (60-(11+b 10))) b h8 h9 h10 q47 (Nat.le_of_lt hg1) (Nat.le_of_lt hg2) d47 d1 d2 d3 d4 d5 d6 d7b d9 d8 k1 k2 k3 k4')
       · have d9:decide (ofNat (b 9)=1)=false:=by simp;omega
         refine zeroPt (fun h=>by rcases h.last (by omega) with h | h<;>omega) (sp12 (g1 b) (g2 b) (restP b) (trB (bOf (shiftF (11+b 10) (byF b))) (60-(11+b 10))) b h8 h9 h10 q47 (Nat.le_of_lt hg1) (Nat.le_of_lt hg2) d47 d1 d2 d3 d4 d5 d6 d7b d9 k1 k2 k3)
theorem stand0_con (b:Nat->Nat) (hz:¬PtOk b) (gg:Nat->Nat->CV):Con PG 41 [.sv 1 0 gg] [] (ptV b) []:=
 zeroPt hz (sp0 gg (open0_con gg))
end Go.Proofs.Jn
namespace Go.Proofs.Jn
open Go Go.Sim Go.Proofs Go.Proofs.Cd Go.Proofs.St Go.Proofs.Cl Go.Proofs.YthhjjpofenjknaaDoor
theorem lkA_vc (s:SS) (L:Nat) (GG:Nat->Nat->CV) (E:Int) (G N I P LL:Nat) (BB:Nat->Nat) (area i:Nat) (F:Nat->Nat->CV) (h0:decide (E=0)=true) (K:Res->Orc->Prop):runK PG 1000000 (.code (loopAt PG 31 0) 39 (mkT [(0,.p 0 0),(1,.i .i64 (ofNat area)),(6,.lr 1 5 0 60 false),(11,.lr 1 5 0 60 false),(12,.i .i64 60),(13,.i .i64 (ofNat i))]) (mkH [some s.o,some (.rows 101 5 60 F)])) (.s (.inl (.cal [0] (.tup [.sv 1 L GG,.i .i64 E]) [.keep,.gone] (of_ 3 (.c (.cal [] (.agg [inv G,inv N,inv I,inv P,.sv 1 LL (byF BB)]) [] .z))))) .z) K=((fun (q2:AV)=>((fun (q1:AV)=>((fun (q0:AV)=>((decide (ofNat i<60)=true->rg (ofNat area*60)/\rg (2+ofNat area*60)/\rg (2+ofNat area*60+ofNat i)/\Con PG 39 [.p 0 0,.i .i64 (2+ofNat area*60+ofNat i)] [some (SS.o s)] q1 [.keep,.gone]/\(!decide (E=0))=false/\(!decide (E=0))=false/\(!decide (E=0))=false/\Con PG 41 [.sv 1 L GG] [] q2 []/\(0<=ofNat i/\ofNat i<60)/\i<60/\rg (ofNat i+1)/\K (.st .nrm (zz1 (.p 0 0) (zz1 (inv area) (zz0 (zz1 (inv i) (zzn i) (zzl (.sv 1 L GG))) (zz1 q0 (zz1 (.i .i64 (2+ofNat area*60)) (zzl q2) .e) (zzl (.b !decide (E=0))))) (zz0 (zz1 (.i .i64 E) (zz1 (.p 0 0) (zzn i) .e) (zzl (.i .i64 E))) (zz1 (.i .i64 (ofNat i+1)) (zz1 (.i .i64 (2+ofNat area*60+ofNat i)) (zzl (.i .i64 (ofNat i+1))) .e) zzu))) (zz0 (zz0 (zz1 (.sv 1 L GG) (zz1 q1 (zzl q0)
 .e) (zzl (.i .i64 E))) (zz1 (.i .i64 60) (zz1 (inv i) (zzl (.pr 1 5 i 0)) .e) zzu)) (zz1 q0 (zz0 (zz1 (inv area) (zzl (.sv 1 L GG)) .e) (zzl (.b !decide (E=0)))) (zz1 (.b (decide (ofNat i<60))) (zzl q1) (zzl (.b false)))))) ⟨zz1 (SS.o s) (zzl (AObj.rows 101 5 60 (setRow F i 0 [CV.i .i64 (ofNat G),CV.i .i64 (ofNat N),CV.i .i64 (ofNat I),CV.i .i64 (ofNat P),CV.sv 1 LL (byF BB)]))) (zz0 .e .e),3,[1,2]⟩) .z)/\(decide (ofNat i<60)=false->K (.st (.exit 0) (zz1 (.p 0 0) (zz1 (inv area) (zz0 .e (zzl q0)) (zz0 .e (zzn i))) (zz0 (zz0 .e (zzl (.i .i64 60))) (zz1 q0 .e (zzl (.b (decide (ofNat i<60))))))) ⟨zz1 (SS.o s) (zzl (AObj.rows 101 5 60 F)) .e,2,[]⟩) .z))) (.lr 1 5 0 60 false))) (.tup [.sv 1 L GG,.i .i64 E]))) (.agg [inv G,inv N,inv I,inv P,.sv 1 LL (byF BB)])):=by kernel_rfl
theorem lkB_vc (s:SS) (L:Nat) (GG:Nat->Nat->CV) (E:Int) (G N I P LL:Nat) (BB:Nat->Nat) (area i:Nat) (F:Nat->Nat->CV) (h0:decide (E=0)=false) (h1:decide (E=14)=true) (K:Res->Orc->Prop):runK PG 1000000 (.code (loopAt PG 31 0) 39 (mkT [(0,.p 0 0),(1,.i .i64 (ofNat area)),(6,.lr 1 5 0 60 false),(11,.lr 1 5 0 60 false),(12,.i .i64 60),(13,.i .i64 (ofNat i))]) (mkH [some s.o,some (.rows 101 5 60 F)])) (.s (.inl (.cal [0] (.tup [.sv 1 L GG,.i .i64 E]) [.keep,.gone] (ot 3 (.f (.cal [] (.agg [inv G,inv N,inv I,inv P,.sv 1 LL (byF BB)]) [] .z))))) .z) K=((fun (q2:AV)=>((fun (q1:AV)=>((fun (q0:AV)=>((decide (ofNat i<60)=true->rg (ofNat area*60)/\rg (2+ofNat area*60)/\rg (2+ofNat area*60+ofNat i)/\Con PG 39 [.p 0 0,.i .i64 (2+ofNat area*60+ofNat i)] [some (SS.o s)] q1 [.keep,.gone]/\(!decide (E=0))=true/\(!decide (E=0))=true/\(!decide (E=0))=true/\(!decide (E=14))=false/\Con PG 41 [.sv 1 L GG] [] q2 []/\(0<=ofNat i/\ofNat i<60)/\i<60/\rg (ofNat i+1)/\K (.st .nrm (zz1 (.p 0 0) (zz1 (inv area) (zz0 (zz1 (inv i) (zzn i) (zzl (.sv 1 L GG))) (zz1 q0 (zz1 (.i .i64 (2+ofNat area*60)) (zzl q2) .e) (zzl (.b !decide (E=0))))) (zz0 (zz1 (.i .i64 E) (zz1 (.p 0 0) (zzn i) .e) (zzl (.i .i64 E))) (zz1 (.i .i64 (ofNat i+1)) (zz1 (.i .i64 (2+ofNat area*60+ofNat i)) (zzl (.i .i64 (ofNat i+1)))
 .e) (zzl (.b !decide (E=14)))))) (zz0 (zz0 (zz1 (.sv 1 L GG) (zz1 q1 (zzl q0) .e) (zzl (.i .i64 E))) (zz1 (.i .i64 60) (zz1 (inv i) (zzl (.pr 1 5 i 0)) .e) (zzl (.i .i64 E)))) (zz1 q0 (zz0 (zz1 (inv area) (zzl (.sv 1 L GG)) .e) (zzl (.b !decide (E=0)))) (zz1 (.b (decide (ofNat i<60))) (zzl q1) (zzl (.b !decide (E=14))))))) ⟨zz1 (SS.o s) (zzl (AObj.rows 101 5 60 (setRow F i 0 [CV.i .i64 (ofNat G),CV.i .i64 (ofNat N),CV.i .i64 (ofNat I),CV.i .i64 (ofNat P),CV.sv 1 LL (byF BB)]))) (zz0 .e .e),3,[1,2]⟩) .z)/\(decide (ofNat i<60)=false->K (.st (.exit 0) (zz1 (.p 0 0) (zz1 (inv area) (zz0 .e (zzl q0)) (zz0 .e (zzn i))) (zz0 (zz0 .e (zzl (.i .i64 60))) (zz1 q0 .e (zzl (.b (decide (ofNat i<60))))))) ⟨zz1 (SS.o s) (zzl (AObj.rows 101 5 60 F)) .e,2,[]⟩) .z))) (.lr 1 5 0 60 false))) (.tup [.sv 1 L GG,.i .i64 E]))) (.agg [inv G,inv N,inv I,inv P,.sv 1 LL (byF BB)])):=by kernel_rfl
theorem zero_bad:¬PtOk (fun _=>0):=fun h=>by
 have h0:=h.idx
 exact absurd h0 (by decide)
def bB (s:SS) (q:Nat):Nat->Nat:=match decide (s.rdE (ofNat q)=0) with
 | true=>rdC s (ofNat q)
 | false=>fun _=>0
def ptC (b:Nat->Nat) (j:Nat):CV:=match j with
 | 0=>.i .i64 (ofNat (stG b))
 | 1=>.i .i64 (ofNat (stN b))
 | 2=>.i .i64 (ofNat (stI b))
 | 3=>.i .i64 (ofNat (stP b))
 | _=>.sv 1 (stL b) (byF fun t=>b (11+t))
def prF (s:SS) (area:Nat):Nat->Nat->CV:=fun i j=>ptC (bB s (2+area*60+i)) j
def lkT (area i:Nat):List (Nat×AV):=[(0,.p 0 0),(1,.i .i64 (ofNat area)),(6,.lr 1 5 0 60 false),(11,.lr 1 5 0 60 false),(12,.i .i64 60),(13,.i .i64 (ofNat i))]
theorem rdE_on {s:SS} {q:Nat} (ho:s.off=false) (hq:q<s.n):s.rdE (ofNat q)=0\/s.rdE (ofNat q)=14:=by
 unfold SS.rdE
 rw [ho,decide_eq_true (show (0:Int)<=ofNat q/\ofNat q<ofNat s.n from ⟨by simp,by simp;omega⟩)]
 simp only
 cases lB s.P (ofNat q).toNat with
 | true=>exact .inl rfl
 | false=>
   simp only
   cases s.torn (ofNat q).toNat with
   | true=>exact .inr rfl
   | false=>exact .inl rfl
theorem setRow5 {f:Nat->Nat->CV} {k:Nat} {c0 c1 c2 c3 c4:CV} (i j:Nat) (hj:j<5):CW (setRow f k 0 [c0,c1,c2,c3,c4] i j) (bif Nat.beq i k then [c0,c1,c2,c3,c4].getD j .p0 else f i j):=by
 have h:setRow f k 0 [c0,c1,c2,c3,c4] i j=zipCV (Nat.beq i k) ([c0,c1,c2,c3,c4].getD j .p0) (f i j):=by
  have:j=0\/j=1\/j=2\/j=3\/j=4:=by omega
  rcases this with rfl | rfl | rfl | rfl | rfl<;>exact Eq.refl _
 rw [h]
 exact zipCV_CW _ _ _
theorem lk_lp (s:SS) (area:Nat) (F0:Nat->Nat->CV) (ho:s.off=false) (hn:122<=s.n) (h512:s.n<=512) (hb:Byt s) (ha:area<=1) :
 LDoes PG (loopAt PG 31 0) 39 2 (mkT (lkT area 0)) [some s.o,some (.rows 101 5 60 F0)] (.exit 0) (mkT [(6,.lr 1 5 0 60 false)]) [some s.o,some (.rows 101 5 60 (prF s area))]:=by
 refine loop_indV (D:=Nat×(Nat->Nat->CV)) (l':=[(6,.lr 1 5 0 60 false)]) (fun d=>(lkT area d.1,[some s.o,some (.rows 101 5 60 d.2)])) (fun d=>60-d.1)
  (fun d=>d.1<=60/\∀i j,i<d.1->j<5->CW (d.2 i j) (prF s area i j)) ?_ (0,F0) ⟨Nat.zero_le _,fun i j hi=>by omega⟩
 rintro ⟨k,F⟩ ⟨hk,h1⟩
 simp only at hk h1
 by_cases hlt:k<60
 · have hq:2+area*60+k<s.n:=by omega
   have step:∀V:Nat->Nat,bB s (2+area*60+k)=V->∀i j,i<k+1->j<5->CW (setRow F k 0 [.i .i64 (ofNat (stG V)),.i .i64 (ofNat (stN V)),.i .i64 (ofNat (stI V)),.i .i64 (ofNat (stP V)),.sv 1 (stL V) (byF fun t=>V (11+t))] i j) (prF s area i j):=by
    rintro V rfl i j hi hj
    refine (setRow5 i j hj).trans ?_
    cases hbq:Nat.beq i k with
    | true=>
      have e:=Nat.eq_of_beq_eq_true hbq
      subst e
      rw [cond_true]
      have:j=0\/j=1\/j=2\/j=3\/j=4:=by omega
      rcases this with rfl | rfl | rfl | rfl | rfl<;>exact .refl _
    | false=>
      have e:i≠k:=by rintro rfl;simp at hbq
      rw [cond_false]
      exact h1 i j (by omega) hj
   rcases rdE_on ho hq with h0 | h0
   · have eB:bB s (2+area*60+k)=rdC s (ofNat (2+area*60+k)):=by unfold bB;rw [decide_eq_true h0]
     have w1:=readT_con s (ofNat (2+area*60+k)) h512 hb h0
     have w2:=standP_con (rdC s (ofNat (2+area*60+k))) fun t _=>rdC_lt hb _ t
     have hst:=step _ eB
     generalize rdC s (ofNat (2+area*60+k))=V at w1 w2 hst
     refine ⟨by simp,1000000,_,(lkA_vc s 64 (byF V) 0 (stG V) (stN V) (stI V) (stP V) (stL V) (fun t=>V (11+t)) area k F (by decide) _).mpr ⟨fun _=>?_,fun h=>?_⟩⟩
     · refine ⟨⟨by simp<;>omega,by simp<;>omega⟩,⟨by simp<;>omega,by simp<;>omega⟩,⟨by simp<;>omega,by simp<;>omega⟩,w1,by decide,by decide,by decide,w2,⟨by simp,by simp;omega⟩,hlt,⟨by simp<;>omega,by simp<;>omega⟩,.inl ⟨(k+1,_),[0,1],[],_,_,lkT area (k+1),[some s.o,some (.rows 101 5 60 _)],⟨hlt,hst⟩,by simp only;omega,rfl,st_k [0,1] (by kernel_rfl),.refl _,OVL.refl _⟩⟩
     · simp at h;omega
   · have eB:bB s (2+area*60+k)=fun _=>0:=by unfold bB;rw [h0];rfl
     have w1:=readF_con s (ofNat (2+area*60+k)) h512 (by rw [h0];decide)
     rw [h0] at w1
     have w2:=stand0_con (fun _=>0) zero_bad fun _ _=>.p0
     have hst:=step _ eB
     generalize (fun _=>0:Nat->Nat)=V at w2 hst
     refine ⟨by simp,1000000,_,(lkB_vc s 0 (fun _ _=>.p0) 14 (stG V) (stN V) (stI V) (stP V) (stL V) (fun t=>V (11+t)) area k F (by decide) (by decide) _).mpr ⟨fun _=>?_,fun h=>?_⟩⟩
     · refine ⟨⟨by simp<;>omega,by simp<;>omega⟩,⟨by simp<;>omega,by simp<;>omega⟩,⟨by simp<;>omega,by simp<;>omega⟩,w1,by decide,by decide,by decide,by decide,w2,⟨by simp,by simp;omega⟩,hlt,⟨by simp<;>omega,by simp<;>omega⟩,.inl ⟨(k+1,_),[0,1],[],_,_,lkT area (k+1),[some s.o,some (.rows 101 5 60 _)],⟨hlt,hst⟩,by simp only;omega,rfl,st_k [0,1] (by kernel_rfl),.refl _,OVL.refl _⟩⟩
     · simp at h;omega
 · have:k=60:=by omega
   subst this
   refine ⟨by simp,1000000,_,(lkA_vc s 0 (fun _ _=>.p0) 0 0 0 0 0 0 (fun _=>0) area 60 F (by decide) _).mpr ⟨fun h=>?_,fun _=>?_⟩⟩
   · simp at h
   · exact .inr ⟨[0,1],[],_,_,[(6,.lr 1 5 0 60 false)],[some s.o,some (.rows 101 5 60 F)],rfl,by simp,st_k [0,1] (by kernel_rfl),.refl _,.refl _,.rowsW fun i j hi hj=>h1 i j hi hj,trivial⟩
theorem lookA_vc (s:SS) (F2:Nat->Nat->CV) (area:Nat) (K:Res->Orc->Prop):runK PG 1000000 (.call 31 [.p 0 0,inv area] (mkH [some s.o])) (.s (.lop [0,1] [0,1,6,11,12,13] 2 (.exit 0) [(6,.lr 1 5 0 60 false)] [some (SS.o s),some (.rows 101 5 60 F2)] .z) .z) K=(((0:Int)<=(60:Int)/\(60:Int)<=(60:Int)/\(60:Int)<=(1073741824:Int))/\LDoes PG (loopAt PG 31 0) 39 2 (mkT (lkT area 0)) [some (SS.o s),some (.rows 101 5 60 fun x j=>List.getD [CV.i .i64 0,CV.i .i64 0,CV.i .i64 0,CV.i .i64 0,CV.sv 1 0 fun x x_1=>CV.p0] j CV.p0)] (.exit 0) (mkT [(6,.lr 1 5 0 60 false)]) [some (SS.o s),some (.rows 101 5 60 F2)]/\K (.rv (.tup [.lr 1 5 0 60 false,.i .i64 0]) ⟨zz1 (SS.o s) (zzl (AObj.rows 101 5 60 F2)) .e,2,[1,0,1]⟩) .z):=by kernel_rfl
theorem look_con (s:SS) (area:Nat) (ho:s.off=false) (hn:122<=s.n) (h512:s.n<=512) (hb:Byt s) (ha:area<=1) :
 Con PG 31 [.p 0 0,.i .i64 (ofNat area)] [some s.o] (.tup [.sv 5 60 (prF s area),.i .i64 0]) [.keep,.gone]:=by
 have k:Con PG 31 [.p 0 0,.i .i64 (ofNat area)] [some s.o] (.tup [.lr 1 5 0 60 false,.i .i64 0]) [.keep,.set (.rows 101 5 60 (prF s area))]:=
  con_of_run [] [1] ((lookA_vc s (prF s area) area _).mpr ⟨by decide,lk_lp s area _ ho hn h512 hb ha,_,_,rfl,ret_k (by kernel_rfl)⟩)
 exact (k.freeze (us':=[.keep,.gone]) (v':=.tup [.sv 5 60 (shiftF 0 (prF s area)),.i .i64 0]) 1 rfl ⟨.refl _,rfl,trivial⟩ (.inr ⟨by kernel_rfl,⟨rfl,by omega⟩,trivial,trivial⟩))
theorem named_vc (s:SS) (L:Nat) (GG:Nat->Nat->CV) (E:Int) (G N I P LL:Nat) (BB:Nat->Nat) (head:Nat) (K:Res->Orc->Prop):runK PG 1000000 (.call 37 [.p 0 0,inv head] (mkH [some s.o])) (.cal [0] (.tup [.sv 1 L GG,.i .i64 E]) [.keep,.gone] (.cal [] (.agg [inv G,inv N,inv I,inv P,.sv 1 LL (byF BB)]) [] (.s (.t (.t (.f (.s (ot 3 (.f (.s (ot 4 (.f (.s (ot 4 (.f (.s .z .z))) (of_ 4 (.t (.c .z)))))) (of_ 4 (.t (oc 7 .z)))))) (of_ 3 (.t (oc 13 .z))))))) (.f (.f (.t (oc 18 .z))))))) K=(Con PG 39 [.p 0 0,inv head] [some (SS.o s)] (.tup [.sv 1 L GG,.i .i64 E]) [.keep,.gone]/\Con PG 41 [.sv 1 L GG] [] (.agg [inv G,inv N,inv I,inv P,.sv 1 LL (byF BB)]) []/\True/\((!!decide (ofNat N=0))=true->True/\(!!decide (ofNat N=0))=true/\(!!decide (ofNat N=0))=true/\(!decide (ofNat N=0))=false/\((!!decide (ofNat P=1))=true->True/\(!!decide (ofNat P=1))=true/\(!!decide (ofNat P=1))=true/\(!!decide (ofNat P=1))=true/\(!decide (ofNat P=1))=false/\((!!decide (ofNat LL=1))=true->True/\(!!decide (ofNat LL=1))=true/\(!!decide (ofNat LL=1))=true/\((0:Int)<=(0:Int)/\(0:Int)<↑LL)/\(!!decide (ofNat LL=1))=true/\True/\(!!decide (ofNat LL=1))=true/\(!decide (ofNat LL=1))=false/\((!decide (1<ofNat (BB 0)))=true->True/\(!decide (1<ofNat (BB 0)))=true/\(!decide (1<ofNat (BB 0)))=true/\(2:Int)≠(0 :
 Int)/\(!decide (1<ofNat (BB 0)))=true/\(!decide (1<ofNat (BB 0)))=true/\decide (1<ofNat (BB 0))=false/\((!decide (Int.tmod (ofNat G) 2=ofNat head))=true->K (.rv (.tup [.i .i64 0,.i .i64 0]) ⟨zz1 (SS.o s) (zz0 .e .e) (zzl (AObj.cells 101 5 [.i .i64 0,.i .i64 0,.i .i64 0,.i .i64 0,.l0] (zz1 (inv G) (zz1 (inv N) (zzn P) .e) (zz1 (inv I) (zzl (.sv 1 LL (byF BB))) .e)))),3,[2,2,1]⟩) .z)/\((!decide (Int.tmod (ofNat G) 2=ofNat head))=false->True/\True/\((0:Int)<=(0:Int)/\(0:Int)<↑LL)/\True/\rg (ofNat (BB 0))/\K (.rv (.tup [inv G,inv (BB 0)]) ⟨zz1 (SS.o s) (zz0 .e .e) (zzl (AObj.cells 101 5 [.i .i64 0,.i .i64 0,.i .i64 0,.i .i64 0,.l0] (zz1 (inv G) (zz1 (inv N) (zzn P) .e) (zz1 (inv I) (zzl (.sv 1 LL (byF BB))) .e)))),3,[2,2,1]⟩) .z))/\((!decide (1<ofNat (BB 0)))=false->(!decide (1<ofNat (BB 0)))=false/\(!decide (1<ofNat (BB 0)))=false/\(!decide (1<ofNat (BB 0)))=false/\(!decide (1<ofNat (BB 0)))=false/\decide (1<ofNat (BB 0))=true/\K (.rv (.tup [.i .i64 0,.i .i64 0]) ⟨zz1 (SS.o s) (zz0 .e .e) (zzl (AObj.cells 101 5 [.i .i64 0,.i .i64 0,.i .i64 0,.i .i64 0,.l0] (zz1 (inv G) (zz1 (inv N) (zzn P) .e) (zz1 (inv I) (zzl (.sv 1 LL (byF BB))) .e)))),3,[2,2,1]⟩) .z))/\((!!decide (ofNat LL=1))=false->(!!decide (ofNat LL=1))=false/\(!!decide (ofNat LL=1))=false/\(!!decide (ofNat LL=1))=false/\(!!decide
 (ofNat LL=1))=false/\(!decide (ofNat LL=1))=true/\K (.rv (.tup [.i .i64 0,.i .i64 0]) ⟨zz1 (SS.o s) (zz0 .e .e) (zzl (AObj.cells 101 5 [.i .i64 0,.i .i64 0,.i .i64 0,.i .i64 0,.l0] (zz1 (inv G) (zz1 (inv N) (zzn P) .e) (zz1 (inv I) (zzl (.sv 1 LL (byF BB))) .e)))),3,[2,2,1]⟩) .z))/\((!!decide (ofNat P=1))=false->(!!decide (ofNat P=1))=false/\(!!decide (ofNat P=1))=false/\(!!decide (ofNat P=1))=false/\(!decide (ofNat P=1))=true/\K (.rv (.tup [.i .i64 0,.i .i64 0]) ⟨zz1 (SS.o s) (zz0 .e .e) (zzl (AObj.cells 101 5 [.i .i64 0,.i .i64 0,.i .i64 0,.i .i64 0,.l0] (zz1 (inv G) (zz1 (inv N) (zzn P) .e) (zz1 (inv I) (zzl (.sv 1 LL (byF BB))) .e)))),3,[2,2,1]⟩) .z))/\((!!decide (ofNat N=0))=false->(!!decide (ofNat N=0))=false/\(!!decide (ofNat N=0))=false/\(!decide (ofNat N=0))=true/\K (.rv (.tup [.i .i64 0,.i .i64 0]) ⟨zz1 (SS.o s) (zz0 .e .e) (zzl (AObj.cells 101 5 [.i .i64 0,.i .i64 0,.i .i64 0,.i .i64 0,.l0] (zz1 (inv G) (zz1 (inv N) (zzn P) .e) (zz1 (inv I) (zzl (.sv 1 LL (byF BB))) .e)))),3,[2,2,1]⟩) .z)):=by kernel_rfl
def hdB (G N P LL:Nat) (x h:Nat):Bool:=Nat.beq N 0 && (Nat.beq P 1 && (Nat.beq LL 1 && (Nat.ble x 1 && Nat.beq (G % 2) h)))
theorem deq (n m:Nat):decide (ofNat n=ofNat m)=Nat.beq n m:=by
 cases h:Nat.beq n m with
 | true=>exact decide_eq_true (by rw [Nat.eq_of_beq_eq_true h])
 | false=>exact decide_eq_false (fun e=>Nat.ne_of_beq_eq_false h (Int.ofNat.inj e))
theorem dlt1 (n:Nat):decide ((1:Int)<ofNat n)=!Nat.ble n 1:=by
 cases h:Nat.ble n 1 with
 | true=>exact decide_eq_false (by rw [Nat.ble_eq] at h;simp;omega)
 | false=>exact decide_eq_true (by rw [Bool.eq_false_iff,ne_eq,Nat.ble_eq] at h;simp;omega)
theorem namedX_con (s:SS) (L:Nat) (GG:Nat->Nat->CV) (E:Int) (G N I P LL:Nat) (BB:Nat->Nat) (head:Nat) (hG:G<=4294967296) (hB:BB 0<256)
 (w1:Con PG 39 [.p 0 0,.i .i64 (ofNat head)] [some s.o] (.tup [.sv 1 L GG,.i .i64 E]) [.keep,.gone])
 (w2:Con PG 41 [.sv 1 L GG] [] (.agg [.i .i64 (ofNat G),.i .i64 (ofNat N),.i .i64 (ofNat I),.i .i64 (ofNat P),.sv 1 LL (byF BB)]) []) :
 Con PG 37 [.p 0 0,.i .i64 (ofNat head)] [some s.o] (.tup [.i .i64 (ofNat (bif hdB G N P LL (BB 0) head then G else 0)),.i .i64 (ofNat (bif hdB G N P LL (BB 0) head then BB 0 else 0))]) [.keep]:=by
 have d1:decide (ofNat N=0)=Nat.beq N 0:=deq N 0
 have d2:decide (ofNat P=1)=Nat.beq P 1:=deq P 1
 have d3:decide (ofNat LL=1)=Nat.beq LL 1:=deq LL 1
 have d4:=dlt1 (BB 0)
 have d5:decide (Int.tmod (ofNat G) 2=ofNat head)=Nat.beq (G % 2) head:=deq (G % 2) head
 have r1:(-9223372036854775808:Int)<=ofNat (BB 0)/\ofNat (BB 0)<=9223372036854775807:=rng _ (by omega)
 have bad:hdB G N P LL (BB 0) head=false->Con PG 37 [.p 0 0,.i .i64 (ofNat head)] [some s.o] (.tup [.i .i64 0,.i .i64 0]) [.keep]->Con PG 37 [.p 0 0,.i .i64 (ofNat head)] [some s.o] (.tup [.i .i64 (ofNat (bif hdB G N P LL (BB 0) head then G else 0)),.i .i64 (ofNat (bif hdB G N P LL (BB 0) head then BB 0 else 0))]) [.keep]:=by
  intro h k
  rw [h,cond_false,cond_false];exact k
 cases c1:Nat.beq N 0 with
 | false=>
   rw [c1] at d1
   refine bad (by unfold hdB;rw [c1];rfl) (con_of_run [] [] ((named_vc s L GG E G N I P LL BB head _).mpr ?_))
   simp only [d1,Bool.not_false,Bool.not_true,true_implies,false_implies,reduceCtorEq,and_true,true_and]
   exact ⟨w1,w2,_,_,rfl,ret_k (by kernel_rfl)⟩
 | true=>
   rw [c1] at d1
   cases c2:Nat.beq P 1 with
   | false=>
     rw [c2] at d2
     refine bad (by unfold hdB;rw [c1,c2];rfl) (con_of_run [] [] ((named_vc s L GG E G N I P LL BB head _).mpr ?_))
     simp only [d1,d2,Bool.not_false,Bool.not_true,true_implies,false_implies,reduceCtorEq,and_true,true_and]
     exact ⟨w1,w2,_,_,rfl,ret_k (by kernel_rfl)⟩
   | true=>
     rw [c2] at d2
     cases c3:Nat.beq LL 1 with
     | false=>
       rw [c3] at d3
       refine bad (by unfold hdB;rw [c1,c2,c3];rfl) (con_of_run [] [] ((named_vc s L GG E G N I P LL BB head _).mpr ?_))
       simp only [d1,d2,d3,Bool.not_false,Bool.not_true,true_implies,false_implies,reduceCtorEq,and_true,true_and]
       exact ⟨w1,w2,_,_,rfl,ret_k (by kernel_rfl)⟩
     | true=>
       rw [c3] at d3
       have eL:=Nat.eq_of_beq_eq_true c3
       have z:(0:Int)<=0/\(0:Int)<↑LL:=⟨by decide,by rw [eL];decide⟩
       cases c4:Nat.ble (BB 0) 1 with
       | false=>
         rw [c4] at d4
         refine bad (by unfold hdB;rw [c1,c2,c3,c4];rfl) (con_of_run [] [] ((named_vc s L GG E G N I P LL BB head _).mpr ?_))
         simp only [d1,d2,d3,d4,Bool.not_false,Bool.not_true,true_implies,false_implies,reduceCtorEq,and_true,true_and]
         exact ⟨w1,w2,z,_,_,rfl,ret_k (by kernel_rfl)⟩
       | true=>
         rw [c4] at d4
         have z2:(2:Int)≠0:=by decide
         cases c5:Nat.beq (G % 2) head with
         | false=>
           rw [c5] at d5
           refine bad (by unfold hdB;rw [c1,c2,c3,c4,c5];rfl) (con_of_run [] [] ((named_vc s L GG E G N I P LL BB head _).mpr ?_))
           simp only [d1,d2,d3,d4,d5,Bool.not_false,Bool.not_true,true_implies,false_implies,reduceCtorEq,and_true,true_and]
           exact ⟨w1,w2,z,z2,_,_,rfl,ret_k (by kernel_rfl)⟩
         | true=>
           rw [c5] at d5
           have ok:hdB G N P LL (BB 0) head=true:=by unfold hdB;rw [c1,c2,c3,c4,c5];rfl
           rw [ok,cond_true,cond_true]
           refine con_of_run [] [] ((named_vc s L GG E G N I P LL BB head _).mpr ?_)
           simp only [d1,d2,d3,d4,d5,Bool.not_false,Bool.not_true,true_implies,false_implies,reduceCtorEq,and_true,true_and]
           exact ⟨w1,w2,z,z2,z,r1,_,_,rfl,ret_k (by kernel_rfl)⟩
def hdOk (b:Nat->Nat) (h:Nat):Bool:=hdB (stG b) (stN b) (stP b) (stL b) (b 11) h
def hdG (s:SS) (h:Nat):Nat:=bif hdOk (bB s h) h then stG (bB s h) else 0
def hdA (s:SS) (h:Nat):Nat:=bif hdOk (bB s h) h then bB s h 11 else 0
theorem stG_le (b:Nat->Nat):stG b<=4294967296:=by
 by_cases h:PtOk b
 · rw [stG_t h];have:=h.gen1;omega
 · unfold stG;rw [ptB_f h,cond_false];omega
theorem bB_lt {s:SS} (hb:Byt s) (q t:Nat):bB s q t<256:=by
 unfold bB
 cases decide (s.rdE (ofNat q)=0) with
 | true=>exact rdC_lt hb _ t
 | false=>exact (by decide:0<256)
theorem named_con (s:SS) (h:Nat) (h512:s.n<=512) (hb:Byt s) :
 Con PG 37 [.p 0 0,.i .i64 (ofNat h)] [some s.o] (.tup [.i .i64 (ofNat (hdG s h)),.i .i64 (ofNat (hdA s h))]) [.keep]:=by
 have hx:=bB_lt hb h
 unfold hdG hdA hdOk
 by_cases h0:s.rdE (ofNat h)=0
 · have eB:bB s h=rdC s (ofNat h):=by unfold bB;rw [decide_eq_true h0]
   have w1:=readT_con s (ofNat h) h512 hb h0
   have w2:=standP_con (rdC s (ofNat h)) fun t _=>rdC_lt hb _ t
   rw [<-eB] at w1 w2
   generalize bB s h=V at w1 w2 hx⊢
   exact namedX_con s 64 (byF V) 0 (stG V) (stN V) (stI V) (stP V) (stL V) (fun t=>V (11+t)) h (stG_le V) (hx 11) w1 w2
 · have eB:bB s h=fun _=>0:=by unfold bB;rw [decide_eq_false h0]
   have w1:=readF_con s (ofNat h) h512 h0
   have w2:=stand0_con (fun _=>0) zero_bad fun _ _=>.p0
   rw [<-eB] at w2
   generalize bB s h=V at w2 hx⊢
   exact namedX_con s 0 (fun _ _=>.p0) (s.rdE (ofNat h)) (stG V) (stN V) (stI V) (stP V) (stL V) (fun t=>V (11+t)) h (stG_le V) (hx 11) w1 w2
theorem begin_vc (s S2:SS) (E2:Int) (G0 A0 G1 A1:Nat) (K:Res->Orc->Prop):runK PG 1000000 (.call 30 [.p 0 0] (mkH [some s.o])) (.cal [0] (.tup [inv G0,inv A0]) [.keep] (.cal [0] (.tup [inv G1,inv A1]) [.keep] (.s (.s .z (.cal [0] (.i .i64 E2) [.set (SS.o S2)] .z)) (.s .z (.cal [0] (.i .i64 E2) [.set (SS.o S2)] .z))))) K=((fun (q0:AV)=>(Con PG 37 [.p 0 0,.i .i64 0] [some (SS.o s)] (.tup [inv G0,inv A0]) [.keep]/\Con PG 37 [.p 0 0,.i .i64 1] [some (SS.o s)] (.tup [inv G1,inv A1]) [.keep]/\(decide (ofNat G0<ofNat G1)=true->(decide (0<ofNat G1)=true->K (.rv (.tup [inv G1,inv A1,.i .i64 0]) ⟨zzl (SS.o s),1,[]⟩) .z)/\(decide (0<ofNat G1)=false->Con PG 38 [.p 0 0,.i .i64 1,.i .i64 0] [some (SS.o s)] (.i .i64 E2) [.set (SS.o S2)]/\K (.rv q0 ⟨zzl (SS.o S2),1,[0]⟩) .z))/\(decide (ofNat G0<ofNat G1)=false->(decide (0<ofNat G0)=true->K (.rv (.tup [inv G0,inv A0,.i .i64 0]) ⟨zzl (SS.o s),1,[]⟩) .z)/\(decide (0<ofNat G0)=false->Con PG 38 [.p 0 0,.i .i64 1,.i .i64 0] [some (SS.o s)] (.i .i64 E2) [.set (SS.o S2)]/\K (.rv q0 ⟨zzl (SS.o S2),1,[0]⟩) .z)))) (.tup [.i .i64 1,.i .i64 0,.i .i64 E2])):=by kernel_rfl
def bgG (s:SS):Nat:=bif Nat.blt (hdG s 0) (hdG s 1) then hdG s 1 else hdG s 0
def bgA (s:SS):Nat:=bif Nat.blt (hdG s 0) (hdG s 1) then hdA s 1 else hdA s 0
theorem dlt (n m:Nat):decide (ofNat n<ofNat m)=Nat.blt n m:=by
 cases h:Nat.blt n m with
 | true=>exact decide_eq_true (by rw [Nat.blt_eq] at h;simp;omega)
 | false=>exact decide_eq_false (by rw [Bool.eq_false_iff,ne_eq,Nat.blt_eq] at h;simp;omega)
theorem begin_con (s:SS) (h512:s.n<=512) (hb:Byt s) (hg:0<bgG s):Con PG 30 [.p 0 0] [some s.o] (.tup [.i .i64 (ofNat (bgG s)),.i .i64 (ofNat (bgA s)),.i .i64 0]) [.keep]:=by
 have w0:=named_con s 0 h512 hb
 have w1:=named_con s 1 h512 hb
 unfold bgG at hg
 unfold bgG bgA
 have d:=dlt (hdG s 0) (hdG s 1)
 generalize hdG s 0=G0 at *
 generalize hdG s 1=G1 at *
 generalize hdA s 0=A0 at *
 generalize hdA s 1=A1 at *
 cases c:Nat.blt G0 G1 with
 | true=>
   rw [c] at d hg
   rw [cond_true] at hg
   have d2:decide ((0:Int)<ofNat G1)=true:=by simp;omega
   rw [cond_true,cond_true]
   exact con_of_run [] [] ((begin_vc s s 0 G0 A0 G1 A1 _).mpr ⟨w0,w1,fun _=>⟨fun _=>⟨_,_,rfl,ret_k (by kernel_rfl)⟩,fun h=>(by rw [d2] at h;cases h)⟩,fun h=>(by rw [d] at h;cases h)⟩)
 | false=>
   rw [c] at d hg
   rw [cond_false] at hg
   have d2:decide ((0:Int)<ofNat G0)=true:=by simp;omega
   rw [cond_false,cond_false]
   exact con_of_run [] [] ((begin_vc s s 0 G0 A0 G1 A1 _).mpr ⟨w0,w1,fun h=>(by rw [d] at h;cases h),fun _=>⟨fun _=>⟨_,_,rfl,ret_k (by kernel_rfl)⟩,fun h=>(by rw [d2] at h;cases h)⟩⟩)
theorem begin0_con (s:SS) (mm:Nat) (ok:OkM s mm) (hm:mm+1<1073741823) (hn:2<=s.n) (hb:Byt s) (hg:bgG s=0) :
 Con PG 30 [.p 0 0] [some s.o] (.tup [.i .i64 1,.i .i64 0,.i .i64 (nmE s 1 0)]) [.set (nmS s 1 0).o]:=by
 have w0:=named_con s 0 ok.n hb
 have w1:=named_con s 1 ok.n hb
 have w2:=name_con s 1 0 mm ok hm hn
 unfold bgG at hg
 have d:=dlt (hdG s 0) (hdG s 1)
 generalize hdG s 0=G0 at *
 generalize hdG s 1=G1 at *
 generalize hdA s 0=A0 at *
 generalize hdA s 1=A1 at *
 generalize nmS s 1 0=S2 at *
 generalize nmE s 1 0=E2 at *
 cases c:Nat.blt G0 G1 with
 | true=>
   rw [c] at d hg
   rw [cond_true] at hg
   have d2:decide ((0:Int)<ofNat G1)=false:=by simp;omega
   exact con_of_run [] [] ((begin_vc s S2 E2 G0 A0 G1 A1 _).mpr ⟨w0,w1,fun _=>⟨fun h=>(by rw [d2] at h;cases h),fun _=>⟨w2,_,_,rfl,ret_k (by kernel_rfl)⟩⟩,fun h=>(by rw [d] at h;cases h)⟩)
 | false=>
   rw [c] at d hg
   rw [cond_false] at hg
   have d2:decide ((0:Int)<ofNat G0)=false:=by simp;omega
   exact con_of_run [] [] ((begin_vc s S2 E2 G0 A0 G1 A1 _).mpr ⟨w0,w1,fun h=>(by rw [d] at h;cases h),fun _=>⟨fun h=>(by rw [d2] at h;cases h),fun _=>⟨w2,_,_,rfl,ret_k (by kernel_rfl)⟩⟩⟩)
def ptF (G N I P L:Nat->Nat) (D:Nat->Nat->Nat):Nat->Nat->CV:=fun i j=>match j with
 | 0=>.i .i64 (ofNat (G i))
 | 1=>.i .i64 (ofNat (N i))
 | 2=>.i .i64 (ofNat (I i))
 | 3=>.i .i64 (ofNat (P i))
 | _=>.sv 1 (L i) (byF (D i))
theorem prF_eq (s:SS) (area:Nat):prF s area=ptF (fun i=>stG (bB s (2+area*60+i))) (fun i=>stN (bB s (2+area*60+i))) (fun i=>stI (bB s (2+area*60+i))) (fun i=>stP (bB s (2+area*60+i))) (fun i=>stL (bB s (2+area*60+i))) (fun i t=>bB s (2+area*60+i) (11+t)):=by
 funext i j
 show ptC (bB s (2+area*60+i)) j= _
 match j with
 | 0=>rfl
 | 1=>rfl
 | 2=>rfl
 | 3=>rfl
 | j+4=>rfl
theorem ptF_shift (G N I P L:Nat->Nat) (D:Nat->Nat->Nat) (q:Nat):shiftF q (ptF G N I P L D)=ptF (fun i=>G (q+i)) (fun i=>N (q+i)) (fun i=>I (q+i)) (fun i=>P (q+i)) (fun i=>L (q+i)) (fun i=>D (q+i)):=by
 funext i j;rw [shiftF_eq];rfl
def rcT (k n:Nat) (gen num:Nat) (i q:Nat) (G N I P L:Nat->Nat) (D:Nat->Nat->Nat):List (Nat×AV):=
 [(1,.i .i64 (ofNat gen)),(2,.i .i64 (ofNat num)),(8,.i .i64 (ofNat n)),(9,.lr 0 1 0 q false),(30,.sv 5 n (ptF G N I P L D)),(31,.i .i64 (ofNat n)),(32,.i .i64 (ofNat i))]
theorem rcOk_vc (n gen num i q:Nat) (ff G N I P L:Nat->Nat) (D:Nat->Nat->Nat) (hi:decide (ofNat i<ofNat n)=true) (h1:decide (ofNat (G i)=ofNat gen)=true) (h2:decide (ofNat (N i)=ofNat num)=true) (h3:decide (ofNat (I i)=ofNat i)=true) (h4:decide (ofNat (P i)=ofNat n)=true) (K:Res->Orc->Prop):runK PG 1000000 (.code (loopAt PG 42 0) 66 (mkT (rcT 0 n gen num i q G N I P L D)) (mkH [some (.rows 5 1 q (byF ff))])) (ot 5 (.f (ot 4 (.f (ot 4 (.f (.f .z))))))) K=((fun (q7:Bool)=>((fun (q6:Bool)=>((fun (q5:Bool)=>((fun (q4:AV)=>((fun (q3:AV)=>((fun (q2:Nat->Nat->CV)=>((fun (q1:AV)=>((fun (q0:AV)=>(decide (ofNat i<ofNat n)=true/\(0<=ofNat i/\ofNat i<↑n)/\True/\True/\q5=true/\True/\r3 (q5=true) ((!decide (ofNat (G i)=ofNat gen))=false/\q6=true/\True/\r3 (q6=true) ((!decide (ofNat (N i)=ofNat num))=false/\q7=true/\True/\r3 (q7=true) ((!decide (ofNat (I i)=ofNat i))=false/\(!decide (ofNat (P i)=ofNat n))=false/\True/\(0+q<=q/\True/\q+L i<=140737488355328/\(3*(q+L i)+1536)*1<=562949953421312)/\rg (ofNat i+1)/\K (.st .nrm (zz0 (zz1 (inv gen) (zz0 (zz0 (zz0 (zz1 (inv n) (zzl (.i .i64 (ofNat i+1))) .e) (zzl q0)) (zz0 (zzn gen) (zzn (P i)))) (zz1 (.p 1 0) (zz0 (zzl (.pv 5 (ptF G N I P L D i))) (zzl q1)) (zz0 (zzn (N i)) (zzl (.lr 0 1 0 q false)))))
 (zz0 (zz1 (.lr 2 1 0 (addN q (L i)) false) (zz0 (zzl (.b (decide (ofNat i<ofNat n)))) (zzn (I i))) (zz0 (zzl q3) (zzl q4))) (zz0 (zz0 (zzl (.p 1 0)) (zzl q1)) (zz0 (zzl q0) (zzl (.sv 1 (L i) q2)))))) (zz1 (inv num) (zz0 (zz1 (inv n) (zz0 (zzl (.i .i64 (ofNat i+1))) (zzl (.p 1 2))) (zz0 (zzl q3) (zzn n))) (zz0 (zz0 (zzl (.agg [inv (G i),inv (N i),inv (I i),inv (P i),.sv 1 (L i) q2])) (zzl q1)) (zz0 (zzn num) (zzl (.p 1 4))))) (zz0 (zz1 (inv i) (zz0 (zzn i) (zzn i)) (zz0 (zzl (.p 1 1)) (zzl q4))) (zz0 (zz0 (zzn (G i)) (zzl (.p 1 3))) (zz1 (.sv 5 n (ptF G N I P L D)) (zzl q0) (zzl (.lr 2 1 0 (addN q (L i)) false))))))) ⟨zz0 (zzl (AObj.cells 101 5 [.i .i64 0,.i .i64 0,.i .i64 0,.i .i64 0,.l0] (zz1 (inv (G i)) (zz1 (inv (N i)) (zzn (P i)) .e) (zz1 (inv (I i)) (zzl (.sv 1 (L i) q2)) .e)))) (zzl (AObj.rows 5 1 (addN q (L i)) (appZ q (fun k x=>CV.i .u8 (ofNat (ff k))) fun k x=>CV.i .u8 (ofNat (D i k))))),3,[2,0,1,1]⟩) .z))))) (.b !decide (ofNat (N i)=ofNat num)))) (.b !decide (ofNat (I i)=ofNat i)))) (byF (D (Int.toNat (ofNat i)))))) (.b !decide (ofNat (G i)=ofNat gen)))) (.b !decide (ofNat (P i)=ofNat n)))) (!!decide (ofNat (G i)=ofNat gen)))) (!!decide (ofNat (N i)=ofNat num)))) (!!decide (ofNat (I i)=ofNat i))):=by kernel_rfl
theorem rcEnd_vc (n gen num i q:Nat) (ff G N I P L:Nat->Nat) (D:Nat->Nat->Nat) (hi:decide (ofNat i<ofNat n)=false) (K:Res->Orc->Prop):runK PG 1000000 (.code (loopAt PG 42 0) 66 (mkT (rcT 0 n gen num i q G N I P L D)) (mkH [some (.rows 5 1 q (byF ff))])) (.f .z) K=(decide (ofNat i<ofNat n)=false/\K (.st (.exit 0) (zz0 (zz1 (inv gen) (zz0 (zz0 (zz0 (zzn n) .e) .e) .e) (zz0 (zz1 (.lr 0 1 0 q false) (zz0 (zzl (.b (decide (ofNat i<ofNat n)))) .e) .e) .e)) (zz1 (inv num) (zz0 (zz1 (inv n) (zz0 (zzn i) .e) .e) .e) (zz0 .e (zz0 .e (zzl (.sv 5 n (ptF G N I P L D))))))) ⟨zzl (AObj.rows 5 1 q (byF ff)),1,[]⟩) .z):=by kernel_rfl
theorem rcB1_vc (n gen num i q:Nat) (ff G N I P L:Nat->Nat) (D:Nat->Nat->Nat) (hi:decide (ofNat i<ofNat n)=true) (h1:decide (ofNat (G i)=ofNat gen)=false) (K:Res->Orc->Prop):runK PG 1000000 (.code (loopAt PG 42 0) 66 (mkT (rcT 0 n gen num i q G N I P L D)) (mkH [some (.rows 5 1 q (byF ff))])) (.t (of_ 4 (.t (oc 11 .z)))) K=((fun (q0:AV)=>(decide (ofNat i<ofNat n)=true/\(0<=ofNat i/\ofNat i<↑n)/\True/\True/\r4 ((!!decide (ofNat (G i)=ofNat gen))=false) ((!decide (ofNat (G i)=ofNat gen))=true/\K (.st .ret (zz0 (zz1 (inv gen) (zz0 (zz1 (.i .i64 0) (zz0 (zzn n) zzb) (zz0 (zzn gen) zzu)) (zz1 (.p 1 0) (zz0 (zzl (.pv 5 (ptF G N I P L D i))) zzu) (zz0 zzu .e))) (zz0 (zz1 (.lr 0 1 0 q false) (zz0 (zzl (.b (decide (ofNat i<ofNat n)))) zzu) (zz0 (zzl q0) zzu)) (zz0 (zz0 (zzl (.p 1 0)) zzb) (zz0 zzu .e)))) (zz1 (inv num) (zz0 (zz1 (inv n) (zz0 (zzn i) zzu) (zz0 (zzl q0) zzu)) (zz0 (zz0 (zzl (.agg [inv (G i),inv (N i),inv (I i),inv (P i),.sv 1 (L i) (byF (D (Int.toNat (ofNat i))))])) zzb) (zz0 zzu .e))) (zz1 .l0 (zz1 (inv i) (zz0 (zzn i) zzu) (zz0 zzu zzb)) (zz0 (zz0 (zzn (G i)) zzu) (zz1 (.sv 5 n (ptF G N I P L D)) zzb .e))))) ⟨zz1 (AObj.rows 5 1 q (byF ff)) (zzl (AObj.cells 101 5 [.i .i64 0,.i .i64 0,.i .i64 0,.i .i64 0,.l0] (zz1 (inv (G i)) (zz1 (inv (N i)) (zzn (P i)) .e) (zz1 (inv (I i)) (zzl (.sv 1 (L i) (byF (D (Int.toNat (ofNat i)))))) .e)))) .e,2,[1,
 1]⟩) .z))) (.b !decide (ofNat (G i)=ofNat gen))):=by kernel_rfl
theorem rcB2_vc (n gen num i q:Nat) (ff G N I P L:Nat->Nat) (D:Nat->Nat->Nat) (hi:decide (ofNat i<ofNat n)=true) (h1:decide (ofNat (G i)=ofNat gen)=true) (h2:decide (ofNat (N i)=ofNat num)=false) (K:Res->Orc->Prop):runK PG 1000000 (.code (loopAt PG 42 0) 66 (mkT (rcT 0 n gen num i q G N I P L D)) (mkH [some (.rows 5 1 q (byF ff))])) (ot 5 (of_ 5 (.t (oc 6 .z)))) K=((fun (q2:Bool)=>((fun (q1:AV)=>((fun (q0:AV)=>(decide (ofNat i<ofNat n)=true/\(0<=ofNat i/\ofNat i<↑n)/\True/\True/\q2=true/\True/\r3 (q2=true) ((!decide (ofNat (G i)=ofNat gen))=false/\r4 ((!!decide (ofNat (N i)=ofNat num))=false) ((!decide (ofNat (N i)=ofNat num))=true/\K (.st .ret (zz0 (zz1 (inv gen) (zz0 (zz1 (.i .i64 0) (zz0 (zzn n) (zzl q0)) (zz0 (zzn gen) zzu)) (zz1 (.p 1 0) (zz0 (zzl (.pv 5 (ptF G N I P L D i))) zzu) (zz0 (zzn (N i)) .e))) (zz0 (zz1 (.lr 0 1 0 q false) (zz0 (zzl (.b (decide (ofNat i<ofNat n)))) zzu) (zz0 (zzl q1) zzu)) (zz0 (zz0 (zzl (.p 1 0)) zzb) (zz0 (zzl q0) .e)))) (zz1 (inv num) (zz0 (zz1 (inv n) (zz0 (zzn i) zzu) (zz0 (zzl q1) zzu)) (zz0 (zz0 (zzl (.agg [inv (G i),inv (N i),inv (I i),inv (P i),.sv 1 (L i) (byF (D (Int.toNat (ofNat i))))])) zzb) (zz0 (zzn num) .e))) (zz1 .l0 (zz1 (inv i) (zz0 (zzn i) zzu) (zz0 (zzl (.p 1 1)) zzb)) (zz0 (zz0 (zzn (G i)) zzu) (zz1 (.sv 5 n (ptF G N I P L D)) (zzl q0) .e))))) ⟨zz1 (AObj.rows 5 1 q
 (byF ff)) (zzl (AObj.cells 101 5 [.i .i64 0,.i .i64 0,.i .i64 0,.i .i64 0,.l0] (zz1 (inv (G i)) (zz1 (inv (N i)) (zzn (P i)) .e) (zz1 (inv (I i)) (zzl (.sv 1 (L i) (byF (D (Int.toNat (ofNat i)))))) .e)))) .e,2,[1,1]⟩) .z)))) (.b !decide (ofNat (N i)=ofNat num)))) (.b !decide (ofNat (G i)=ofNat gen)))) (!!decide (ofNat (G i)=ofNat gen))):=by kernel_rfl
theorem rcB3_vc (n gen num i q:Nat) (ff G N I P L:Nat->Nat) (D:Nat->Nat->Nat) (hi:decide (ofNat i<ofNat n)=true) (h1:decide (ofNat (G i)=ofNat gen)=true) (h2:decide (ofNat (N i)=ofNat num)=true) (h3:decide (ofNat (I i)=ofNat i)=false) (K:Res->Orc->Prop):runK PG 1000000 (.code (loopAt PG 42 0) 66 (mkT (rcT 0 n gen num i q G N I P L D)) (mkH [some (.rows 5 1 q (byF ff))])) (ot 5 (.f (ot 4 (of_ 5 (.t (.c .z)))))) K=((fun (q4:Bool)=>((fun (q3:Bool)=>((fun (q2:AV)=>((fun (q1:AV)=>((fun (q0:AV)=>(decide (ofNat i<ofNat n)=true/\(0<=ofNat i/\ofNat i<↑n)/\True/\True/\q3=true/\True/\r3 (q3=true) ((!decide (ofNat (G i)=ofNat gen))=false/\q4=true/\True/\r3 (q4=true) ((!decide (ofNat (N i)=ofNat num))=false/\r4 ((!!decide (ofNat (I i)=ofNat i))=false) ((!decide (ofNat (I i)=ofNat i))=true/\K (.st .ret (zz0 (zz1 (inv gen) (zz0 (zz1 (.i .i64 0) (zz0 (zzn n) (zzl q0)) (zz0 (zzn gen) zzu)) (zz1 (.p 1 0) (zz0 (zzl (.pv 5 (ptF G N I P L D i))) (zzl q1)) (zz0 (zzn (N i)) .e))) (zz0 (zz1 (.lr 0 1 0 q false) (zz0 (zzl (.b (decide (ofNat i<ofNat n)))) (zzn (I i))) (zz0 (zzl q2) zzu)) (zz0 (zz0 (zzl (.p 1 0)) (zzl q1)) (zz0 (zzl q0) .e)))) (zz1 (inv num) (zz0 (zz1 (inv n) (zz0 (zzn i) (zzl (.p 1 2))) (zz0 (zzl q2) zzu)) (zz0 (zz0 (zzl (.agg [inv (G i),inv (N i),inv (I i),inv (P i),.sv 1 (L i) (byF (D
 (Int.toNat (ofNat i))))])) (zzl q1)) (zz0 (zzn num) .e))) (zz1 .l0 (zz1 (inv i) (zz0 (zzn i) (zzn i)) (zz0 (zzl (.p 1 1)) zzb)) (zz0 (zz0 (zzn (G i)) zzu) (zz1 (.sv 5 n (ptF G N I P L D)) (zzl q0) .e))))) ⟨zz1 (AObj.rows 5 1 q (byF ff)) (zzl (AObj.cells 101 5 [.i .i64 0,.i .i64 0,.i .i64 0,.i .i64 0,.l0] (zz1 (inv (G i)) (zz1 (inv (N i)) (zzn (P i)) .e) (zz1 (inv (I i)) (zzl (.sv 1 (L i) (byF (D (Int.toNat (ofNat i)))))) .e)))) .e,2,[1,1]⟩) .z))))) (.b !decide (ofNat (N i)=ofNat num)))) (.b !decide (ofNat (I i)=ofNat i)))) (.b !decide (ofNat (G i)=ofNat gen)))) (!!decide (ofNat (G i)=ofNat gen)))) (!!decide (ofNat (N i)=ofNat num))):=by kernel_rfl
theorem rcB4_vc (n gen num i q:Nat) (ff G N I P L:Nat->Nat) (D:Nat->Nat->Nat) (hi:decide (ofNat i<ofNat n)=true) (h1:decide (ofNat (G i)=ofNat gen)=true) (h2:decide (ofNat (N i)=ofNat num)=true) (h3:decide (ofNat (I i)=ofNat i)=true) (h4:decide (ofNat (P i)=ofNat n)=false) (K:Res->Orc->Prop):runK PG 1000000 (.code (loopAt PG 42 0) 66 (mkT (rcT 0 n gen num i q G N I P L D)) (mkH [some (.rows 5 1 q (byF ff))])) (ot 5 (.f (ot 4 (.f (ot 4 (.f (.t .z))))))) K=((fun (q6:Bool)=>((fun (q5:Bool)=>((fun (q4:Bool)=>((fun (q3:AV)=>((fun (q2:AV)=>((fun (q1:AV)=>((fun (q0:AV)=>(decide (ofNat i<ofNat n)=true/\(0<=ofNat i/\ofNat i<↑n)/\True/\True/\q4=true/\True/\r3 (q4=true) ((!decide (ofNat (G i)=ofNat gen))=false/\q5=true/\True/\r3 (q5=true) ((!decide (ofNat (N i)=ofNat num))=false/\q6=true/\True/\r3 (q6=true) ((!decide (ofNat (I i)=ofNat i))=false/\(!decide (ofNat (P i)=ofNat n))=true/\K (.st .ret (zz0 (zz1 (inv gen) (zz0 (zz1 (.i .i64 0) (zz0 (zzn n) (zzl q0)) (zz0 (zzn gen) (zzn (P i)))) (zz1 (.p 1 0) (zz0 (zzl (.pv 5 (ptF G N I P L D i))) (zzl q1)) (zz0 (zzn (N i)) .e))) (zz0 (zz1 (.lr 0 1 0 q false) (zz0 (zzl (.b (decide (ofNat i<ofNat n)))) (zzn (I i))) (zz0 (zzl q2) (zzl q3))) (zz0 (zz0 (zzl (.p 1 0)) (zzl q1)) (zz0 (zzl q0) .e)))) (zz1 (inv num) (zz0 (zz1 (inv n)
 (zz0 (zzn i) (zzl (.p 1 2))) (zz0 (zzl q2) (zzn n))) (zz0 (zz0 (zzl (.agg [inv (G i),inv (N i),inv (I i),inv (P i),.sv 1 (L i) (byF (D (Int.toNat (ofNat i))))])) (zzl q1)) (zz0 (zzn num) .e))) (zz1 .l0 (zz1 (inv i) (zz0 (zzn i) (zzn i)) (zz0 (zzl (.p 1 1)) (zzl q3))) (zz0 (zz0 (zzn (G i)) (zzl (.p 1 3))) (zz1 (.sv 5 n (ptF G N I P L D)) (zzl q0) .e))))) ⟨zz1 (AObj.rows 5 1 q (byF ff)) (zzl (AObj.cells 101 5 [.i .i64 0,.i .i64 0,.i .i64 0,.i .i64 0,.l0] (zz1 (inv (G i)) (zz1 (inv (N i)) (zzn (P i)) .e) (zz1 (inv (I i)) (zzl (.sv 1 (L i) (byF (D (Int.toNat (ofNat i)))))) .e)))) .e,2,[1,1]⟩) .z))))) (.b !decide (ofNat (N i)=ofNat num)))) (.b !decide (ofNat (I i)=ofNat i)))) (.b !decide (ofNat (G i)=ofNat gen)))) (.b !decide (ofNat (P i)=ofNat n)))) (!!decide (ofNat (G i)=ofNat gen)))) (!!decide (ofNat (N i)=ofNat num)))) (!!decide (ofNat (I i)=ofNat i))):=by kernel_rfl
def cl (L:Nat->Nat):Nat->Nat
 | 0=>0
 | i+1=>cl L i+L i
def cb (L:Nat->Nat) (D:Nat->Nat->Nat):Nat->Nat->Nat
 | 0,_=>0
 | i+1,t=>bif Nat.blt t (cl L i) then cb L D i t else D i (t-cl L i)
theorem cl_le {L:Nat->Nat} (hL:∀i,L i<=47):∀i,cl L i<=47*i
 | 0=>Nat.le_refl _
 | i+1=>by have:=cl_le hL i;have:=hL i;show cl L i+L i<=_;omega
structure RcOk (n gen num:Nat) (G N I P:Nat->Nat) (i:Nat):Prop where
 eg:G i=gen
 en:N i=num
 ei:I i=i
 ep:P i=n
theorem rc_lp (n gen num:Nat) (G N I P L:Nat->Nat) (D:Nat->Nat->Nat) (ff0:Nat->Nat) (hn:n<=60) (hL:∀i,L i<=47) (ok:∀i,i<n->RcOk n gen num G N I P i) :
 LDoes PG (loopAt PG 42 0) 66 0 (mkT (rcT 0 n gen num 0 0 G N I P L D)) [some (.rows 5 1 0 (byF ff0))] (.exit 0) (mkT [(8,.i .i64 (ofNat n)),(9,.lr 0 1 0 (cl L n) false)]) [some (.rows 5 1 (cl L n) (byF (cb L D n)))]:=by
 refine loop_indV (D:=Nat×(Nat->Nat)) (l':=[(8,.i .i64 (ofNat n)),(9,.lr 0 1 0 (cl L n) false)]) (fun d=>(rcT 0 n gen num d.1 (cl L d.1) G N I P L D,[some (.rows 5 1 (cl L d.1) (byF d.2))])) (fun d=>n-d.1)
  (fun d=>d.1<=n/\∀t,t<cl L d.1->d.2 t=cb L D d.1 t) ?_ (0,ff0) ⟨Nat.zero_le _,fun t ht=>absurd ht (Nat.not_lt_zero _)⟩
 rintro ⟨i,ff⟩ ⟨hi,h1⟩
 simp only at hi h1
 have hc:=cl_le hL i
 have hLi:=hL i
 by_cases hlt:i<n
 · obtain ⟨a1,a2,a3,a4⟩:=ok i hlt
   have hd:decide (ofNat i<ofNat n)=true:=by simpa using hlt
   have d1:decide (ofNat (G i)=ofNat gen)=true:=decide_eq_true (by rw [a1])
   have d2:decide (ofNat (N i)=ofNat num)=true:=decide_eq_true (by rw [a2])
   have d3:decide (ofNat (I i)=ofNat i)=true:=decide_eq_true (by rw [a3])
   have d4:decide (ofNat (P i)=ofNat n)=true:=decide_eq_true (by rw [a4])
   refine ⟨Nat.zero_le _,1000000,_,(rcOk_vc n gen num i (cl L i) ff G N I P L D hd d1 d2 d3 d4 _).mpr ?_⟩
   have r0:(0:Int)<=ofNat i/\ofNat i<↑n:=⟨by simp,by simp;omega⟩
   have r1:0+cl L i<=cl L i/\True/\cl L i+L i<=140737488355328/\(3*(cl L i+L i)+1536)*1<=562949953421312:=⟨by omega,trivial,by omega,by omega⟩
   have r2:(-9223372036854775808:Int)<=ofNat i+1/\ofNat i+(1:Int)<=(9223372036854775807:Int):=⟨by simp<;>omega,by simp<;>omega⟩
   refine ⟨hd,r0,trivial,trivial,?_⟩
   repeat' first | exact trivial | assumption | exact nt (by assumption) | exact nf (by assumption) | exact nnt (by assumption) | exact nnf (by assumption) | refine And.intro ?_ ?_
   refine .inl ⟨(i+1,cb L D (i+1)),[2],[],_,_,rcT 0 n gen num (i+1) (addN (cl L i) (L i)) G N I P L D,[some (.rows 5 1 (addN (cl L i) (L i)) (appZ (cl L i) (fun k x=>CV.i .u8 (ofNat (ff k))) fun k x=>CV.i .u8 (ofNat (D i k))))],⟨hlt,fun t _=>rfl⟩,by simp only;omega,rfl,st_k [2] (by kernel_rfl),?_,?_⟩
   · rw [addN_eq];exact .refl _
   · rw [addN_eq]
     refine ⟨.rowsW fun t j ht hj=>.of ?_,trivial⟩
     obtain rfl:j=0:=by omega
     refine (appZ_i (Eq.refl _) (Eq.refl _)).trans ?_
     show CV.i .u8 _=CV.i .u8 (ofNat (bif Nat.blt t (cl L i) then cb L D i t else D i (t-cl L i)))
     by_cases c:t<cl L i
     · rw [if_pos c,show Nat.blt t (cl L i)=true from by rw [Nat.blt_eq];exact c,cond_true,h1 t c]
     · rw [if_neg c,show Nat.blt t (cl L i)=false from by rw [Bool.eq_false_iff,ne_eq,Nat.blt_eq];exact c,cond_false]
 · have:i=n:=by omega
   subst this
   have hd:decide (ofNat i<ofNat i)=false:=by simp
   refine ⟨Nat.zero_le _,1000000,_,(rcEnd_vc i gen num i (cl L i) ff G N I P L D hd _).mpr ⟨hd,?_⟩⟩
   exact .inr ⟨[0],[],_,_,[(8,.i .i64 (ofNat i)),(9,.lr 0 1 0 (cl L i) false)],[some (.rows 5 1 (cl L i) (byF ff))],rfl,by simp,st_k [0] (by kernel_rfl),.refl _,.rowsW fun t j ht hj=>.of (by show CV.i .u8 (ofNat (ff t))=CV.i .u8 (ofNat (cb L D i t));rw [h1 t ht]),trivial⟩
theorem rcBad_lp (n gen num m:Nat) (G N I P L:Nat->Nat) (D:Nat->Nat->Nat) (ff0:Nat->Nat) (hn:n<=60) (hL:∀i,L i<=47) (hm:m<n) (bad:¬RcOk n gen num G N I P m) (ok:∀i,i<m->RcOk n gen num G N I P i) :
 LDoes PG (loopAt PG 42 0) 66 0 (mkT (rcT 0 n gen num 0 0 G N I P L D)) [some (.rows 5 1 0 (byF ff0))] (.ret) (mkT [(6,.l0),(7,.i .i64 0)]) []:=by
 refine loop_indV (D:=Nat×(Nat->Nat)) (l':=[(6,.l0),(7,.i .i64 0)]) (fun d=>(rcT 0 n gen num d.1 (cl L d.1) G N I P L D,[some (.rows 5 1 (cl L d.1) (byF d.2))])) (fun d=>n-d.1)
  (fun d=>d.1<=m/\∀t,t<cl L d.1->d.2 t=cb L D d.1 t) ?_ (0,ff0) ⟨Nat.zero_le _,fun t ht=>absurd ht (Nat.not_lt_zero _)⟩
 rintro ⟨i,ff⟩ ⟨hi,h1⟩
 simp only at hi h1
 have hc:=cl_le hL i
 have hLi:=hL i
 have hd:decide (ofNat i<ofNat n)=true:=by simp;omega
 have r0:(0:Int)<=ofNat i/\ofNat i<↑n:=⟨by simp,by simp;omega⟩
 by_cases hlt:i<m
 · obtain ⟨a1,a2,a3,a4⟩:=ok i hlt
   have d1:decide (ofNat (G i)=ofNat gen)=true:=decide_eq_true (by rw [a1])
   have d2:decide (ofNat (N i)=ofNat num)=true:=decide_eq_true (by rw [a2])
   have d3:decide (ofNat (I i)=ofNat i)=true:=decide_eq_true (by rw [a3])
   have d4:decide (ofNat (P i)=ofNat n)=true:=decide_eq_true (by rw [a4])
   refine ⟨Nat.zero_le _,1000000,_,(rcOk_vc n gen num i (cl L i) ff G N I P L D hd d1 d2 d3 d4 _).mpr ?_⟩
   have r1:0+cl L i<=cl L i/\True/\cl L i+L i<=140737488355328/\(3*(cl L i+L i)+1536)*1<=562949953421312:=⟨by omega,trivial,by omega,by omega⟩
   have r2:(-9223372036854775808:Int)<=ofNat i+1/\ofNat i+(1:Int)<=(9223372036854775807:Int):=⟨by simp<;>omega,by simp<;>omega⟩
   refine ⟨hd,r0,trivial,trivial,?_⟩
   repeat' first | exact trivial | assumption | exact nt (by assumption) | exact nf (by assumption) | exact nnt (by assumption) | exact nnf (by assumption) | refine And.intro ?_ ?_
   refine .inl ⟨(i+1,cb L D (i+1)),[2],[],_,_,rcT 0 n gen num (i+1) (addN (cl L i) (L i)) G N I P L D,[some (.rows 5 1 (addN (cl L i) (L i)) (appZ (cl L i) (fun k x=>CV.i .u8 (ofNat (ff k))) fun k x=>CV.i .u8 (ofNat (D i k))))],⟨hlt,fun t _=>rfl⟩,by simp only;omega,rfl,st_k [2] (by kernel_rfl),?_,?_⟩
   · rw [addN_eq];exact .refl _
   · rw [addN_eq]
     refine ⟨.rowsW fun t j ht hj=>.of ?_,trivial⟩
     obtain rfl:j=0:=by omega
     refine (appZ_i (Eq.refl _) (Eq.refl _)).trans ?_
     show CV.i .u8 _=CV.i .u8 (ofNat (bif Nat.blt t (cl L i) then cb L D i t else D i (t-cl L i)))
     by_cases c:t<cl L i
     · rw [if_pos c,show Nat.blt t (cl L i)=true from by rw [Nat.blt_eq];exact c,cond_true,h1 t c]
     · rw [if_neg c,show Nat.blt t (cl L i)=false from by rw [Bool.eq_false_iff,ne_eq,Nat.blt_eq];exact c,cond_false]
 · have:i=m:=by omega
   subst this
   by_cases q1:G i=gen
   rotate_left
   · have d1:decide (ofNat (G i)=ofNat gen)=false:=decide_eq_false fun e=>q1 (Int.ofNat.inj e)
     refine ⟨Nat.zero_le _,1000000,_,(rcB1_vc n gen num i (cl L i) ff G N I P L D hd d1 _).mpr ?_⟩
     refine ⟨hd,r0,trivial,trivial,?_⟩
     repeat' first | exact trivial | assumption | exact nt (by assumption) | exact nf (by assumption) | exact nnt (by assumption) | exact nnf (by assumption) | refine And.intro ?_ ?_
     exact .inr ⟨[],[],_,_,[(6,.l0),(7,.i .i64 0)],[],rfl,by simp,st_k [] (by kernel_rfl),.refl _,OVL.refl _⟩
   have d1:decide (ofNat (G i)=ofNat gen)=true:=decide_eq_true (by rw [q1])
   by_cases q2:N i=num
   rotate_left
   · have d2:decide (ofNat (N i)=ofNat num)=false:=decide_eq_false fun e=>q2 (Int.ofNat.inj e)
     refine ⟨Nat.zero_le _,1000000,_,(rcB2_vc n gen num i (cl L i) ff G N I P L D hd d1 d2 _).mpr ?_⟩
     refine ⟨hd,r0,trivial,trivial,?_⟩
     repeat' first | exact trivial | assumption | exact nt (by assumption) | exact nf (by assumption) | exact nnt (by assumption) | exact nnf (by assumption) | refine And.intro ?_ ?_
     exact .inr ⟨[],[],_,_,[(6,.l0),(7,.i .i64 0)],[],rfl,by simp,st_k [] (by kernel_rfl),.refl _,OVL.refl _⟩
   have d2:decide (ofNat (N i)=ofNat num)=true:=decide_eq_true (by rw [q2])
   by_cases q3:I i=i
   rotate_left
   · have d3:decide (ofNat (I i)=ofNat i)=false:=decide_eq_false fun e=>q3 (Int.ofNat.inj e)
     refine ⟨Nat.zero_le _,1000000,_,(rcB3_vc n gen num i (cl L i) ff G N I P L D hd d1 d2 d3 _).mpr ?_⟩
     refine ⟨hd,r0,trivial,trivial,?_⟩
     repeat' first | exact trivial | assumption | exact nt (by assumption) | exact nf (by assumption) | exact nnt (by assumption) | exact nnf (by assumption) | refine And.intro ?_ ?_
     exact .inr ⟨[],[],_,_,[(6,.l0),(7,.i .i64 0)],[],rfl,by simp,st_k [] (by kernel_rfl),.refl _,OVL.refl _⟩
   have d3:decide (ofNat (I i)=ofNat i)=true:=decide_eq_true (by rw [q3])
   have d4:decide (ofNat (P i)=ofNat n)=false:=decide_eq_false fun e=>bad ⟨q1,q2,q3,Int.ofNat.inj e⟩
   refine ⟨Nat.zero_le _,1000000,_,(rcB4_vc n gen num i (cl L i) ff G N I P L D hd d1 d2 d3 d4 _).mpr ?_⟩
   refine ⟨hd,r0,trivial,trivial,?_⟩
   repeat' first | exact trivial | assumption | exact nt (by assumption) | exact nf (by assumption) | exact nnt (by assumption) | exact nnf (by assumption) | refine And.intro ?_ ?_
   exact .inr ⟨[],[],_,_,[(6,.l0),(7,.i .i64 0)],[],rfl,by simp,st_k [] (by kernel_rfl),.refl _,OVL.refl _⟩
end Go.Proofs.Jn
