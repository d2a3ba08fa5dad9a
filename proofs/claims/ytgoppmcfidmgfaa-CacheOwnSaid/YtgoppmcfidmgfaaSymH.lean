/- Runs over unknown values, told by the kernel: part SymH. -/
import Derived.Test.YtgoppmcfidmgfaaSymG
set_option linter.unusedSimpArgs false
set_option linter.unusedVariables false
/- Names put for names. -/
namespace Go.Sim
open Go
mutual
noncomputable def ren (σ:Nat->Nat):AV->AV
 | .p A o=>.p (σ A) o
 | .l A o len cap sz ex=>.l (σ A) o len cap sz ex
 | .m A=>.m (σ A)
 | .fn g f c=>.fn g (rens σ f) (rens σ c)
 | .ifc t v=>.ifc t (ren σ v)
 | .agg l=>.agg (rens σ l)
 | .tup l=>.tup (rens σ l)
 | .ps A o sz k i=>.ps (σ A) o sz k i
 | .pr A sz i o=>.pr (σ A) sz i o
 | .lr A sz i len ex=>.lr (σ A) sz i len ex
 | .b x=>.b x
 | .i k n=>.i k n
 | .s l=>.s l
 | .p0=>.p0
 | .l0=>.l0
 | .lz=>.lz
 | .m0=>.m0
 | .f0=>.f0
 | .if0=>.if0
 | .sv sz n f=>.sv sz n f
 | .opv q0 sz f=>.opv q0 sz f
 | .pv sz f=>.pv sz f
 | .yf A=>.yf (σ A)
 | .mq b A=>.mq b (σ A)
noncomputable def rens (σ:Nat->Nat):List AV->List AV
 | []=>[]
 | v :: r=>ren σ v :: rens σ r
end
mutual
noncomputable def below (k:Nat):AV->Bool
 | .p A _=>Nat.blt A k
 | .l A _ _ _ _ _=>Nat.blt A k
 | .m A=>Nat.blt A k
 | .fn _ f c=>belows k f && belows k c
 | .ifc _ v=>below k v
 | .agg l=>belows k l
 | .tup l=>belows k l
 | .ps A _ _ _ _=>Nat.blt A k
 | .pr A _ _ _=>Nat.blt A k
 | .lr A _ _ _ _=>Nat.blt A k
 | .b _=>true
 | .i _ _=>true
 | .s _=>true
 | .p0=>true
 | .l0=>true
 | .lz=>true
 | .m0=>true
 | .f0=>true
 | .if0=>true
 | .sv _ _ _=>true
 | .opv _ _ _=>true
 | .pv _ _=>true
 | .yf A=>Nat.blt A k
 | .mq b A=>Nat.blt A k
noncomputable def belows (k:Nat):List AV->Bool
 | []=>true
 | v :: r=>below k v && belows k r
end
theorem rens_map (σ:Nat->Nat):∀l:List AV,rens σ l=l.map (ren σ)
 | []=>by simp [rens]
 | v :: r=>by simp [rens,rens_map σ r]
theorem belows_all (k:Nat):∀l:List AV,belows k l=l.all (below k)
 | []=>by simp [belows]
 | v :: r=>by simp [belows,belows_all k r]
mutual
theorem ren_VR {ρ ρ':Rho} {σ:Nat->Nat} (hn:∀A x,ρ A=some x->ρ' (σ A)=some x) (hr:∀B j v,ρ.ro B j=some v->ρ'.ro B j=some v):∀{v:AV} {v':Value},VR ρ v v'->VR ρ' (ren σ v) v'
 | _,_,.b x=>by simp only [ren];exact .b x
 | _,_,.i k n=>by simp only [ren];exact .i k n
 | _,_,.s l s e=>by simp only [ren];exact .s l s e
 | _,_,.p0=>by simp only [ren];exact .p0
 | _,_,.p A o B d N e=>by simp only [ren];exact .p _ o B d N (hn _ _ e)
 | _,_,.l0=>by simp only [ren];exact .l0
 | _,_,.lz a c=>by simp only [ren];exact .lz a c
 | _,_,.l A o len cap sz ex B d N cap' e e1 e2 e3 e4=>by simp only [ren];exact .l _ o len cap sz ex B d N cap' (hn _ _ e) e1 e2 e3 e4
 | _,_,.m0=>by simp only [ren];exact .m0
 | _,_,.m A B N e=>by simp only [ren];exact .m _ B N (hn _ _ e)
 | _,_,.fn g fs cs fs' cs' a b=>by simp only [ren];exact .fn g _ _ fs' cs' (rens_VR hn hr a) (rens_VR hn hr b)
 | _,_,.f0=>by simp only [ren];exact .f0
 | _,_,.if0=>by simp only [ren];exact .if0
 | _,_,.ifc t v v' a=>by simp only [ren];exact .ifc t _ v' (ren_VR hn hr a)
 | _,_,.agg cs cs' a=>by simp only [ren];exact .agg _ cs' (rens_VR hn hr a)
 | _,_,.tup cs cs' a=>by simp only [ren];exact .tup _ cs' (rens_VR hn hr a)
 | _,_,.sv sz n f v' a=>by simp only [ren];exact .sv sz n f v' (a.mono hr)
 | _,_,.opv q0 sz f v' a=>by simp only [ren];exact .opv q0 sz f v' (a.mono hr)
 | _,_,.pv sz f B o g a b=>by simp only [ren];exact .pv sz f B o g (fun j q=>hr _ _ _ (a j q)) (fun j q=>(b j q).mono hr)
 | _,_,.pr A sz i o B d N e=>by simp only [ren];exact .pr _ sz i o B d N (hn _ _ e)
 | _,_,.lr A sz i len ex B d N cap' e e1 e2 e3=>by simp only [ren];exact .lr _ sz i len ex B d N cap' (hn _ _ e) e1 e2 e3
 | _,_,.lr0 A sz i ex=>by simp only [ren];exact .lr0 _ sz i ex
 | _,_,.ps A o sz k i B d N e=>by simp only [ren];exact .ps _ o sz k i B d N (hn _ _ e)
 | _,_,.yf A B d N e=>by simp only [ren];exact .yf _ B d N (hn _ _ e)
 | _,_,.mq1 A B N e=>by simp only [ren];exact .mq1 _ B N (hn _ _ e)
 | _,_,.mq0 A=>by simp only [ren];exact .mq0 _
theorem rens_VR {ρ ρ':Rho} {σ:Nat->Nat} (hn:∀A x,ρ A=some x->ρ' (σ A)=some x) (hr:∀B j v,ρ.ro B j=some v->ρ'.ro B j=some v):∀{v:List AV} {v':List Value},VRs ρ v v'->VRs ρ' (rens σ v) v'
 | _,_,.nil=>by simp only [rens];exact .nil
 | _,_,.cons v v' r r' a b=>by simp only [rens];exact .cons _ v' _ r' (ren_VR hn hr a) (rens_VR hn hr b)
end
theorem blt_lt {a b:Nat} (h:Nat.blt a b=true):a<b:=by simpa [Nat.blt_eq] using h
mutual
theorem unren_VR {ρ ρ':Rho} {σ:Nat->Nat} {k:Nat} (hn:∀A,A<k->ρ A=ρ' (σ A)) (hr:∀B j v,ρ'.ro B j=some v->ρ.ro B j=some v):∀{v:AV} {v':Value},below k v=true->VR ρ' (ren σ v) v'->VR ρ v v'
 | .b x,v',hb,h=>by simp only [ren] at h;cases h;exact .b x
 | .i k n,v',hb,h=>by simp only [ren] at h;cases h;exact .i k n
 | .s l,v',hb,h=>by simp only [ren] at h;cases h with | s _ _ e=>exact .s l _ e
 | .p0,v',hb,h=>by simp only [ren] at h;cases h;exact .p0
 | .p A o,v',hb,h=>by simp only [ren] at h;simp only [below] at hb;cases h with | p _ _ B d N e=>exact .p A o B d N (by rw [hn A (blt_lt hb)];exact e)
 | .l0,v',hb,h=>by simp only [ren] at h;cases h;exact .l0
 | .lz,v',hb,h=>by simp only [ren] at h;cases h;exact .lz _ _
 | .l A o len cap sz ex,v',hb,h=>by simp only [ren] at h;simp only [below] at hb;cases h with | l _ _ _ _ _ _ B d N cap' e e1 e2 e3 e4=>exact .l A o len cap sz ex B d N cap' (by rw [hn A (blt_lt hb)];exact e) e1 e2 e3 e4
 | .m0,v',hb,h=>by simp only [ren] at h;cases h;exact .m0
 | .m A,v',hb,h=>by simp only [ren] at h;simp only [below] at hb;cases h with | m _ B N e=>exact .m A B N (by rw [hn A (blt_lt hb)];exact e)
 | .fn g f c,v',hb,h=>by simp only [ren] at h;simp only [below,Bool.and_eq_true] at hb;cases h with | fn _ _ _ f' c' a b=>exact .fn g f c f' c' (unrens_VR hn hr hb.1 a) (unrens_VR hn hr hb.2 b)
 | .f0,v',hb,h=>by simp only [ren] at h;cases h;exact .f0
 | .if0,v',hb,h=>by simp only [ren] at h;cases h;exact .if0
 | .ifc t v,v',hb,h=>by simp only [ren] at h;simp only [below] at hb;cases h with | ifc _ _ v1 a=>exact .ifc t v v1 (unren_VR hn hr hb a)
 | .agg l,v',hb,h=>by simp only [ren] at h;simp only [below] at hb;cases h with | agg _ l' a=>exact .agg l l' (unrens_VR hn hr hb a)
 | .tup l,v',hb,h=>by simp only [ren] at h;simp only [below] at hb;cases h with | tup _ l' a=>exact .tup l l' (unrens_VR hn hr hb a)
 | .sv sz n f,v',hb,h=>by simp only [ren] at h;cases h with | sv _ _ _ _ a=>exact .sv sz n f _ (a.mono hr)
 | .opv q0 sz f,v',hb,h=>by simp only [ren] at h;cases h with | opv _ _ _ _ a=>exact .opv q0 sz f _ (a.mono hr)
 | .pv sz f,v',hb,h=>by simp only [ren] at h;cases h with | pv _ _ B o g a b=>exact .pv sz f B o g (fun j q=>hr _ _ _ (a j q)) (fun j q=>(b j q).mono hr)
 | .ps A o sz kk i,v',hb,h=>by simp only [ren] at h;simp only [below] at hb;cases h with | ps _ _ _ _ _ B d N e=>exact .ps A o sz kk i B d N (by rw [hn A (blt_lt hb)];exact e)
 | .pr A sz i o,v',hb,h=>by simp only [ren] at h;simp only [below] at hb;cases h with | pr _ _ _ _ B d N e=>exact .pr A sz i o B d N (by rw [hn A (blt_lt hb)];exact e)
 | .lr A sz i len ex,v',hb,h=>by
   simp only [ren] at h;simp only [below] at hb
   cases h with
   | lr _ _ _ _ _ B d N cap' e e1 e2 e3=>exact .lr A sz i len ex B d N cap' (by rw [hn A (blt_lt hb)];exact e) e1 e2 e3
   | lr0=>exact .lr0 A sz i ex
 | .yf A,v',hb,h=>by simp only [ren] at h;simp only [below] at hb;cases h with | yf _ B d N e=>exact .yf A B d N (by rw [hn A (blt_lt hb)];exact e)
 | .mq b A,v',hb,h=>by
   simp only [ren] at h;simp only [below] at hb
   cases h with
   | mq1 _ B N e=>exact .mq1 A B N (by rw [hn A (blt_lt hb)];exact e)
   | mq0=>exact .mq0 A
theorem unrens_VR {ρ ρ':Rho} {σ:Nat->Nat} {k:Nat} (hn:∀A,A<k->ρ A=ρ' (σ A)) (hr:∀B j v,ρ'.ro B j=some v->ρ.ro B j=some v):∀{v:List AV} {v':List Value},belows k v=true->VRs ρ' (rens σ v) v'->VRs ρ v v'
 | [],v',hb,h=>by simp only [rens] at h;cases h;exact .nil
 | v :: r,v',hb,h=>by
   simp only [rens] at h;simp only [belows,Bool.and_eq_true] at hb
   cases h with | cons _ x _ xs a b=>exact .cons v x r xs (unren_VR hn hr hb.1 a) (unrens_VR hn hr hb.2 b)
end
mutual
theorem ren_id:∀v:AV,ren id v=v
 | .fn g f c=>by simp only [ren,rens_id f,rens_id c]
 | .ifc t v=>by simp only [ren,ren_id v]
 | .agg l=>by simp only [ren,rens_id l]
 | .tup l=>by simp only [ren,rens_id l]
 | .p A o=>by simp only [ren,id]
 | .l A o len cap sz ex=>by simp only [ren,id]
 | .m A=>by simp only [ren,id]
 | .ps A o sz k i=>by simp only [ren,id]
 | .pr A sz i o=>by simp only [ren,id]
 | .lr A sz i len ex=>by simp only [ren,id]
 | .yf A=>by simp only [ren,id]
 | .mq b A=>by simp only [ren,id]
 | .b x=>by simp only [ren]
 | .i k n=>by simp only [ren]
 | .s l=>by simp only [ren]
 | .p0=>by simp only [ren]
 | .l0=>by simp only [ren]
 | .lz=>by simp only [ren]
 | .m0=>by simp only [ren]
 | .f0=>by simp only [ren]
 | .if0=>by simp only [ren]
 | .sv sz n f=>by simp only [ren]
 | .opv q0 sz f=>by simp only [ren]
 | .pv sz f=>by simp only [ren]
theorem rens_id:∀l:List AV,rens id l=l
 | []=>by simp only [rens]
 | v :: r=>by simp only [rens,ren_id v,rens_id r]
end
theorem ren_one (σ:Nat->Nat) (v:AV):(ren σ v).one=v.one:=by cases v<;>simp only [ren,AV.one]
noncomputable def T.mapV (f:AV->AV) (t:T AV):T AV:=
 T.rec (motive:=fun _=>T AV) .e (fun v _ _ l r=>.n (match v with | some a=>some (f a) | none=>none) l r) t
theorem T.mapV_get (f:AV->AV):∀(t:T AV) (k:Nat),(t.mapV f).get k=(t.get k).map f
 | .e,k=>rfl
 | .n v l r,0=>by
   show (T.n (match v with | some a=>some (f a) | none=>none) (l.mapV f) (r.mapV f)).get 0= _
   rw [T.get_0,T.get_0];cases v<;>rfl
 | .n v l r,k+1=>by
   show (T.n (match v with | some a=>some (f a) | none=>none) (l.mapV f) (r.mapV f)).get (k+1)= _
   rw [T.get_s,T.get_s]
   cases Nat.beq (k % 2) 0
   · exact T.mapV_get f r _
   · exact T.mapV_get f l _
noncomputable def oAll (p:AV->Bool):Option AV->Bool
 | some a=>p a
 | none=>true
noncomputable def T.allV (p:AV->Bool) (t:T AV):Bool:=
 T.rec (motive:=fun _=>Bool) true (fun v _ _ l r=>oAll p v && (l && r)) t
theorem T.allV_n (p:AV->Bool) (v:Option AV) (l r:T AV):(T.n v l r).allV p=(oAll p v && (l.allV p && r.allV p)):=rfl
theorem T.allV_get (p:AV->Bool):∀(t:T AV) (k:Nat) (a:AV),t.allV p=true->t.get k=some a->p a=true
 | .e,k,a,h,hg=>by simp [T.get_e] at hg
 | .n v l r,0,a,h,hg=>by
   rw [T.allV_n,Bool.and_eq_true] at h
   rw [T.get_0] at hg;subst hg
   exact h.1
 | .n v l r,k+1,a,h,hg=>by
   have h':=h
   rw [T.allV_n] at h'
   simp only [Bool.and_eq_true] at h'
   rw [T.get_s] at hg
   cases hb:Nat.beq (k % 2) 0 with
   | true=>rw [hb] at hg;exact T.allV_get p l _ a h'.2.1 hg
   | false=>rw [hb] at hg;exact T.allV_get p r _ a h'.2.2 hg
noncomputable def renO (σ:Nat->Nat):AObj->AObj
 | .cells e size dflt cs=>.cells e size (rens σ dflt) (cs.mapV (ren σ))
 | .map es c=>.map (es.map fun x=>(ren σ x.1,ren σ x.2.1,x.2.2)) c
 | .rows e sz n f=>.rows e sz n f
 | .segs e sz l qs=>.segs e sz l (qs.map fun y=>(y.1,ren σ y.2))
 | .lp st n prm asg body tm=>.lp st n prm asg body (tm.mapV (ren σ))
 | .mp b k z g f c=>.mp b k z g f c
noncomputable def belowO (k:Nat):AObj->Bool
 | .cells e size dflt cs=>belows k dflt && cs.allV (below k)
 | .map es c=>es.all fun x=>below k x.1 && below k x.2.1
 | .rows e sz n f=>true
 | .segs e sz l qs=>qs.all fun y=>below k y.2
 | .lp st n prm asg body tm=>tm.allV (below k)
 | .mp ..=>true
theorem renO_void (σ:Nat->Nat) (o:AObj):(renO σ o).void↔o.void:=by cases o<;>exact Iff.rfl
theorem cellAt_ren (σ:Nat->Nat) (size:Nat) (dflt:List AV) (cs:T AV) (i:Nat):cellAt size (rens σ dflt) (cs.mapV (ren σ)) i=(cellAt size dflt cs i).map (ren σ):=by
 unfold cellAt
 cases Nat.blt i size with
 | false=>rfl
 | true=>
   simp only [cond_true]
   rw [T.mapV_get]
   cases cs.get i with
   | some v=>rfl
   | none=>simp [rens_map]
theorem ren_BR {ρ ρ':Rho} {σ:Nat->Nat} (hn:∀A x,ρ A=some x->ρ' (σ A)=some x) (hr:∀B j v,ρ.ro B j=some v->ρ'.ro B j=some v) {o:AObj} {x:Nat×Nat×Nat} {w:World} (h:BR ρ o x w):BR ρ' (renO σ o) x w:=by
 cases o with
 | cells e size dflt cs=>
   obtain ⟨c,fr,h1,h2,h3,h4,h5⟩:=h
   refine ⟨c,fr,h1,h2,h3,h4,?_⟩
   intro i v hv
   rw [cellAt_ren] at hv
   cases hc:cellAt size dflt cs i with
   | none=>rw [hc] at hv;simp at hv
   | some u=>
     rw [hc] at hv;simp at hv;subst hv
     obtain ⟨v',a,b,c⟩:=h5 i u hc
     exact ⟨v',a,ren_VR hn hr b,by rw [ren_one];exact c⟩
 | map es cl=>
   obtain ⟨es',h1,h2,h3,h4⟩:=h
   refine ⟨es',h1,by simpa using h2,h3,?_⟩
   intro i k v n hi
   simp only [List.getElem?_map,Option.map_eq_some_iff] at hi
   obtain ⟨⟨k0,v0,n0⟩,hi,e⟩:=hi
   simp at e;obtain ⟨rfl,rfl,rfl⟩:=e
   obtain ⟨e',a,b,c,d⟩:=h4 i k0 v0 n0 hi
   exact ⟨e',a,ren_VR hn hr b,ren_VR hn hr c,d⟩
 | rows e sz n f=>
   obtain ⟨c,fr,h1,h2,h3,h4,h5⟩:=h
   exact ⟨c,fr,h1,h2,h3,h4,fun i j hi hj=>let ⟨v',a,b⟩:=h5 i j hi hj;⟨v',a,b.mono hr⟩⟩
 | segs e sz l qs=>
   obtain ⟨c,fr,h1,h2,h3,h4,h5,h6⟩:=h
   refine ⟨c,fr,h1,h2,h3,h4,fun g hg=>⟨(h5 g hg).1,fun i j hi hj=>let ⟨v',a,b⟩:=(h5 g hg).2 i j hi hj;⟨v',a,b.mono hr⟩⟩,fun y hy=>?_⟩
   obtain ⟨z,hz,rfl⟩:=List.mem_map.1 hy
   obtain ⟨z1,v',z2,z3⟩:=h6 z hz
   exact ⟨by rw [ren_one];exact z1,v',z2,ren_VR hn hr z3⟩
 | mp b k z g f c=>
   obtain ⟨h0,h1,es,h2,h3⟩:=h
   exact ⟨h0,h1,es,h2,h3.mono hr⟩
 | lp st n prm asg body tm=>
   obtain ⟨r,h1,h2,h3,h4,h5,h6,h7⟩:=h
   refine ⟨r,h1,h2,h3,h4,h5,h6,fun t v hv=>?_⟩
   rw [T.mapV_get] at hv
   cases hg:tm.get t with
   | none=>rw [hg] at hv;simp at hv
   | some u=>rw [hg] at hv;simp at hv;subst hv;exact ren_VR hn hr (h7 t u hg)
theorem unren_BR {ρ ρ':Rho} {σ:Nat->Nat} {k:Nat} (hn:∀A,A<k->ρ A=ρ' (σ A)) (hr:∀B j v,ρ'.ro B j=some v->ρ.ro B j=some v) {o:AObj} {x:Nat×Nat×Nat} {w:World} (hb:belowO k o=true) (h:BR ρ' (renO σ o) x w):BR ρ o x w:=by
 cases o with
 | cells e size dflt cs=>
   simp only [belowO,Bool.and_eq_true] at hb
   obtain ⟨c,fr,h1,h2,h3,h4,h5⟩:=h
   refine ⟨c,fr,h1,h2,h3,h4,?_⟩
   intro i v hv
   obtain ⟨v',a,b,c⟩:=h5 i (ren σ v) (by rw [cellAt_ren,hv];rfl)
   have hbv:below k v=true:=by
    rw [cellAt_some] at hv
    cases hg:cs.get i with
    | some u=>rw [hg] at hv;simp at hv;rw [<-hv.2];exact T.allV_get _ _ _ _ hb.2 hg
    | none=>
      rw [hg] at hv
      simp only [Option.none_or] at hv
      have:=hb.1
      rw [belows_all,List.all_eq_true] at this
      exact this v (List.mem_of_getElem? hv.2)
   exact ⟨v',a,unren_VR hn hr hbv b,by rw [ren_one] at c;exact c⟩
 | map es cl=>
   simp only [belowO,List.all_eq_true,Bool.and_eq_true] at hb
   obtain ⟨es',h1,h2,h3,h4⟩:=h
   refine ⟨es',h1,by simpa using h2,h3,?_⟩
   intro i kk v n hi
   obtain ⟨e',a,b,c,d⟩:=h4 i (ren σ kk) (ren σ v) n (by rw [List.getElem?_map,hi];rfl)
   have hm:=hb _ (List.mem_of_getElem? hi)
   exact ⟨e',a,unren_VR hn hr hm.1 b,unren_VR hn hr hm.2 c,d⟩
 | rows e sz n f=>
   obtain ⟨c,fr,h1,h2,h3,h4,h5⟩:=h
   exact ⟨c,fr,h1,h2,h3,h4,fun i j hi hj=>let ⟨v',a,b⟩:=h5 i j hi hj;⟨v',a,b.mono hr⟩⟩
 | segs e sz l qs=>
   simp only [belowO,List.all_eq_true] at hb
   obtain ⟨c,fr,h1,h2,h3,h4,h5,h6⟩:=h
   refine ⟨c,fr,h1,h2,h3,h4,fun g hg=>⟨(h5 g hg).1,fun i j hi hj=>let ⟨v',a,b⟩:=(h5 g hg).2 i j hi hj;⟨v',a,b.mono hr⟩⟩,fun y hy=>?_⟩
   obtain ⟨z1,v',z2,z3⟩:=h6 (y.1,ren σ y.2) (List.mem_map.2 ⟨y,hy,rfl⟩)
   exact ⟨by rw [ren_one] at z1;exact z1,v',z2,unren_VR hn hr (hb y hy) z3⟩
 | mp b k z g f c=>
   obtain ⟨h0,h1,es,h2,h3⟩:=h
   exact ⟨h0,h1,es,h2,h3.mono hr⟩
 | lp st n prm asg body tm=>
   simp only [belowO] at hb
   obtain ⟨r,h1,h2,h3,h4,h5,h6,h7⟩:=h
   exact ⟨r,h1,h2,h3,h4,h5,h6,fun t v hv=>unren_VR hn hr (T.allV_get _ _ _ _ hb hv) (h7 t (ren σ v) (by rw [T.mapV_get,hv];rfl))⟩
mutual
noncomputable def onNames (p:Nat->Bool):AV->Bool
 | .p A _=>p A
 | .l A _ _ _ _ _=>p A
 | .m A=>p A
 | .fn _ f c=>onNamesL p f && onNamesL p c
 | .ifc _ v=>onNames p v
 | .agg l=>onNamesL p l
 | .tup l=>onNamesL p l
 | .ps A _ _ _ _=>p A
 | .pr A _ _ _=>p A
 | .lr A _ _ _ _=>p A
 | .b _=>true
 | .i _ _=>true
 | .s _=>true
 | .p0=>true
 | .l0=>true
 | .lz=>true
 | .m0=>true
 | .f0=>true
 | .if0=>true
 | .sv _ _ _=>true
 | .opv _ _ _=>true
 | .pv _ _=>true
 | .yf A=>p A
 | .mq b A=>p A
noncomputable def onNamesL (p:Nat->Bool):List AV->Bool
 | []=>true
 | v :: r=>onNames p v && onNamesL p r
end
mutual
theorem ren_back {f g:Nat->Nat} {p:Nat->Bool} {k:Nat} (h:∀A,p A=true->f (g A)=A/\g A<k):∀{v:AV},onNames p v=true->ren f (ren g v)=v/\below k (ren g v)=true
 | .p A o,hb=>by simp only [onNames] at hb;simp only [ren,below,(h A hb).1,true_and,Nat.blt_eq];exact (h A hb).2
 | .l A o len cap sz ex,hb=>by simp only [onNames] at hb;simp only [ren,below,(h A hb).1,true_and,Nat.blt_eq];exact (h A hb).2
 | .m A,hb=>by simp only [onNames] at hb;simp only [ren,below,(h A hb).1,true_and,Nat.blt_eq];exact (h A hb).2
 | .fn q a c,hb=>by
   simp only [onNames,Bool.and_eq_true] at hb
   have h1:=rens_back h hb.1
   have h2:=rens_back h hb.2
   simp only [ren,below,h1.1,h2.1,h1.2,h2.2,Bool.and_self,and_self]
 | .ifc t v,hb=>by simp only [onNames] at hb;have h1:=ren_back h hb;simp only [ren,below,h1.1,h1.2,and_self]
 | .agg l,hb=>by simp only [onNames] at hb;have h1:=rens_back h hb;simp only [ren,below,h1.1,h1.2,and_self]
 | .tup l,hb=>by simp only [onNames] at hb;have h1:=rens_back h hb;simp only [ren,below,h1.1,h1.2,and_self]
 | .ps A o sz kk i,hb=>by simp only [onNames] at hb;simp only [ren,below,(h A hb).1,true_and,Nat.blt_eq];exact (h A hb).2
 | .pr A sz i o,hb=>by simp only [onNames] at hb;simp only [ren,below,(h A hb).1,true_and,Nat.blt_eq];exact (h A hb).2
 | .lr A sz i len ex,hb=>by simp only [onNames] at hb;simp only [ren,below,(h A hb).1,true_and,Nat.blt_eq];exact (h A hb).2
 | .yf A,hb=>by simp only [onNames] at hb;simp only [ren,below,(h A hb).1,true_and,Nat.blt_eq];exact (h A hb).2
 | .mq b A,hb=>by simp only [onNames] at hb;simp only [ren,below,(h A hb).1,true_and,Nat.blt_eq];exact (h A hb).2
 | .b x,hb=>by simp only [ren,below,and_self]
 | .i kk n,hb=>by simp only [ren,below,and_self]
 | .s l,hb=>by simp only [ren,below,and_self]
 | .p0,hb=>by simp only [ren,below,and_self]
 | .l0,hb=>by simp only [ren,below,and_self]
 | .lz,hb=>by simp only [ren,below,and_self]
 | .m0,hb=>by simp only [ren,below,and_self]
 | .f0,hb=>by simp only [ren,below,and_self]
 | .if0,hb=>by simp only [ren,below,and_self]
 | .sv sz n f,hb=>by simp only [ren,below,and_self]
 | .opv q0 sz f,hb=>by simp only [ren,below,and_self]
 | .pv sz f,hb=>by simp only [ren,below,and_self]
theorem rens_back {f g:Nat->Nat} {p:Nat->Bool} {k:Nat} (h:∀A,p A=true->f (g A)=A/\g A<k):∀{v:List AV},onNamesL p v=true->rens f (rens g v)=v/\belows k (rens g v)=true
 | [],hb=>by simp only [rens,belows,and_self]
 | v :: r,hb=>by
   simp only [onNamesL,Bool.and_eq_true] at hb
   have h1:=ren_back h hb.1
   have h2:=rens_back h hb.2
   simp only [rens,belows,h1.1,h2.1,h1.2,h2.2,Bool.and_self,and_self]
end
noncomputable def onNamesO (p:Nat->Bool):AObj->Bool
 | .cells _ _ dflt cs=>onNamesL p dflt && cs.allV (onNames p)
 | .map es _=>es.all fun x=>onNames p x.1 && onNames p x.2.1
 | .rows _ _ _ _=>true
 | .segs _ _ _ qs=>qs.all fun y=>onNames p y.2
 | .lp _ _ _ _ _ tm=>tm.allV (onNames p)
 | .mp ..=>true
theorem mapV_back {f g:Nat->Nat} {p:Nat->Bool} {k:Nat} (h:∀A,p A=true->f (g A)=A/\g A<k):∀t:T AV,t.allV (onNames p)=true->(t.mapV (ren g)).mapV (ren f)=t/\(t.mapV (ren g)).allV (below k)=true:=by
 intro t
 induction t with
 | e=>intro _;exact ⟨rfl,rfl⟩
 | n v l r ihl ihr=>
   intro hb
   rw [T.allV_n] at hb
   simp only [Bool.and_eq_true] at hb
   have a:=ihl hb.2.1
   have b:=ihr hb.2.2
   cases v with
   | none=>
     refine ⟨?_,?_⟩
     · show T.n none ((l.mapV (ren g)).mapV (ren f)) ((r.mapV (ren g)).mapV (ren f))= _
       rw [a.1,b.1]
     · show (true && ((l.mapV (ren g)).allV (below k) && (r.mapV (ren g)).allV (below k)))=true
       rw [a.2,b.2];rfl
   | some u=>
     have hu:=ren_back h (v:=u) hb.1
     refine ⟨?_,?_⟩
     · show T.n (some (ren f (ren g u))) ((l.mapV (ren g)).mapV (ren f)) ((r.mapV (ren g)).mapV (ren f))= _
       rw [a.1,b.1,hu.1]
     · show (below k (ren g u) && ((l.mapV (ren g)).allV (below k) && (r.mapV (ren g)).allV (below k)))=true
       rw [a.2,b.2,hu.2];rfl
theorem renO_back {f g:Nat->Nat} {p:Nat->Bool} {k:Nat} (h:∀A,p A=true->f (g A)=A/\g A<k) {o:AObj} (hb:onNamesO p o=true):renO f (renO g o)=o/\belowO k (renO g o)=true:=by
 cases o with
 | cells e size dflt cs=>
   simp only [onNamesO,Bool.and_eq_true] at hb
   have h1:=rens_back h hb.1
   have h2:=mapV_back h cs hb.2
   exact ⟨by simp only [renO,h1.1,h2.1],by simp only [renO,belowO,h1.2,h2.2,Bool.and_self]⟩
 | map es c=>
   simp only [onNamesO,List.all_eq_true,Bool.and_eq_true] at hb
   refine ⟨?_,?_⟩
   · simp only [renO,List.map_map]
     congr 1
     rw [List.map_congr_left (g:=id)]
     · simp
     · intro x hx
       have:=hb x hx
       simp only [Function.comp,(ren_back h this.1).1,(ren_back h this.2).1];rfl
   · simp only [renO,belowO,List.all_eq_true,Bool.and_eq_true,List.mem_map]
     rintro _ ⟨x,hx,rfl⟩
     have:=hb x hx
     exact ⟨(ren_back h this.1).2,(ren_back h this.2).2⟩
 | rows e sz n f=>exact ⟨rfl,rfl⟩
 | segs e sz l qs=>
   simp only [onNamesO,List.all_eq_true] at hb
   refine ⟨?_,?_⟩
   · simp only [renO,List.map_map]
     congr 1
     rw [List.map_congr_left (g:=id)]
     · simp
     · intro x hx
       simp only [Function.comp,(ren_back h (hb x hx)).1];rfl
   · simp only [renO,belowO,List.all_eq_true,List.mem_map]
     rintro _ ⟨x,hx,rfl⟩
     exact (ren_back h (hb x hx)).2
 | mp b k z g f c=>exact ⟨rfl,rfl⟩
 | lp st n prm asg body tm=>
   simp only [onNamesO] at hb
   have h2:=mapV_back h tm hb
   exact ⟨by simp only [renO,h2.1],by simp only [renO,belowO,h2.2]⟩
end Go.Sim
/- What a call does to the few rows that it is handed, and to them in a greater heap. -/
namespace Go.Sim
open Go
noncomputable def setO (t:T AObj) (k:Nat) (o:Option AObj):T AObj:=
 match o with
 | some x=>t.set k (some x)
 | none=>t
noncomputable def treeL (l:List (Option AObj)):Nat->T AObj->T AObj:=
 List.rec (motive:=fun _=>Nat->T AObj->T AObj) (fun _ t=>t) (fun o _ ih k t=>ih (k+1) (setO t k o)) l
theorem treeL_cons (o:Option AObj) (l:List (Option AObj)) (k:Nat) (t:T AObj):treeL (o :: l) k t=treeL l (k+1) (setO t k o):=rfl
noncomputable def mkH (l:List (Option AObj)):AH:={ tree:=treeL l 0 .e,next:=l.length,log:=[]}
theorem treeL_get:∀(l:List (Option AObj)) (k:Nat) (t:T AObj) (A:Nat),(∀B,k<=B->t.get B=none)->(treeL l k t).get A=if A<k then t.get A else (l[A-k]?).join
 | [],k,t,A,h=>by
   show t.get A= _
   by_cases hA:A<k
   · rw [if_pos hA]
   · rw [if_neg hA,h A (by omega)];rfl
 | o :: l,k,t,A,h=>by
   rw [treeL_cons]
   have hs:∀B,(setO t k o).get B=if B=k then o else t.get B:=by
    intro B
    unfold setO
    cases o with
    | some x=>simp only [T.get_set]
    | none=>
      simp only
      by_cases e:B=k
      · subst e;rw [if_pos rfl];exact h _ (Nat.le_refl _)
      · rw [if_neg e]
   rw [treeL_get l (k+1) _ A (fun B hB=>by rw [hs,if_neg (by omega)];exact h B (by omega))]
   by_cases h1:A<k
   · rw [if_pos (by omega),if_pos h1,hs,if_neg (by omega)]
   · rw [if_neg h1]
     by_cases h2:A=k
     · subst h2
       rw [if_pos (by omega),hs,if_pos rfl];simp
     · rw [if_neg (by omega),show A-k=(A-(k+1))+1 by omega];simp
theorem mkH_get (l:List (Option AObj)) (A:Nat):(mkH l).get A=(l[A]?).join:=by
 show (treeL l 0 .e).get A= _
 rw [treeL_get l 0 .e A (fun B _=>rfl)];simp
inductive Upd where
 | keep | set (o:AObj) | gone
noncomputable def postG (u:Upd) (x:Option AObj):Option AObj:=
 match u with
 | .keep=>x
 | .set o=>some o
 | .gone=>none
noncomputable def updG (f:Nat->Nat) (u:Upd) (x:Option AObj):Option AObj:=
 match u with
 | .keep=>x
 | .set o=>some (renO f o)
 | .gone=>none
noncomputable def newG (f:Nat->Nat) (u:Upd):Option AObj:=
 match u with
 | .set o=>some (renO f o)
 | .keep=>none
 | .gone=>none
noncomputable def updH (f:Nat->Nat) (B:Nat) (u:Upd) (H:AH):AH:=
 match u with
 | .keep=>H
 | .set o=>H.upd B (some (renO f o))
 | .gone=>H.upd B none
noncomputable def postL (objs:List (Option AObj)) (us:List Upd):List (Option AObj):=
 List.rec (motive:=fun _=>List (Option AObj)->List (Option AObj)) (fun _=>[])
  (fun u _ ih objs=>(postG u objs.head?.join) :: ih objs.tail) us objs
theorem postL_cons (objs:List (Option AObj)) (u:Upd) (us:List Upd):postL objs (u :: us)=(postG u objs.head?.join) :: postL objs.tail us:=rfl
theorem postL_length:∀(us:List Upd) (objs:List (Option AObj)),(postL objs us).length=us.length
 | [],_=>rfl
 | u :: us,objs=>by rw [postL_cons];simp [postL_length us]
theorem postL_get:∀(us:List Upd) (objs:List (Option AObj)) (A:Nat) (u:Upd),us[A]? =some u->(postL objs us)[A]? =some (postG u (objs[A]?).join)
 | [],_,A,u,h=>by simp at h
 | v :: us,objs,0,u,h=>by
   simp at h;subst h
   rw [postL_cons]
   cases v<;>cases objs<;>simp [postG]
 | v :: us,objs,A+1,u,h=>by
   simp at h
   rw [postL_cons]
   have:=postL_get us objs.tail A u h
   simp only [List.getElem?_cons_succ]
   rw [this]
   cases objs<;>simp
def Con (P:Program) (g:FuncId) (args:List AV) (objs:List (Option AObj)) (v:AV) (us:List Upd):Prop:=
 ∀ρ w (args':List Value),VRs ρ args args'->HR ρ (mkH objs) w->(∀A,objs.length<=A->ρ A=none)->
  Calls P g args'.toArray w (fun e w'=>∃v' ρ',e=.returned v'/\VR ρ' v v'/\HR ρ' (mkH (postL objs us)) w'/\Ext ρ (mkH objs) w ρ' (mkH (postL objs us)) w')
noncomputable def AH.newO (H:AH) (o:Option AObj):AH:={ tree:=H.tree.set H.next o,next:=H.next+1,log:=H.next :: H.log}
theorem AH.get_newO (H:AH) (o:Option AObj) (B:Nat):(H.newO o).get B=if B=H.next then o else H.get B:=T.get_set _ _ _ _
theorem Lg.newO (H:AH) (o:Option AObj):Lg H (H.newO o):=
 ⟨Nat.le_succ _,[H.next],rfl,fun B hB=>by rw [AH.get_newO,if_neg (by simpa using hB)],fun B a b=>by have:(H.newO o).next=H.next+1:=rfl;simp;omega⟩
noncomputable def nameIn (σ:List Nat) (nx A:Nat):Nat:=
 match σ[A]? with
 | some B=>B
 | none=>nx+(A-σ.length)
noncomputable def embOld (ρσ:Nat->Nat) (σ:List Nat):List Upd->AH->AH:=
 List.rec (motive:=fun _=>List Upd->AH->AH) (fun _ H=>H)
  (fun B _ ih us H=>match us with
    | u :: r=>ih r (updH ρσ B u H)
    | []=>H) σ
noncomputable def embNew (ρσ:Nat->Nat) (us:List Upd):AH->AH:=
 List.rec (motive:=fun _=>AH->AH) (fun H=>H)
  (fun u _ ih H=>ih (H.newO (newG ρσ u))) us
noncomputable def embH (σ:List Nat) (H:AH) (us:List Upd):AH:=embNew (nameIn σ H.next) (us.drop σ.length) (embOld (nameIn σ H.next) σ us H)
noncomputable def embV (σ:List Nat) (H:AH) (v:AV):AV:=ren (nameIn σ H.next) v
theorem embOld_cons (f:Nat->Nat) (B:Nat) (σ:List Nat) (u:Upd) (us:List Upd) (H:AH):embOld f (B :: σ) (u :: us) H=embOld f σ us (updH f B u H):=rfl
theorem embNew_cons (f:Nat->Nat) (u:Upd) (us:List Upd) (H:AH):embNew f (u :: us) H=embNew f us (H.newO (newG f u)):=rfl
theorem embOld_spec (f:Nat->Nat):∀(σ:List Nat) (us:List Upd) (H:AH),σ.Nodup->σ.length<=us.length->(embOld f σ us H).next=H.next/\Lg H (embOld f σ us H)/\
 (∀(A B:Nat) (u:Upd),σ[A]? =some B->us[A]? =some u->(embOld f σ us H).get B=updG f u (H.get B))/\(∀B,B∉σ->(embOld f σ us H).get B=H.get B)
 | [],us,H,_,_=>⟨rfl,.refl _,fun A B u h=>by simp at h,fun _ _=>rfl⟩
 | B0 :: σ,[],H,_,h=>by simp at h
 | B0 :: σ,u0 :: us,H,hnd,hlen=>by
   rw [embOld_cons]
   obtain ⟨hn0,hnd⟩:=List.nodup_cons.1 hnd
   generalize hH1:updH f B0 u0 H=H1
   have k1:H1.next=H.next:=by rw [<-hH1];cases u0<;>rfl
   have k2:Lg H H1:=by rw [<-hH1];cases u0<;>first | exact .refl _ | exact .upd _ _ _
   have k3:H1.get B0=updG f u0 (H.get B0):=by rw [<-hH1];cases u0<;>simp [AH.get_upd,updH,updG]
   have k4:∀B,B≠B0->H1.get B=H.get B:=by intro B hB;rw [<-hH1];cases u0<;>simp [AH.get_upd,updH,hB]
   obtain ⟨i1,i2,i3,i4⟩:=embOld_spec f σ us H1 hnd (by simpa using hlen)
   refine ⟨i1.trans k1,k2.trans i2,?_,?_⟩
   · intro A B u hA hu
     cases A with
     | zero=>
       simp at hA hu;subst hA;subst hu
       rw [i4 _ hn0,k3]
     | succ A=>
       simp at hA hu
       rw [i3 A B u hA hu]
       have hne:B≠B0:=fun e=>hn0 (e▸List.mem_of_getElem? hA)
       rw [k4 B hne]
   · intro B hB
     simp only [List.mem_cons,not_or] at hB
     rw [i4 B hB.2,k4 B hB.1]
theorem embNew_spec (f:Nat->Nat):∀(us:List Upd) (H:AH),(embNew f us H).next=H.next+us.length/\Lg H (embNew f us H)/\
 (∀j u,us[j]? =some u->(embNew f us H).get (H.next+j)=newG f u)/\(∀B,(B<H.next\/H.next+us.length<=B)->(embNew f us H).get B=H.get B)
 | [],H=>⟨rfl,.refl _,fun j u h=>by simp at h,fun _ _=>rfl⟩
 | u0 :: us,H=>by
   rw [embNew_cons]
   generalize hH1:H.newO (newG f u0)=H1
   have k1:H1.next=H.next+1:=by rw [<-hH1];rfl
   have k2:Lg H H1:=by rw [<-hH1];exact .newO _ _
   have k3:∀B,H1.get B=if B=H.next then newG f u0 else H.get B:=by intro B;rw [<-hH1,AH.get_newO]
   obtain ⟨i1,i2,i3,i4⟩:=embNew_spec f us H1
   refine ⟨by rw [i1,k1];simp;omega,k2.trans i2,?_,?_⟩
   · intro j u hj
     cases j with
     | zero=>
       simp at hj;subst hj
       rw [Nat.add_zero,i4 _ (.inl (by omega)),k3,if_pos rfl]
     | succ j=>
       simp at hj
       have:=i3 j u hj
       rw [k1] at this
       rw [show H.next+(j+1)=H.next+1+j by omega];exact this
   · intro B hB
     simp only [List.length_cons] at hB
     rw [i4 B (by rw [k1];omega),k3,if_neg (by omega)]
def HasAll (f:Nat->Nat) (k:Nat) (H:AH):List Nat->List (Option AObj)->Prop
 | [],[]=>True
 | B :: σ,some o :: r=>H.get B=some (renO f o)/\belowO k o=true/\HasAll f k H σ r
 | B :: σ,none :: r=>HasAll f k H σ r
 | _,_=>False
theorem hasAll_get {f:Nat->Nat} {k:Nat} {H:AH}:∀{σ:List Nat} {objs:List (Option AObj)},HasAll f k H σ objs->σ.length=objs.length/\∀(A:Nat) (o:AObj),objs[A]? =some (some o)->∃B,σ[A]? =some B/\H.get B=some (renO f o)/\belowO k o=true
 | [],[],h=>⟨rfl,fun A o h=>by simp at h⟩
 | B :: σ,some o :: r,h=>by
   obtain ⟨h1,h2,h3⟩:=h
   obtain ⟨i1,i2⟩:=hasAll_get h3
   refine ⟨by simp [i1],?_⟩
   intro A o' hA
   cases A with
   | zero=>simp at hA;subst hA;exact ⟨B,by simp,h1,h2⟩
   | succ A=>simp at hA;simpa using i2 A o' hA
 | B :: σ,none :: r,h=>by
   obtain ⟨i1,i2⟩:=hasAll_get (σ:=σ) (objs:=r) h
   refine ⟨by simp [i1],?_⟩
   intro A o' hA
   cases A with
   | zero=>simp at hA
   | succ A=>simp at hA;simpa using i2 A o' hA
 | [],_ :: _,h=>h.elim
 | _ :: _,[],h=>h.elim
noncomputable def nodupB:List Nat->Bool
 | []=>true
 | a :: r=>!memN a r && nodupB r
theorem nodup_inj {l:List Nat} (hnd:l.Nodup) {i j:Nat} {hi:i<l.length} {hj:j<l.length} (h:l[i]=l[j]):i=j:=
 (List.getElem_inj hnd).1 h
theorem nodupB_iff:∀l:List Nat,nodupB l=true->l.Nodup
 | [],_=>List.nodup_nil
 | a :: r,h=>by
   simp only [nodupB,Bool.and_eq_true,Bool.not_eq_true'] at h
   refine List.nodup_cons.2 ⟨fun hm=>?_,nodupB_iff r h.2⟩
   rw [(memN_iff r a).2 hm] at h;simp at h
noncomputable def allLt (n:Nat):List Nat->Bool
 | []=>true
 | a :: r=>Nat.blt a n && allLt n r
theorem allLt_iff {n:Nat}:∀{l:List Nat},allLt n l=true->∀a∈l,a<n
 | [],_,a,ha=>by simp at ha
 | b :: r,h,a,ha=>by
   simp only [allLt,Bool.and_eq_true] at h
   cases ha with
   | head=>exact blt_lt h.1
   | tail _ ha=>exact allLt_iff h.2 a ha
noncomputable def freeFrom (H:AH):Nat->Nat->Bool
 | _,0=>true
 | A,m+1=>(match H.get A with | none=>true | some _=>false) && freeFrom H (A+1) m
theorem freeFrom_get {H:AH}:∀{m A:Nat},freeFrom H A m=true->∀B,A<=B->B<A+m->H.get B=none
 | 0,A,_,B,h1,h2=>by omega
 | m+1,A,h,B,h1,h2=>by
   simp only [freeFrom,Bool.and_eq_true] at h
   by_cases e:B=A
   · subst e
     cases hg:H.get B with
     | none=>rfl
     | some o=>rw [hg] at h;simp at h
   · exact freeFrom_get h.2 B (by omega) (by omega)
noncomputable def updOk:List (Option AObj)->List Upd->Bool
 | [],_=>true
 | none :: r,.keep :: us=>updOk r us
 | none :: _,_=>false
 | some _ :: r,_ :: us=>updOk r us
 | some _ :: _,[]=>false
theorem updOk_len:∀{objs:List (Option AObj)} {us:List Upd},updOk objs us=true->objs.length<=us.length
 | [],us,_=>by simp
 | none :: r,.keep :: us,h=>by have:=updOk_len (objs:=r) (us:=us) h;simp;exact this
 | none :: r,[],h=>by simp [updOk] at h
 | none :: r,.set _ :: us,h=>by simp [updOk] at h
 | none :: r,.gone :: us,h=>by simp [updOk] at h
 | some o :: r,u :: us,h=>by have:=updOk_len (objs:=r) (us:=us) h;simp;exact this
 | some o :: r,[],h=>by simp [updOk] at h
theorem updOk_none:∀{objs:List (Option AObj)} {us:List Upd},updOk objs us=true->∀(A:Nat) (u:Upd),objs[A]? =some none->us[A]? =some u->u=.keep
 | [],us,_,A,u,h,_=>by simp at h
 | none :: r,.keep :: us,h,0,u,hA,hu=>by simp at hu;exact hu.symm
 | none :: r,.keep :: us,h,A+1,u,hA,hu=>by simp at hA hu;exact updOk_none (objs:=r) (us:=us) h A u hA hu
 | none :: r,[],h,A,u,_,_=>by simp [updOk] at h
 | none :: r,.set _ :: us,h,A,u,_,_=>by simp [updOk] at h
 | none :: r,.gone :: us,h,A,u,_,_=>by simp [updOk] at h
 | some o :: r,v :: us,h,0,u,hA,hu=>by simp at hA
 | some o :: r,v :: us,h,A+1,u,hA,hu=>by simp at hA hu;exact updOk_none (objs:=r) (us:=us) h A u hA hu
 | some o :: r,[],h,A,u,_,_=>by simp [updOk] at h
noncomputable def namesOk (σ:List Nat) (objs:List (Option AObj)) (us:List Upd) (H:AH):Bool:=
 nodupB σ && (allLt H.next σ && (freeFrom H H.next (us.length-σ.length) && updOk objs us))
structure Emb (σ:List Nat) (objs:List (Option AObj)) (us:List Upd) (H:AH) (ρ:Rho) (w:World) (ρ1:Rho):Prop where
 ro:ρ1.ro=ρ.ro
 nm:∀A,A<objs.length->ρ1 A=ρ (nameIn σ H.next A)
 off:∀A,objs.length<=A->ρ1 A=none
 hr:HR ρ1 (mkH objs) w
noncomputable def Rho.sub (ρ:Rho) (σ:List Nat):Rho:=⟨fun A=>match σ[A]? with | some B=>ρ B | none=>none,ρ.ro⟩
theorem mkH_some {l:List (Option AObj)} {A:Nat} {o:AObj} (h:(mkH l).get A=some o):l[A]? =some (some o):=by
 rw [mkH_get] at h
 cases hl:l[A]? with
 | none=>rw [hl] at h;simp at h
 | some x=>rw [hl] at h;simp at h;rw [h]
theorem emb_in {σ:List Nat} {objs:List (Option AObj)} {us:List Upd} {H:AH} {ρ:Rho} {w:World} (hok:namesOk σ objs us H=true) (hall:HasAll (nameIn σ H.next) objs.length H σ objs) (hh:HR ρ H w):Emb σ objs us H ρ w (ρ.sub σ):=by
 simp only [namesOk,Bool.and_eq_true] at hok
 obtain ⟨hnd,hlt,hfree,hupd⟩:=hok
 have hnd:=nodupB_iff _ hnd
 obtain ⟨hlen,hget⟩:=hasAll_get hall
 have hnm:∀A,A<objs.length->ρ.sub σ A=ρ (nameIn σ H.next A):=by
  intro A hA
  show (match σ[A]? with | some B=>ρ B | none=>none)= _
  unfold nameIn
  rw [List.getElem?_eq_getElem (by omega:A<σ.length)]
 have hoff:∀A,objs.length<=A->ρ.sub σ A=none:=by
  intro A hA
  show (match σ[A]? with | some B=>ρ B | none=>none)= _
  rw [List.getElem?_eq_none (by omega)]
 have hin:∀A o,(mkH objs).get A=some o->∃B,σ[A]? =some B/\H.get B=some (renO (nameIn σ H.next) o)/\belowO objs.length o=true/\A<objs.length:=by
  intro A o hA
  have h1:=mkH_some hA
  obtain ⟨B,b1,b2,b3⟩:=hget A o h1
  exact ⟨B,b1,b2,b3,(List.getElem?_eq_some_iff.1 h1).1⟩
 have hname:∀(A B:Nat),σ[A]? =some B->nameIn σ H.next A=B:=by intro A B h;unfold nameIn;rw [h]
 refine ⟨rfl,hnm,hoff,⟨?_,?_,?_,hh.ro,?_⟩⟩
 · intro A o hA
   obtain ⟨B,b1,b2,b3,b4⟩:=hin A o hA
   rcases hh.live _ _ b2 with ⟨x,hx,hb⟩ | ⟨hv,hn⟩
   · refine .inl ⟨x,by rw [hnm A b4,hname A B b1];exact hx,unren_BR hnm (fun _ _ _ h=>h) b3 hb⟩
   · exact .inr ⟨(renO_void _ _).1 hv,by rw [hnm A b4,hname A B b1];exact hn⟩
 · intro A A' o o' x x' hA hA' hx hx' he
   obtain ⟨B,b1,b2,b3,b4⟩:=hin A o hA
   obtain ⟨B',b1',b2',b3',b4'⟩:=hin A' o' hA'
   rw [hnm A b4,hname A B b1] at hx
   rw [hnm A' b4',hname A' B' b1'] at hx'
   have:=hh.inj B B' _ _ x x' b2 b2' hx hx' he
   subst this
   obtain ⟨q1,q2⟩:=List.getElem?_eq_some_iff.1 b1
   obtain ⟨q1',q2'⟩:=List.getElem?_eq_some_iff.1 b1'
   exact nodup_inj hnd (q2.trans q2'.symm)
 · intro A x hx
   by_cases hA:A<objs.length
   · rw [hnm A hA] at hx;exact hh.range _ _ hx
   · rw [hoff A (by omega)] at hx;simp at hx
 · intro B j v hv A o x hA hx
   obtain ⟨B',b1,b2,b3,b4⟩:=hin A o hA
   rw [hnm A b4,hname A B' b1] at hx
   exact hh.rox B j v hv B' _ x b2 hx
noncomputable def Rho.back (ρ ρ1:Rho) (nx k m:Nat):Rho:=⟨fun B=>bif Nat.ble nx B && Nat.blt B (nx+m) then ρ1 (B-nx+k) else ρ B,ρ1.ro⟩
theorem Rho.back_nm (ρ ρ1:Rho) (nx k m B:Nat):ρ.back ρ1 nx k m B=if nx<=B/\B<nx+m then ρ1 (B-nx+k) else ρ B:=by
 show (bif Nat.ble nx B && Nat.blt B (nx+m) then ρ1 (B-nx+k) else ρ B)= _
 by_cases h:nx<=B/\B<nx+m
 · rw [if_pos h,Nat.ble_eq_true_of_le h.1,show Nat.blt B (nx+m)=true from by rw [Nat.blt_eq];exact h.2];rfl
 · rw [if_neg h]
   have:(Nat.ble nx B && Nat.blt B (nx+m))=false:=by
    cases h1:Nat.ble nx B with
    | false=>rfl
    | true=>
      have h1':=Nat.le_of_ble_eq_true h1
      cases h2:Nat.blt B (nx+m) with
      | false=>rfl
      | true=>exact absurd ⟨h1',blt_lt h2⟩ h
   rw [this];rfl
theorem emb_out {σ:List Nat} {objs:List (Option AObj)} {us:List Upd} {H:AH} {ρ ρ1':Rho} {w w':World} (hok:namesOk σ objs us H=true) (hall:HasAll (nameIn σ H.next) objs.length H σ objs) (hh:HR ρ H w)
 (hf:Fresh ρ H (H.next+(us.length-σ.length))) (hh1:HR ρ1' (mkH (postL objs us)) w') (he1:Ext (ρ.sub σ) (mkH objs) w ρ1' (mkH (postL objs us)) w') :
 (∀v v',VR ρ1' v v'->VR (ρ.back ρ1' H.next objs.length (us.length-σ.length)) (embV σ H v) v')/\
 HR (ρ.back ρ1' H.next objs.length (us.length-σ.length)) (embH σ H us) w'/\Ext ρ H w (ρ.back ρ1' H.next objs.length (us.length-σ.length)) (embH σ H us) w'/\
 (embH σ H us).next=H.next+(us.length-σ.length)/\Lg H (embH σ H us):=by
 have hemb:=emb_in hok hall hh
 have hok':=hok
 simp only [namesOk,Bool.and_eq_true] at hok
 obtain ⟨hnd,hlt,hfree,hupd⟩:=hok
 have hnd:=nodupB_iff _ hnd
 have hlt:=allLt_iff hlt
 have hfree:=freeFrom_get hfree
 obtain ⟨hlen,hget⟩:=hasAll_get hall
 have hul:=updOk_len hupd
 generalize hm:us.length-σ.length=m at *
 generalize hρ':ρ.back ρ1' H.next objs.length m=ρ' at *
 have hρn:∀B,ρ' B=if H.next<=B/\B<H.next+m then ρ1' (B-H.next+objs.length) else ρ B:=by intro B;rw [<-hρ',Rho.back_nm]
 have hρr:ρ'.ro=ρ1'.ro:=by rw [<-hρ'];rfl
 have hname:∀(A B:Nat),σ[A]? =some B->nameIn σ H.next A=B:=by intro A B h;unfold nameIn;rw [h]
 have hname2:∀A,objs.length<=A->nameIn σ H.next A=H.next+(A-objs.length):=by
  intro A h;unfold nameIn;rw [List.getElem?_eq_none (by omega)];simp only;omega
 -- old names stay
 have hkeep:∀B x,ρ B=some x->ρ' B=some x:=by
  intro B x hB
  rw [hρn,if_neg]
  · exact hB
  · rintro ⟨q1,q2⟩
    rw [hf B q1 q2] at hB;simp at hB
 have hle:Rho.le ρ ρ':=⟨hkeep,fun B j v h=>by rw [hρr];exact he1.ext.ro B j v h⟩
 -- names of the small world
 have hup:∀A x,ρ1' A=some x->ρ' (nameIn σ H.next A)=some x:=by
  intro A x hA
  rcases he1.dom A x hA with h | ⟨h1,h2⟩
  · have hA1:A<objs.length:=by
     apply Classical.byContradiction
     intro hn
     rw [hemb.off A (by omega)] at h;simp at h
    rw [hemb.nm A hA1] at h
    exact hkeep _ _ h
  · have h1':objs.length<=A:=h1
    have h2':A<us.length:=by have:(mkH (postL objs us)).next=us.length:=postL_length _ _;omega
    rw [hname2 A h1',hρn,if_pos (by omega)]
    rw [show H.next+(A-objs.length)-H.next+objs.length=A by omega];exact hA
 have hroup:∀B j v,ρ1'.ro B j=some v->ρ'.ro B j=some v:=fun B j v h=>by rw [hρr];exact h
 -- the heap behind
 obtain ⟨o1,o2,o3,o4⟩:=embOld_spec (nameIn σ H.next) σ us H hnd (by omega)
 obtain ⟨n1,n2,n3,n4⟩:=embNew_spec (nameIn σ H.next) (us.drop σ.length) (embOld (nameIn σ H.next) σ us H)
 have hnext:(embH σ H us).next=H.next+m:=by
  show (embNew _ _ _).next= _
  rw [n1,o1];simp;omega
 have hLg:Lg H (embH σ H us):=o2.trans n2
 have gold:∀(A B:Nat) (u:Upd),σ[A]? =some B->us[A]? =some u->(embH σ H us).get B=updG (nameIn σ H.next) u (H.get B):=by
  intro A B u hA hu
  show (embNew _ _ _).get B= _
  rw [n4 B (.inl (by rw [o1];exact hlt B (List.mem_of_getElem? hA))),o3 A B u hA hu]
 have gnew:∀(A:Nat) (u:Upd),objs.length<=A->us[A]? =some u->(embH σ H us).get (H.next+(A-objs.length))=newG (nameIn σ H.next) u:=by
  intro A u hA hu
  show (embNew _ _ _).get _= _
  have:=n3 (A-objs.length) u (by rw [List.getElem?_drop,<-hu];congr 1;omega)
  rw [o1] at this;exact this
 have gother:∀B,B∉σ->(B<H.next\/H.next+m<=B)->(embH σ H us).get B=H.get B:=by
  intro B hB hr
  show (embNew _ _ _).get B= _
  rw [n4 B (by rw [o1];simp;omega),o4 B hB]
 -- what is of the small world, and what is not
 have cls:∀B o,(embH σ H us).get B=some o->(∃A o1,(mkH (postL objs us)).get A=some o1/\B=nameIn σ H.next A/\o=renO (nameIn σ H.next) o1/\(A<objs.length->∃p,(mkH objs).get A=some p))\/
  (H.get B=some o/\(∀A p,(mkH objs).get A=some p->nameIn σ H.next A≠B)/\¬(H.next<=B/\B<H.next+m)):=by
  intro B o hB
  by_cases hin:B∈σ
  · obtain ⟨A,hA⟩:=List.getElem?_of_mem hin
    have hAl:A<σ.length:=(List.getElem?_eq_some_iff.1 hA).1
    obtain ⟨u,hu⟩:∃u,us[A]? =some u:=⟨_,List.getElem?_eq_getElem (by omega)⟩
    obtain ⟨p,hp⟩:∃p,objs[A]? =some p:=⟨_,List.getElem?_eq_getElem (by omega)⟩
    have hpost:=postL_get us objs A u hu
    rw [gold A B u hA hu] at hB
    cases p with
    | none=>
      have:=updOk_none hupd A u hp hu
      subst this
      refine .inr ⟨hB,?_,?_⟩
      · intro A' p hA' he
        obtain ⟨h1,_⟩:=List.getElem?_eq_some_iff.1 (mkH_some hA')
        have hA'l:A'<σ.length:=by omega
        have e1:=hname A' _ (List.getElem?_eq_getElem hA'l)
        rw [e1] at he
        have hAA:A'=A:=by
         obtain ⟨q1,q2⟩:=List.getElem?_eq_some_iff.1 hA
         exact nodup_inj hnd (he.trans q2.symm)
        subst hAA
        rw [mkH_some hA'] at hp;simp at hp
      · rintro ⟨q1,_⟩;have:=hlt B hin;omega
    | some p=>
      have hpin:(mkH objs).get A=some p:=by rw [mkH_get,hp];rfl
      cases u with
      | keep=>
        obtain ⟨B',b1,b2,b3⟩:=hget A p hp
        rw [hA] at b1;simp at b1;subst b1
        simp only [updG] at hB
        rw [b2] at hB;simp at hB;subst hB
        exact .inl ⟨A,p,by rw [mkH_get,hpost,hp];rfl,(hname A B hA).symm,rfl,fun _=>⟨p,hpin⟩⟩
      | set q=>
        simp only [updG,Option.some.injEq] at hB;subst hB
        exact .inl ⟨A,q,by rw [mkH_get,hpost];rfl,(hname A B hA).symm,rfl,fun _=>⟨p,hpin⟩⟩
      | gone=>simp [updG] at hB
  · by_cases hr:H.next<=B/\B<H.next+m
    · obtain ⟨j,rfl⟩:∃j,B=H.next+j:=⟨B-H.next,by omega⟩
      have hj:objs.length+j<us.length:=by omega
      obtain ⟨u,hu⟩:∃u,us[objs.length+j]? =some u:=⟨_,List.getElem?_eq_getElem hj⟩
      have:=gnew (objs.length+j) u (by omega) hu
      rw [show objs.length+j-objs.length=j by omega] at this
      rw [this] at hB
      have hpost:=postL_get us objs _ u hu
      cases u with
      | set q=>
        simp only [newG,Option.some.injEq] at hB;subst hB
        exact .inl ⟨objs.length+j,q,by rw [mkH_get,hpost];rfl,by rw [hname2 _ (by omega)];congr 1;omega,rfl,fun q=>by omega⟩
      | keep=>simp [newG] at hB
      | gone=>simp [newG] at hB
    · rw [gother B hin (by omega)] at hB
      refine .inr ⟨hB,?_,hr⟩
      intro A p hA he
      obtain ⟨h1,_⟩:=List.getElem?_eq_some_iff.1 (mkH_some hA)
      have hAl:A<σ.length:=by omega
      rw [hname A _ (List.getElem?_eq_getElem hAl)] at he
      exact hin (he▸List.getElem_mem _)
 -- a row that is not of the small world lies in none of its blocks
 have apart:∀B o x,H.get B=some o->ρ B=some x->(∀A p,(mkH objs).get A=some p->nameIn σ H.next A≠B)->∀A p y,(mkH objs).get A=some p->ρ.sub σ A=some y->y.1≠x.1:=by
  intro B o x hB hx hno A p y hA hy he
  have hAl:A<objs.length:=(List.getElem?_eq_some_iff.1 (mkH_some hA)).1
  rw [hemb.nm A hAl] at hy
  obtain ⟨B',b1,b2,b3⟩:=hget A p (mkH_some hA)
  rw [hname A B' b1] at hy
  have:=hh.inj B' B _ _ y x b2 hB hy hx he
  exact hno A p hA (by rw [hname A B' b1];exact this)
 have clsx:∀B o x,(embH σ H us).get B=some o->ρ' B=some x->(∃A o1,(mkH (postL objs us)).get A=some o1/\ρ1' A=some x/\B=nameIn σ H.next A)\/
  (H.get B=some o/\ρ B=some x/\∀A p,(mkH objs).get A=some p->nameIn σ H.next A≠B):=by
  intro B o x hB hx
  rcases cls B o hB with ⟨A,o1,a1,a2,a3,a4⟩ | ⟨a1,a2,a3⟩
  · left
    refine ⟨A,o1,a1,?_,a2⟩
    rcases hh1.live A o1 a1 with ⟨y,hy,_⟩ | ⟨_,hn⟩
    · have:=hup A y hy
      rw [<-a2,hx] at this;simp at this;subst this;exact hy
    · exfalso
      by_cases hA:A<objs.length
      · have:ρ.sub σ A=none:=by
         cases hq:ρ.sub σ A with
         | none=>rfl
         | some y=>rw [he1.ext.nm _ _ hq] at hn;simp at hn
        rw [hemb.nm A hA,<-a2] at this
        have hBl:B<H.next:=by
         rw [a2,hname A _ (List.getElem?_eq_getElem (by omega:A<σ.length))]
         exact hlt _ (List.getElem_mem _)
        rw [hρn,if_neg (by omega),this] at hx;simp at hx
      · have hlen2:A<us.length:=by
         have:=(List.getElem?_eq_some_iff.1 (mkH_some a1)).1
         rw [postL_length] at this;exact this
        rw [a2,hname2 A (by omega),hρn,if_pos (by omega),show H.next+(A-objs.length)-H.next+objs.length=A by omega,hn] at hx
        simp at hx
  · right
    refine ⟨a1,?_,a2⟩
    rw [hρn,if_neg a3] at hx;exact hx
 refine ⟨fun v v' hv=>ren_VR hup hroup hv,⟨?_,?_,?_,?_,?_⟩,⟨?_,hle,?_,he1.size,?_,?_,?_,he1.tape,he1.os,he1.output⟩,hnext,hLg⟩
 · -- live
   intro B o hB
   rcases cls B o hB with ⟨A,o1,a1,a2,a3,a4⟩ | ⟨a1,a2,a3⟩
   · rcases hh1.live A o1 a1 with ⟨y,hy,hb⟩ | ⟨hv,hn⟩
     · exact .inl ⟨y,by rw [a2];exact hup A y hy,by rw [a3];exact ren_BR hup hroup hb⟩
     · refine .inr ⟨by rw [a3];exact (renO_void _ _).2 hv,?_⟩
       cases hx:ρ' B with
       | none=>rfl
       | some x=>
         exfalso
         rcases clsx B o x hB hx with ⟨A',o',b1,b2,b3⟩ | ⟨_,_,b3⟩
         · have e:A'=A:=by
            rw [a2] at b3
            have hA'2:A'<us.length:=by have:=(List.getElem?_eq_some_iff.1 (mkH_some b1)).1;rw [postL_length] at this;exact this
            have hA2:A<us.length:=by have:=(List.getElem?_eq_some_iff.1 (mkH_some a1)).1;rw [postL_length] at this;exact this
            by_cases c1:A<objs.length
            · have e1:=hname A _ (List.getElem?_eq_getElem (by omega:A<σ.length))
              have l1:nameIn σ H.next A<H.next:=by rw [e1];exact hlt _ (List.getElem_mem _)
              by_cases c2:A'<objs.length
              · have e2:=hname A' _ (List.getElem?_eq_getElem (by omega:A'<σ.length))
                rw [e1,e2] at b3
                exact (nodup_inj hnd b3).symm
              · rw [hname2 A' (by omega)] at b3;omega
            · rw [hname2 A (by omega)] at b3
              by_cases c2:A'<objs.length
              · have e2:=hname A' _ (List.getElem?_eq_getElem (by omega:A'<σ.length))
                have l2:nameIn σ H.next A'<H.next:=by rw [e2];exact hlt _ (List.getElem_mem _)
                omega
              · rw [hname2 A' (by omega)] at b3;omega
           rw [e,hn] at b2;simp at b2
         · by_cases c1:A<objs.length
           · obtain ⟨p,hp⟩:=a4 c1
             exact b3 A p hp a2.symm
           · rcases cls B o hB with ⟨A',o',b1',b2',b3',b4'⟩ | ⟨_,_,b5⟩
             · have hA2:A<us.length:=by have:=(List.getElem?_eq_some_iff.1 (mkH_some a1)).1;rw [postL_length] at this;exact this
               rw [a2,hname2 A (by omega),hρn,if_pos (by omega),show H.next+(A-objs.length)-H.next+objs.length=A by omega,hn] at hx
               simp at hx
             · have hA2:A<us.length:=by have:=(List.getElem?_eq_some_iff.1 (mkH_some a1)).1;rw [postL_length] at this;exact this
               rw [a2,hname2 A (by omega)] at b5;omega
   · rcases hh.live B o a1 with ⟨x,hx,hb⟩ | ⟨hv,hn⟩
     · refine .inl ⟨x,hkeep _ _ hx,(hb.congr (he1.frame x.1 (hh.range _ _ hx) ?_)).mono hle⟩
       intro A p y hA hy
       exact apart B o x a1 hx a2 A p y hA hy
     · exact .inr ⟨hv,by rw [hρn,if_neg a3];exact hn⟩
 · -- inj
   intro B B' o o' x x' hB hB' hx hx' he
   have clash:∀A o1 x B' o' x',(mkH (postL objs us)).get A=some o1->ρ1' A=some x->H.get B'=some o'->ρ B'=some x'->(∀A p,(mkH objs).get A=some p->nameIn σ H.next A≠B')->x.1≠x'.1:=by
    intro A o1 x B' o' x' hA hx hB' hx' hno he
    rcases he1.img A o1 x hA hx with hge | ⟨A0,p0,y0,g0,r0,e0⟩
    · have:=hh.range _ _ hx';omega
    · exact apart B' o' x' hB' hx' hno A0 p0 y0 g0 r0 (e0.trans he)
   rcases clsx B o x hB hx with ⟨A,o1,a1,a2,a3⟩ | ⟨a1,a2,a3⟩
   · rcases clsx B' o' x' hB' hx' with ⟨A',o1',b1,b2,b3⟩ | ⟨b1,b2,b3⟩
     · rw [a3,b3,hh1.inj A A' o1 o1' x x' a1 b1 a2 b2 he]
     · exact absurd he (clash A o1 x B' o' x' a1 a2 b1 b2 b3)
   · rcases clsx B' o' x' hB' hx' with ⟨A',o1',b1,b2,b3⟩ | ⟨b1,b2,b3⟩
     · exact absurd he.symm (clash A' o1' x' B o x b1 b2 a1 a2 a3)
     · exact hh.inj B B' o o' x x' a1 b1 a2 b2 he
 · -- range
   intro B x hx
   rw [hρn] at hx
   split at hx
   · exact hh1.range _ _ hx
   · exact Nat.lt_of_lt_of_le (hh.range _ _ hx) he1.size
 · intro B j v hv;rw [hρr] at hv;exact hh1.ro B j v hv
 · -- rox
   intro B j v hv B' o x hB' hx
   rw [hρr] at hv
   rcases clsx B' o x hB' hx with ⟨A,o1,a1,a2,a3⟩ | ⟨a1,a2,a3⟩
   · exact hh1.rox B j v hv A o1 x a1 a2
   · rcases he1.roimg B j v hv with h | h | ⟨A0,p0,y0,g0,r0,e0⟩
     · exact hh.rox B j v h B' o x a1 a2
     · have:=hh.range _ _ a2;omega
     · rw [<-e0];exact fun e=>apart B' o x a1 a2 a3 A0 p0 y0 g0 r0 e.symm
 · rw [hnext];omega
 · -- dom
   intro B x hx
   rw [hρn] at hx
   split at hx
   · rename_i h;exact .inr ⟨h.1,by rw [hnext];exact h.2⟩
   · exact .inl hx
 · -- frame
   intro B hB hno
   refine he1.frame B hB ?_
   intro A p y hA hy he
   have hAl:A<objs.length:=(List.getElem?_eq_some_iff.1 (mkH_some hA)).1
   rw [hemb.nm A hAl] at hy
   obtain ⟨B',b1,b2,b3⟩:=hget A p (mkH_some hA)
   rw [hname A B' b1] at hy
   exact hno B' _ y b2 hy he
 · -- img
   intro B o x hB hx
   rcases clsx B o x hB hx with ⟨A,o1,a1,a2,a3⟩ | ⟨a1,a2,a3⟩
   · rcases he1.img A o1 x a1 a2 with hge | ⟨A0,p0,y0,g0,r0,e0⟩
     · exact .inl hge
     · have hAl:A0<objs.length:=(List.getElem?_eq_some_iff.1 (mkH_some g0)).1
       rw [hemb.nm A0 hAl] at r0
       obtain ⟨B',b1,b2,b3⟩:=hget A0 p0 (mkH_some g0)
       rw [hname A0 B' b1] at r0
       exact .inr ⟨B',_,y0,b2,r0,e0⟩
   · exact .inr ⟨B,o,x,a1,a2,rfl⟩
 · -- roimg
   intro B j v hv
   rw [hρr] at hv
   rcases he1.roimg B j v hv with h | h | ⟨A0,p0,y0,g0,r0,e0⟩
   · exact .inl h
   · exact .inr (.inl h)
   · have hAl:A0<objs.length:=(List.getElem?_eq_some_iff.1 (mkH_some g0)).1
     rw [hemb.nm A0 hAl] at r0
     obtain ⟨B',b1,b2,b3⟩:=hget A0 p0 (mkH_some g0)
     rw [hname A0 B' b1] at r0
     exact .inr (.inr ⟨B',_,y0,b2,r0,e0⟩)
theorem con_call {P:Program} {g:FuncId} {pargs args:List AV} {objs:List (Option AObj)} {v:AV} {us:List Upd} (hc:Con P g pargs objs v us) (σ:List Nat) {H:AH} (hok:namesOk σ objs us H=true)
 (hall:HasAll (nameIn σ H.next) objs.length H σ objs) (hargs:rens (nameIn σ H.next) pargs=args) (hbel:belows objs.length pargs=true):CallDoes P g args H (embV σ H v) (embH σ H us):=by
 have hlen:=(hasAll_get hall).1
 refine ⟨?_,?_⟩
 · have hok':=hok
   simp only [namesOk,Bool.and_eq_true] at hok'
   obtain ⟨o1,o2,_⟩:=embOld_spec (nameIn σ H.next) σ us H (nodupB_iff _ hok'.1) (by have:=updOk_len hok'.2.2.2;omega)
   obtain ⟨n1,n2,_⟩:=embNew_spec (nameIn σ H.next) (us.drop σ.length) (embOld (nameIn σ H.next) σ us H)
   exact o2.trans n2
 · intro ρ w args' hv hh hf
   have hemb:=emb_in hok hall hh
   have hnext:(embH σ H us).next=H.next+(us.length-σ.length):=by
    have hok':=hok
    simp only [namesOk,Bool.and_eq_true] at hok'
    obtain ⟨o1,_⟩:=embOld_spec (nameIn σ H.next) σ us H (nodupB_iff _ hok'.1) (by have:=updOk_len hok'.2.2.2;omega)
    obtain ⟨n1,_⟩:=embNew_spec (nameIn σ H.next) (us.drop σ.length) (embOld (nameIn σ H.next) σ us H)
    show (embNew _ _ _).next= _
    rw [n1,o1];simp
   rw [hnext] at hf
   rw [<-hargs] at hv
   have hv1:VRs (ρ.sub σ) pargs args':=unrens_VR hemb.nm (fun _ _ _ h=>h) hbel hv
   refine (hc (ρ.sub σ) w args' hv1 hemb.hr hemb.off).mono ?_
   rintro e w' ⟨v',ρ1',rfl,k1,k2,k3⟩
   obtain ⟨q1,q2,q3,_⟩:=emb_out hok hall hh hf k2 k3
   exact ⟨v',_,rfl,q1 v v' k1,q2,q3⟩
noncomputable def invN:List Nat->Nat->Nat
 | [],_=>0
 | B :: r,A=>match Nat.beq B A with
   | true=>0
   | false=>invN r A+1
theorem invN_ok:∀{σ:List Nat} {A:Nat},memN A σ=true->∀nx,nameIn σ nx (invN σ A)=A/\invN σ A<σ.length
 | [],A,h,nx=>by simp [memN] at h
 | B :: r,A,h,nx=>by
   unfold invN
   split
   · rename_i hb
     have:=Nat.eq_of_beq_eq_true hb
     subst this
     exact ⟨by simp [nameIn],by simp⟩
   · rename_i hb
     have hne:=Nat.ne_of_beq_eq_false hb
     have hm:memN A r=true:=by
      rw [memN_iff] at h⊢
      cases h with
      | head=>exact absurd rfl hne
      | tail _ h=>exact h
     obtain ⟨h1,h2⟩:=invN_ok hm (nx+1)
     refine ⟨?_,by simp;omega⟩
     have:nameIn (B :: r) nx (invN r A+1)=nameIn r (nx+1) (invN r A):=by
      unfold nameIn
      simp only [List.getElem?_cons_succ,List.length_cons]
      split
      · rfl
      · rename_i hnone;rw [List.getElem?_eq_none_iff] at hnone;omega
     rw [this];exact h1
noncomputable def pullO (σ:List Nat) (H:AH):List Nat->Option (List (Option AObj))
 | []=>some []
 | B :: r=>ob (H.get B) fun o=>og (onNamesO (fun A=>memN A σ) o) (ob (pullO σ H r) fun l=>some (some (renO (invN σ) o) :: l))
theorem pullO_ok {σ:List Nat} {H:AH} {nx:Nat}:∀{l:List Nat} {objs:List (Option AObj)},pullO σ H l=some objs->HasAll (nameIn σ nx) σ.length H l objs
 | [],objs,h=>by simp [pullO] at h;subst h;trivial
 | B :: r,objs,h=>by
   simp only [pullO,ob_some,og_some] at h
   obtain ⟨o,ho,hn,l,hl,e⟩:=h
   simp at e;subst e
   have:=renO_back (f:=nameIn σ nx) (g:=invN σ) (k:=σ.length) (fun A hA=>invN_ok hA nx) hn
   exact ⟨by rw [this.1];exact ho,this.2,pullO_ok hl⟩
noncomputable def pull (σ:List Nat) (args:List AV) (us:List Upd) (H:AH):Option (List AV×List (Option AObj)):=
 og (onNamesL (fun A=>memN A σ) args) (ob (pullO σ H σ) fun objs=>og (namesOk σ objs us H) (some (rens (invN σ) args,objs)))
theorem pull_call {P:Program} {g:FuncId} {args pargs:List AV} {objs:List (Option AObj)} {v:AV} {us:List Upd} {σ:List Nat} {H:AH} (h:pull σ args us H=some (pargs,objs)) (hc:Con P g pargs objs v us):CallDoes P g args H (embV σ H v) (embH σ H us):=by
 simp only [pull,og_some,ob_some,Option.some.injEq,Prod.mk.injEq] at h
 obtain ⟨hn,objs',ho,hok,rfl,rfl⟩:=h
 have hall:=pullO_ok (nx:=H.next) ho
 have hlen:=(hasAll_get hall).1
 rw [hlen] at hall
 have:=rens_back (f:=nameIn σ H.next) (g:=invN σ) (k:=σ.length) (fun A hA=>invN_ok hA H.next) hn
 exact con_call hc σ hok hall this.1 (by rw [<-hlen];exact this.2)
end Go.Sim
/- Loops, told of the rows that they are handed alone. -/
namespace Go.Sim
open Go
inductive TaskK where
 | code (c:Code) (n:Nat) (tm:T AV) (H:AH)
 | loop (c:Code) (n:Nat) (tm:T AV) (H:AH)
 | call (g:FuncId) (args:List AV) (H:AH)
def DoesT (P:Program):TaskK->Res->Prop
 | .code c n tm H,.st x tm' H'=>Lg H H'/\∀r0,RfOk r0 c->∀ρ a w Q,TR ρ tm n a.tmps->HR ρ H w->Fresh ρ H H'.next->Then n ρ H w a x tm' H' Q->c.wpIn (FR r0) 0 P Q a w
 | .loop c n tm H,.st x tm' H'=>Lg H H'/\∀r0,RfOk r0 c->∀ρ a w Q,TR ρ tm n a.tmps->HR ρ H w->Fresh ρ H H'.next->Then n ρ H w a x tm' H' Q->c.wpIn (FR r0) 0 P (Exit.then (LoopWp r0 P c Q) Q) a w
 | .call g args H,.rv v H'=>CallDoes P g args H v H'
 | _,_=>False
noncomputable def mkT (l:List (Nat×AV)):T AV:=
 List.rec (motive:=fun _=>T AV) .e (fun p _ ih=>ih.set p.1 (some p.2)) l
theorem mkT_get:∀(l:List (Nat×AV)) (t:Nat) (v:AV),(mkT l).get t=some v->(t,v)∈l
 | [],t,v,h=>by
   have h':(T.e:T AV).get t=some v:=h
   simp [T.get_e] at h'
 | p :: l,t,v,h=>by
   have h':((mkT l).set p.1 (some p.2)).get t=some v:=h
   rw [T.get_set] at h'
   split at h'
   · rename_i e;simp at h';subst e;subst h';simp
   · exact List.mem_cons_of_mem _ (mkT_get l t v h')
noncomputable def getTs (tm:T AV):List Nat->Option (List AV)
 | []=>some []
 | t :: r=>ob (tm.get t) fun v=>ob (getTs tm r) fun l=>some (v :: l)
theorem getTs_VRs {ρ:Rho} {tm:T AV} {n:Nat} {ts:Array Value} (ht:TR ρ tm n ts):∀{l:List Nat} {vs:List AV},getTs tm l=some vs->VRs ρ vs (l.map fun t=>ts.getD t undef)
 | [],vs,h=>by simp [getTs] at h;subst h;exact .nil
 | t :: r,vs,h=>by
   simp only [getTs,ob_some] at h
   obtain ⟨v,hv,l,hl,e⟩:=h
   simp at e;subst e
   exact .cons _ _ _ _ (ht.get t v hv) (getTs_VRs ht hl)
structure ExtB (b:Nat) (ρ:Rho) (H:AH) (w:World) (ρ':Rho) (H':AH) (w':World):Prop where
 nm:∀A,A<b->ρ' A=ρ A
 ro:∀B j v,ρ.ro B j=some v->ρ'.ro B j=some v
 size:w.heap.size<=w'.heap.size
 frame:∀B,B<w.heap.size->(∀A o x,H.get A=some o->ρ A=some x->x.1≠B)->w'.heap[B]? =w.heap[B]?
 img:∀A o x,H'.get A=some o->ρ' A=some x->w.heap.size<=x.1\/∃A0 o0 x0,H.get A0=some o0/\ρ A0=some x0/\x0.1=x.1
 roimg:∀B j v,ρ'.ro B j=some v->ρ.ro B j=some v\/w.heap.size<=B\/∃A0 o0 x0,H.get A0=some o0/\ρ A0=some x0/\x0.1=B
 tape:w'.tape=w.tape
 os:w'.os=w.os
 output:w'.output=w.output
theorem ExtB.trans {b:Nat} {ρ ρ1 ρ2:Rho} {H H1 H2:AH} {w w1 w2:World} (h1:ExtB b ρ H w ρ1 H1 w1) (h2:ExtB b ρ1 H1 w1 ρ2 H2 w2):ExtB b ρ H w ρ2 H2 w2 where
 nm:=fun A hA=>(h2.nm A hA).trans (h1.nm A hA)
 ro:=fun B j v h=>h2.ro _ _ _ (h1.ro _ _ _ h)
 size:=Nat.le_trans h1.size h2.size
 frame:=fun B hB hn=>by
  rw [h2.frame B (Nat.lt_of_lt_of_le hB h1.size) ?_,h1.frame B hB hn]
  intro A o x hA hx he
  rcases h1.img A o x hA hx with hge | ⟨A0,o0,x0,g0,r0,e0⟩
  · omega
  · exact hn A0 o0 x0 g0 r0 (e0.trans he)
 img:=fun A o x hA hx=>by
  rcases h2.img A o x hA hx with hge | ⟨A0,o0,x0,g0,r0,e0⟩
  · exact .inl (Nat.le_trans h1.size hge)
  · rcases h1.img A0 o0 x0 g0 r0 with hge | ⟨A1,o1,x1,g1,r1,e1⟩
    · exact .inl (e0▸hge)
    · exact .inr ⟨A1,o1,x1,g1,r1,e1.trans e0⟩
 roimg:=fun B j v hv=>by
  rcases h2.roimg B j v hv with h | h | ⟨A0,o0,x0,g0,r0,e0⟩
  · exact h1.roimg B j v h
  · exact .inr (.inl (Nat.le_trans h1.size h))
  · rcases h1.img A0 o0 x0 g0 r0 with hge | ⟨A1,o1,x1,g1,r1,e1⟩
    · exact .inr (.inl (e0▸hge))
    · exact .inr (.inr ⟨A1,o1,x1,g1,r1,e1.trans e0⟩)
 tape:=h2.tape.trans h1.tape
 os:=h2.os.trans h1.os
 output:=h2.output.trans h1.output
def LDoes (P:Program) (c:Code) (n b:Nat) (tm:T AV) (objs:List (Option AObj)) (x:XO) (tm':T AV) (objs':List (Option AObj)):Prop:=
 ∀r0,RfOk r0 c->∀ρ a w Q,TR ρ tm n a.tmps->HR ρ (mkH objs) w->(∀A,objs.length<=A->ρ A=none)->
  (∀a' w' ρ',TR ρ' tm' n a'.tmps->Dfr a.defers w a'.defers w'->HR ρ' (mkH objs') w'->(∀A,objs'.length<=A->ρ' A=none)->ExtB b ρ (mkH objs) w ρ' (mkH objs') w'->Q x.ex a' w')->
  c.wpIn (FR r0) 0 P (Exit.then (LoopWp r0 P c Q) Q) a w
theorem VRs.mem {ρ:Rho}:∀{l:List (Nat×AV)} {f:Nat->Value},VRs ρ (l.map (·.2)) (l.map fun p=>f p.1)->∀p∈l,VR ρ p.2 (f p.1)
 | [],f,_,p,hp=>by simp at hp
 | q :: l,f,h,p,hp=>by
   simp only [List.map_cons] at h
   cases h with | cons _ _ _ _ a b=>
   cases hp with
   | head=>exact a
   | tail _ hp=>exact VRs.mem b p hp
noncomputable def shiftN (b k A:Nat):Nat:=bif Nat.blt A b then A else A-b+k
theorem shiftN_lt {b k A:Nat} (h:A<b):shiftN b k A=A:=by
 unfold shiftN
 have:Nat.blt A b=true:=by rw [Nat.blt_eq];exact h
 rw [this];rfl
theorem shiftN_ge {b k A:Nat} (h:b<=A):shiftN b k A=A-b+k:=by
 unfold shiftN
 have:Nat.blt A b=false:=by
  cases hb:Nat.blt A b with
  | false=>rfl
  | true=>have:=blt_lt hb;omega
 rw [this];rfl
noncomputable def shiftO (b k:Nat) (l:List (Option AObj)):List (Option AObj):=
 (l.map fun o=>match o with | some x=>some (renO (shiftN b k) x) | none=>none)
noncomputable def loopPost (b k:Nat) (objs':List (Option AObj)):List (Option AObj):=
 (shiftO b k objs').take b ++ (List.replicate (k-b) none ++ (shiftO b k objs').drop b)
noncomputable def outT (b k:Nat) (σ:List Nat) (nx:Nat) (l':List (Nat×AV)):List (Nat×AV):=l'.map fun p=>(p.1,ren (nameIn σ nx) (ren (shiftN b k) p.2))
theorem shiftO_get (b k:Nat) (l:List (Option AObj)) (A:Nat) (o:AObj):(shiftO b k l)[A]? =some (some o)↔∃p,l[A]? =some (some p)/\o=renO (shiftN b k) p:=by
 unfold shiftO
 rw [List.getElem?_map]
 cases hl:l[A]? with
 | none=>simp
 | some q=>
   cases q with
   | none=>simp
   | some p=>simp [eq_comm]
theorem lp_call {P:Program} {c:Code} {n b:Nat} {l l':List (Nat×AV)} {objs objs':List (Option AObj)} {x:XO} (hl:LDoes P c n b (mkT l) objs x (mkT l') objs') (σ:List Nat) (us:List Upd) {H:AH} {tm:T AV}
 (hok:namesOk σ objs us H=true) (hall:HasAll (nameIn σ H.next) objs.length H σ objs) (hts:getTs tm (l.map (·.1))=some (rens (nameIn σ H.next) (l.map (·.2)))) (hbel:belows objs.length (l.map (·.2))=true)
 (hpost:postL objs us=loopPost b objs.length objs') (hb:b<=objs.length) (hb':b<=objs'.length) :
 DoesT P (.loop c n tm H) (.st x (mkT (outT b objs.length σ H.next l')) (embH σ H us)):=by
 have hlen:=(hasAll_get hall).1
 have hok':=hok
 simp only [namesOk,Bool.and_eq_true] at hok'
 have hulen:=updOk_len hok'.2.2.2
 obtain ⟨o1,o2,_⟩:=embOld_spec (nameIn σ H.next) σ us H (nodupB_iff _ hok'.1) (by omega)
 obtain ⟨n1,n2,_⟩:=embNew_spec (nameIn σ H.next) (us.drop σ.length) (embOld (nameIn σ H.next) σ us H)
 have hnext:(embH σ H us).next=H.next+(us.length-σ.length):=by
  show (embNew _ _ _).next= _
  rw [n1,o1];simp
 refine ⟨o2.trans n2,?_⟩
 intro r0 hr ρ a w Q ht hh hf hQ
 have hemb:=emb_in hok hall hh
 rw [hnext] at hf
 have hsl:(shiftO b objs.length objs').length=objs'.length:=by simp [shiftO]
 have hpl:us.length=objs.length+(objs'.length-b):=by
  have:=congrArg List.length hpost
  rw [postL_length] at this
  simp [loopPost,hsl] at this
  omega
 have ht1:TR (ρ.sub σ) (mkT l) n a.tmps:=by
  refine ⟨ht.size,?_⟩
  intro t v hv
  have hm:=mkT_get l t v hv
  have hvs:=getTs_VRs ht hts
  have h2:VRs (ρ.sub σ) (l.map (·.2)) ((l.map (·.1)).map fun t=>a.tmps.getD t undef):=unrens_VR hemb.nm (fun _ _ _ h=>h) hbel hvs
  rw [List.map_map] at h2
  exact h2.mem (f:=fun t=>a.tmps.getD t undef) _ hm
 refine hl r0 hr (ρ.sub σ) a w Q ht1 hemb.hr hemb.off ?_
 intro a' w' ρ' q1 q2 q3 q4 q5
 -- the loop's end under a call's names
 let ρ1:Rho:=⟨fun A=>if A<b then ρ' A else if A<objs.length then ρ.sub σ A else ρ' (A-objs.length+b),ρ'.ro⟩
 have hρ1:∀A,ρ1 A=if A<b then ρ' A else if A<objs.length then ρ.sub σ A else ρ' (A-objs.length+b):=fun A=>rfl
 have hshift:∀A y,ρ' A=some y->ρ1 (shiftN b objs.length A)=some y:=by
  intro A y hA
  by_cases h:A<b
  · rw [shiftN_lt h,hρ1,if_pos h];exact hA
  · rw [shiftN_ge (by omega),hρ1,if_neg (by omega),if_neg (by omega)]
    rw [show A-b+objs.length-objs.length+b=A by omega];exact hA
 have hpget:∀A o,(mkH (postL objs us)).get A=some o->∃A' p,objs'[A']? =some (some p)/\o=renO (shiftN b objs.length) p/\A=shiftN b objs.length A':=by
  intro A o hA
  have h1:=mkH_some hA
  rw [hpost] at h1
  unfold loopPost at h1
  by_cases hAb:A<b
  · rw [List.getElem?_append_left (by simp [hsl];omega),List.getElem?_take_of_lt hAb,shiftO_get] at h1
    obtain ⟨p,p1,p2⟩:=h1
    exact ⟨A,p,p1,p2,(shiftN_lt hAb).symm⟩
  · have htl:((shiftO b objs.length objs').take b).length=b:=by simp [hsl];omega
    rw [List.getElem?_append_right (by omega),htl] at h1
    by_cases hAk:A<objs.length
    · rw [List.getElem?_append_left (by simp;omega)] at h1
      rw [List.getElem?_replicate] at h1
      split at h1<;>simp at h1
    · rw [List.getElem?_append_right (by simp;omega),List.length_replicate,List.getElem?_drop,shiftO_get] at h1
      obtain ⟨p,p1,p2⟩:=h1
      refine ⟨b+(A-b-(objs.length-b)),p,p1,p2,?_⟩
      rw [shiftN_ge (by omega)];omega
 have hnm1:∀A',A'<objs'.length->ρ1 (shiftN b objs.length A')=ρ' A':=by
  intro A' hA
  by_cases h:A'<b
  · rw [shiftN_lt h,hρ1,if_pos h]
  · rw [shiftN_ge (by omega),hρ1,if_neg (by omega),if_neg (by omega)]
    rw [show A'-b+objs.length-objs.length+b=A' by omega]
 have hin':∀A' p,objs'[A']? =some (some p)->(mkH objs').get A'=some p/\A'<objs'.length:=by
  intro A' p h
  exact ⟨by rw [mkH_get,h];rfl,(List.getElem?_eq_some_iff.1 h).1⟩
 have hHR:HR ρ1 (mkH (postL objs us)) w':=by
  refine ⟨?_,?_,?_,q3.ro,?_⟩
  · intro A o hA
    obtain ⟨A',p,p1,p2,p3⟩:=hpget A o hA
    obtain ⟨g1,g2⟩:=hin' A' p p1
    rcases q3.live A' p g1 with ⟨y,hy,hbr⟩ | ⟨hv,hn⟩
    · exact .inl ⟨y,by rw [p3,hnm1 A' g2];exact hy,by rw [p2];exact ren_BR hshift (fun _ _ _ h=>h) hbr⟩
    · exact .inr ⟨by rw [p2];exact (renO_void _ _).2 hv,by rw [p3,hnm1 A' g2];exact hn⟩
  · intro A1 A2 oa ob' y1 y2 hA1 hA2 hy1 hy2 he
    obtain ⟨A1',p1,a1,a2,a3⟩:=hpget A1 oa hA1
    obtain ⟨A2',p2,b1,b2,b3⟩:=hpget A2 ob' hA2
    obtain ⟨g1,g2⟩:=hin' A1' p1 a1
    obtain ⟨g3,g4⟩:=hin' A2' p2 b1
    rw [a3,hnm1 A1' g2] at hy1
    rw [b3,hnm1 A2' g4] at hy2
    rw [a3,b3,q3.inj A1' A2' p1 p2 y1 y2 g1 g3 hy1 hy2 he]
  · intro A y hy
    rw [hρ1] at hy
    split at hy
    · exact q3.range _ _ hy
    · split at hy
      · exact Nat.lt_of_lt_of_le (hemb.hr.range _ _ hy) q5.size
      · exact q3.range _ _ hy
  · intro B j v hv A o y hA hy
    obtain ⟨A',p,p1,p2,p3⟩:=hpget A o hA
    obtain ⟨g1,g2⟩:=hin' A' p p1
    rw [p3,hnm1 A' g2] at hy
    exact q3.rox B j v hv A' p y g1 hy
 have hExt:Ext (ρ.sub σ) (mkH objs) w ρ1 (mkH (postL objs us)) w':=by
  refine ⟨?_,⟨?_,q5.ro⟩,?_,q5.size,q5.frame,?_,q5.roimg,q5.tape,q5.os,q5.output⟩
  · show objs.length<=(postL objs us).length
    rw [postL_length];omega
  · intro A y hA
    have hAl:A<objs.length:=by
     apply Classical.byContradiction
     intro hn
     rw [hemb.off A (by omega)] at hA;simp at hA
    rw [hρ1]
    split
    · rename_i h;rw [q5.nm A h];exact hA
    · first | exact hA | (rw [if_pos hAl];exact hA)
  · intro A y hA
    rw [hρ1] at hA
    split at hA
    · rename_i h;rw [q5.nm A h] at hA;exact .inl hA
    · split at hA
      · exact .inl hA
      · rename_i h1 h2
        refine .inr ⟨by show objs.length<=A;omega,?_⟩
        show A<(postL objs us).length
        rw [postL_length]
        apply Classical.byContradiction
        intro hn
        rw [q4 _ (by omega)] at hA;simp at hA
  · intro A o y hA hy
    obtain ⟨A',p,p1,p2,p3⟩:=hpget A o hA
    obtain ⟨g1,g2⟩:=hin' A' p p1
    rw [p3,hnm1 A' g2] at hy
    exact q5.img A' p y g1 hy
 obtain ⟨r1,r2,r3,_⟩:=emb_out hok hall hh hf hHR hExt
 refine hQ a' w' _ ⟨q1.size,?_⟩ q2 r2 r3
 intro t v hv
 have hm:=mkT_get _ t v hv
 unfold outT at hm
 rw [List.mem_map] at hm
 obtain ⟨⟨t',v'⟩,hm,e⟩:=hm
 simp only [Prod.mk.injEq] at e
 obtain ⟨rfl,rfl⟩:=e
 -- l' may list a place twice: the tree tells the first
 have key:∀(l':List (Nat×AV)) (t:Nat) (v:AV),(mkT (outT b objs.length σ H.next l')).get t=some v->∃v0,(mkT l').get t=some v0/\v=ren (nameIn σ H.next) (ren (shiftN b objs.length) v0):=by
  intro l'
  induction l' with
  | nil=>intro t v h;have h':(T.e:T AV).get t=some v:=h;simp [T.get_e] at h'
  | cons p l' ih=>
    intro t v h
    have h':((mkT (outT b objs.length σ H.next l')).set p.1 (some (ren (nameIn σ H.next) (ren (shiftN b objs.length) p.2)))).get t=some v:=h
    rw [T.get_set] at h'
    show ∃v0,((mkT l').set p.1 (some p.2)).get t=some v0/\_
    rw [T.get_set]
    split at h'
    · rename_i e;rw [if_pos e];simp at h';exact ⟨p.2,rfl,h'.symm⟩
    · rename_i e;rw [if_neg e];exact ih t v h'
 obtain ⟨v0,k1,k2⟩:=key l' _ _ hv
 rw [k2]
 exact r1 _ _ (ren_VR hshift (fun _ _ _ h=>h) (q1.get _ v0 k1))
noncomputable def setU (f:Nat->Nat) (o:Option AObj):Upd:=
 match o with
 | some x=>.set (renO f x)
 | none=>.gone
noncomputable def loopU (b k:Nat) (objs':List (Option AObj)):List Upd:=
 ((objs'.take b).map (setU (shiftN b k))) ++ (List.replicate (k-b) .gone ++ ((objs'.drop b).map (setU (shiftN b k))))
theorem postL_map (g:Option AObj->Upd) (q:Option AObj->Option AObj) (hg:∀o x,postG (g o) x=q o):∀(l:List (Option AObj)) (us:List Upd) (objs:List (Option AObj)),postL objs (l.map g ++ us)=l.map q ++ postL (objs.drop l.length) us
 | [],us,objs=>by simp
 | o :: l,us,objs=>by
   simp only [List.map_cons,List.cons_append,postL_cons,hg]
   rw [postL_map g q hg l us objs.tail]
   congr 2
   cases objs<;>simp
theorem postL_gone:∀(m:Nat) (us:List Upd) (objs:List (Option AObj)),postL objs (List.replicate m .gone ++ us)=List.replicate m none ++ postL (objs.drop m) us
 | 0,us,objs=>by simp
 | m+1,us,objs=>by
   simp only [List.replicate_succ,List.cons_append,postL_cons]
   rw [postL_gone m us objs.tail]
   simp only [postG]
   congr 3
   cases objs<;>simp
theorem loopU_post (b k:Nat) (objs objs':List (Option AObj)):postL objs (loopU b k objs')=loopPost b k objs':=by
 have hg:∀o x,postG (setU (shiftN b k) o) x=(match o with | some x=>some (renO (shiftN b k) x) | none=>none):=by intro o x;cases o<;>rfl
 unfold loopU loopPost shiftO
 rw [postL_map _ _ hg,postL_gone]
 have h0:=postL_map _ _ hg (objs'.drop b) [] ((objs.drop (objs'.take b).length).drop (k-b))
 rw [List.append_nil] at h0
 rw [h0]
 have:∀o:List (Option AObj),postL o []=[]:=fun _=>rfl
 rw [this,List.append_nil,List.map_take,List.map_drop]
noncomputable def pullT (σ:List Nat) (tm:T AV) (ts:List Nat):Option (List (Nat×AV)):=
 ob (getTs tm ts) fun vs=>og (onNamesL (fun A=>memN A σ) vs) (some (ts.zip (rens (invN σ) vs)))
theorem getTs_length {tm:T AV}:∀{ts:List Nat} {vs:List AV},getTs tm ts=some vs->vs.length=ts.length
 | [],vs,h=>by simp [getTs] at h;subst h;rfl
 | t :: r,vs,h=>by
   simp only [getTs,ob_some] at h
   obtain ⟨v,hv,l,hl,e⟩:=h
   simp at e;subst e
   simp [getTs_length hl]
theorem rens_length (f:Nat->Nat):∀l:List AV,(rens f l).length=l.length
 | []=>by simp [rens]
 | v :: r=>by simp [rens,rens_length f r]
noncomputable def pullL (σ ts:List Nat) (b:Nat) (objs':List (Option AObj)) (tm:T AV) (H:AH):Option (List (Nat×AV)×List (Option AObj)):=
 ob (pullT σ tm ts) fun l=>ob (pullO σ H σ) fun objs=>og (namesOk σ objs (loopU b σ.length objs') H) (og (Nat.ble b σ.length) (og (Nat.ble b objs'.length) (some (l,objs))))
theorem pull_loop {P:Program} {c:Code} {n b:Nat} {σ ts:List Nat} {tm:T AV} {H:AH} {l l':List (Nat×AV)} {objs objs':List (Option AObj)} {x:XO} (h:pullL σ ts b objs' tm H=some (l,objs))
 (hl:LDoes P c n b (mkT l) objs x (mkT l') objs'):DoesT P (.loop c n tm H) (.st x (mkT (outT b σ.length σ H.next l')) (embH σ H (loopU b σ.length objs'))):=by
 simp only [pullL,pullT,ob_some,og_some,Option.some.injEq,Prod.mk.injEq] at h
 obtain ⟨l0,⟨vs,hvs,hn,rfl⟩,objs0,ho,hok,hb,hb',rfl,rfl⟩:=h
 have hall:=pullO_ok (nx:=H.next) ho
 have hlen:=(hasAll_get hall).1
 have hback:=rens_back (f:=nameIn σ H.next) (g:=invN σ) (k:=σ.length) (fun A hA=>invN_ok hA H.next) hn
 have hvl:=getTs_length hvs
 have hz1:(ts.zip (rens (invN σ) vs)).map (·.1)=ts:=by
  rw [List.map_fst_zip];rw [rens_length];omega
 have hz2:(ts.zip (rens (invN σ) vs)).map (·.2)=rens (invN σ) vs:=by
  rw [List.map_snd_zip];rw [rens_length];omega
 rw [hlen] at hall
 have:=lp_call hl σ (loopU b σ.length objs') (tm:=tm) hok hall (by rw [hz1,hz2,hback.1];exact hvs) (by rw [hz2,<-hlen];exact hback.2) (by rw [hlen];exact loopU_post _ _ _ _) (by rw [<-hlen];exact Nat.le_of_ble_eq_true hb) (Nat.le_of_ble_eq_true hb')
 rw [<-hlen] at this
 exact this
end Go.Sim
/- Ranges over functions: the record's row, and a round of it. -/
namespace Go.Sim
open Go
structure Away (ρ:Rho) (H:AH) (w:World) (B:Nat):Prop where
 lt:B<w.heap.size
 nm:∀A o x,H.get A=some o->ρ A=some x->x.1≠B
 ro:∀j v,ρ.ro B j≠some v
theorem Away.ext {ρ ρ':Rho} {H H':AH} {w w':World} {B:Nat} (h:Away ρ H w B) (e:Ext ρ H w ρ' H' w'):Away ρ' H' w' B where
 lt:=Nat.lt_of_lt_of_le h.lt e.size
 nm:=fun A o x hA hx he=>by
  have:=h.lt
  rcases e.img A o x hA hx with q | ⟨A0,o0,x0,g0,r0,e0⟩
  · omega
  · exact h.nm A0 o0 x0 g0 r0 (e0.trans he)
 ro:=fun j v hv=>by
  have:=h.lt
  rcases e.roimg B j v hv with q | q | ⟨A0,o0,x0,g0,r0,e0⟩
  · exact h.ro j v q
  · omega
  · exact h.nm A0 o0 x0 g0 r0 e0
theorem Away.heap {ρ ρ':Rho} {H H':AH} {w w':World} {B:Nat} (h:Away ρ H w B) (e:Ext ρ H w ρ' H' w'):w'.heap[B]? =w.heap[B]?:=e.frame B h.lt h.nm
theorem Away.put {ρ:Rho} {H:AH} {w:World} {B:Nat} {b:Obj} (h:Away ρ H w B):Away ρ H (w.putObj B b) B:=
 ⟨by rw [World.putObj_size];exact h.lt,h.nm,h.ro⟩
theorem HR.away {ρ:Rho} {H:AH} {w:World} {B:Nat} {b:Obj} (h:HR ρ H w) (ha:Away ρ H w B):HR ρ H (w.putObj B b):=by
 refine ⟨fun A o hA=>?_,h.inj,fun A x hx=>by rw [World.putObj_size];exact h.range A x hx,fun B' j v hv=>?_,h.rox⟩
 · rcases h.live A o hA with ⟨x,hx,hb⟩ | hv
   · exact .inl ⟨x,hx,hb.congr (World.putObj_heap_other (ha.nm A o x hA hx))⟩
   · exact .inr hv
 · have hne:B'≠B:=by rintro rfl;exact ha.ro j v hv
   rw [World.putObj_heap_other hne];exact h.ro B' j v hv
theorem HR.back {ρ:Rho} {H:AH} {w:World} {A:Nat} {o:AObj} {x:Nat×Nat×Nat} {b:Obj} (h:HR ρ H w) (ha:Away ρ H w x.1) (hx:ρ A=some x) (hb:BR ρ o x (w.putObj x.1 b)):HR ρ (H.upd A (some o)) (w.putObj x.1 b):=by
 have h':=h.away (b:=b) ha
 refine ⟨fun A' o' hA=>?_,fun A1 A2 o1 o2 x1 x2 h1 h2 r1 r2 he=>?_,h'.range,h'.ro,fun B j v hv A' o' x' hA hx'=>?_⟩
 · rw [AH.get_upd] at hA
   split at hA
   · rename_i e;subst e;simp at hA;subst hA;exact .inl ⟨x,hx,hb⟩
   · exact h'.live A' o' hA
 · rw [AH.get_upd] at h1 h2
   split at h1
   · rename_i e1
     split at h2
     · rename_i e2;rw [e1,e2]
     · subst e1;rw [hx] at r1;simp at r1;subst r1
       exact absurd he.symm (ha.nm A2 o2 x2 h2 r2)
   · split at h2
     · rename_i e2;subst e2;rw [hx] at r2;simp at r2;subst r2
       exact absurd he (ha.nm A1 o1 x1 h1 r1)
     · exact h.inj A1 A2 o1 o2 x1 x2 h1 h2 r1 r2 he
 · rw [AH.get_upd] at hA
   split at hA
   · rename_i e;subst e;rw [hx] at hx';simp at hx';subst hx'
     intro he;exact ha.ro j v (he▸hv)
   · exact h.rox B j v hv A' o' x' hA hx'
theorem Ext.round {ρ ρ1 ρ2:Rho} {H H1 H2:AH} {w w1 w2:World} {A:Nat} {x:Nat×Nat×Nat} {o o':AObj} {b b':Obj} (hA:H.get A=some o) (hx:ρ A=some x)
 (e1:Ext ρ (H.upd A none) w ρ1 H1 w1) (a1:Away ρ1 H1 w1 x.1) (e2:Ext ρ1 H1 (w1.putObj x.1 b) ρ2 H2 w2):Ext ρ H w ρ2 (H2.upd A (some o')) (w2.putObj x.1 b'):=by
 have hn1:H.next<=H1.next:=e1.next
 have hn2:H1.next<=H2.next:=e2.next
 have hs1:=e1.size
 have hs2:w1.heap.size<=w2.heap.size:=by have:=e2.size;rwa [World.putObj_size] at this
 have drop:∀B o,(H.upd A none).get B=some o->H.get B=some o:=by
  intro B o h;rw [AH.get_upd] at h;split at h
  · simp at h
  · exact h
 have im1:∀A1 o1 x1,H1.get A1=some o1->ρ1 A1=some x1->w.heap.size<=x1.1\/∃A0 o0 x0,H.get A0=some o0/\ρ A0=some x0/\x0.1=x1.1:=by
  intro A1 o1 x1 h1 r1
  rcases e1.img A1 o1 x1 h1 r1 with q | ⟨A0,o0,x0,g0,r0,e0⟩
  · exact .inl q
  · exact .inr ⟨A0,o0,x0,drop _ _ g0,r0,e0⟩
 have im2:∀A1 o1 x1,H2.get A1=some o1->ρ2 A1=some x1->w.heap.size<=x1.1\/∃A0 o0 x0,H.get A0=some o0/\ρ A0=some x0/\x0.1=x1.1:=by
  intro A1 o1 x1 h1 r1
  rcases e2.img A1 o1 x1 h1 r1 with q | ⟨A0,o0,x0,g0,r0,e0⟩
  · rw [World.putObj_size] at q;exact .inl (Nat.le_trans hs1 q)
  · rw [<-e0];exact im1 A0 o0 x0 g0 r0
 have hle:Rho.le ρ ρ2:=e1.ext.trans e2.ext
 exact {
  next:=Nat.le_trans hn1 hn2
  ext:=hle
  dom:=fun B y h=>by
   rcases e2.dom B y h with h | ⟨p,q⟩
   · rcases e1.dom B y h with h | ⟨p,q⟩
     · exact .inl h
     · exact .inr ⟨p,Nat.lt_of_lt_of_le q hn2⟩
   · exact .inr ⟨Nat.le_trans hn1 p,q⟩
  size:=by rw [World.putObj_size];exact Nat.le_trans hs1 hs2
  frame:=fun B hB hn=>by
   have hne:B≠x.1:=fun e=>hn A o x hA hx e.symm
   rw [World.putObj_heap_other hne,e2.frame B (by rw [World.putObj_size];omega) ?_,World.putObj_heap_other hne,e1.frame B hB fun A' o1 x' h'=>hn A' o1 x' (drop _ _ h')]
   intro A1 o1 x1 h1 r1 he
   rcases im1 A1 o1 x1 h1 r1 with q | ⟨A0,o0,x0,g0,r0,e0⟩
   · omega
   · exact hn A0 o0 x0 g0 r0 (e0.trans he)
  img:=fun A1 o1 x1 h1 r1=>by
   rw [AH.get_upd] at h1
   split at h1
   · rename_i e;subst e
     have:=hle.nm _ _ hx
     rw [r1] at this;simp at this;subst this
     exact .inr ⟨A1,o,x1,hA,hx,rfl⟩
   · exact im2 A1 o1 x1 h1 r1
  roimg:=fun B j v hv=>by
   rcases e2.roimg B j v hv with h | h | ⟨A0,o0,x0,g0,r0,e0⟩
   · rcases e1.roimg B j v h with h | h | ⟨A0,o0,x0,g0,r0,e0⟩
     · exact .inl h
     · exact .inr (.inl h)
     · exact .inr (.inr ⟨A0,o0,x0,drop _ _ g0,r0,e0⟩)
   · rw [World.putObj_size] at h;exact .inr (.inl (Nat.le_trans hs1 h))
   · rcases im1 A0 o0 x0 g0 r0 with q | q
     · exact .inr (.inl (e0▸q))
     · obtain ⟨A1,o1,x1,g1,r1,e1⟩:=q
       exact .inr (.inr ⟨A1,o1,x1,g1,r1,e1.trans e0⟩)
  tape:=e2.tape.trans e1.tape
  os:=e2.os.trans e1.os
  output:=e2.output.trans e1.output}
noncomputable def XO.isNrm (x:XO):Bool:=
 match x with
 | .nrm=>true
 | _=>false
noncomputable def XO.code (x:XO):Nat:=
 match x with
 | .nrm=>0
 | .ret=>1
 | .exit id=>id+2
noncomputable def XO.ofCode (n:Nat):XO:=
 match n with
 | 0=>.nrm
 | n+1=>match n with
   | 0=>.ret
   | id+1=>.exit id
noncomputable def putAll (n:Nat) (l:List (Tmp×AV)):T AV->Option (T AV):=
 List.rec (motive:=fun _=>T AV->Option (T AV)) (fun tm=>some tm) (fun p _ ih tm=>ob (putD tm n (some p.1) p.2) fun tm'=>ih tm') l
theorem putAll_cons (n:Nat) (p:Tmp×AV) (l:List (Tmp×AV)) (tm:T AV):putAll n (p :: l) tm=ob (putD tm n (some p.1) p.2) fun tm'=>putAll n l tm':=rfl
theorem putAll_TR {ρ:Rho} {n:Nat}:∀(ps:List Tmp) (args:List AV) (args':List Value) (tm tm':T AV) (ts:Array Value),VRs ρ args args'->TR ρ tm n ts->putAll n (ps.zip args) tm=some tm'->
 TR ρ tm' n ((ps.zip args').foldl (fun tmps (t,a)=>tmps.setIfInBounds t a) ts)
 | [],args,args',tm,tm',ts,hv,ht,h=>by
   simp only [List.zip_nil_left] at h⊢
   have h:some tm=some tm':=h
   simp at h;subst h;exact ht
 | p :: ps,[],args',tm,tm',ts,hv,ht,h=>by
   cases hv
   have h:some tm=some tm':=h
   simp at h;subst h;exact ht
 | p :: ps,v :: args,_,tm,tm',ts,.cons _ v' _ args' hv hvs,ht,h=>by
   rw [List.zip_cons_cons,putAll_cons,ob_some] at h
   obtain ⟨tm1,h1,h2⟩:=h
   have:=TR.put (a:={ tmps:=ts,defers:=[]}) ht h1 hv
   exact putAll_TR ps args args' tm1 tm' _ hvs this h2
def YDoes (P:Program) (tm:T AV) (H:AH) (op:Op) (v:AV) (H':AH):Prop:=
 ∃c x A n prm asg body tl args tl0 tl1 H1 xo tl2 H2,op=.call c/\c.callee=.value x/\evalO tm x=some (.yf A)/\evalOs tm c.args.toList=some args/\H.get A=some (.lp 0 n prm asg body tl)/\
  args.length=prm.size/\rfC asg=false/\rfC body=false/\putAll n (prm.toList.zip args) tl=some tl0/\
  DoesT P (.code asg n tl0 (H.upd A none)) (.st .nrm tl1 H1)/\DoesT P (.code body n tl1 H1) (.st xo tl2 H2)/\v=.b xo.isNrm/\H'=H2.upd A (some (.lp xo.code n prm asg body tl))
theorem YDoes.lg {P:Program} {tm:T AV} {H H':AH} {op:Op} {v:AV} (h:YDoes P tm H op v H'):Lg H H':=by
 obtain ⟨c,x,A,n,prm,asg,body,tl,args,tl0,tl1,H1,xo,tl2,H2,rfl,hcal,hx,hargs,hA,hlen,hra,hrb,hp,hd1,hd2,rfl,rfl⟩:=h
 exact ((Lg.upd _ _ _).trans hd1.1).trans (hd2.1.trans (.upd _ _ _))
theorem YDoes.nodefer {P:Program} {tm:T AV} {H H':AH} {o:Op} {v:AV} (h:YDoes P tm H o v H'):∀c,o≠.defer c:=by
 rintro c rfl
 obtain ⟨c,x,A,n,prm,asg,body,tl,args,tl0,tl1,H1,xo,tl2,H2,e,_⟩:=h
 simp at e
theorem YDoes.sound {P:Program} {tm:T AV} {H H':AH} {n0:Nat} {a:Act} {o:Oper} {v:AV} {ρ:Rho} {w:World} {K:Act->World->Prop} {Q:Exit->Act->World->Prop} {r0:Option Nat}
 (h:YDoes P tm H o.op v H') (ht:TR ρ tm n0 a.tmps) (hh:HR ρ H w) (hf:Fresh ρ H H'.next)
 (hk:∀v' ρ' w',VR ρ' v v'->HR ρ' H' w'->Ext ρ H w ρ' H' w'->K (a.put o.dst v') w'):o.wpIn (FR r0) 0 P a w K Q:=by
 have hdf:=h.nodefer
 obtain ⟨c,x,A,n,prm,asg,body,tl,args,tl0,tl1,H1,xo,tl2,H2,hop,hcal,hx,hargs,hA,hlen,hra,hrb,hp,hd1,hd2,rfl,rfl⟩:=h
 refine ⟨fun f _=>trivial,?_⟩
 rw [Oper.semAt_eq _ _ _ hdf]
 have hx':=evalO_VR ht hx
 have ha':=evalOs_VR ht hargs
 generalize hfx:a.eval x=fx at hx'
 cases hx' with | yf _ B d N hρ=>
 have hb:BR ρ (.lp 0 n prm asg body tl) (B,d,N) w:=by
  rcases hh.live A _ hA with ⟨y,hy,hb⟩ | ⟨hv,_⟩
  · rw [hρ] at hy;simp at hy;subst hy;exact hb
  · exact hv.elim
 obtain ⟨r,h1,h2,h3,h4,h5,h6,h7⟩:=hb
 subst h3 h4 h5 h6
 have hlen':(c.args.map a.eval).size=r.params.size:=by
  have:=ha'.length
  simp at this⊢;omega
 have hrun:(execOp a.eval o).run P w=.ok (.round B r.fn ((r.params.zip (c.args.map a.eval)).foldl (fun tmps (t,a)=>tmps.setIfInBounds t a) r.tmps) r.assign r.body) w:=by
  unfold execOp
  rw [hop]
  simp only [resolve,hcal,hfx,Deferred.ofValue,Sem.run_bind,Sem.run_pure,Result.andThen_ok,invoke,Array.empty_append,Array.append_empty]
  simpa using run_yield (P:=P) h1 hlen'
 rw [hrun]
 refine ⟨fun h=>(by cases h),roundIn_of_wpIn trivial ?_⟩
 have drop:∀B o,(H.upd A none).get B=some o->H.get B=some o:=by
  intro B o h;rw [AH.get_upd] at h;split at h
  · simp at h
  · exact h
 have hh0:HR ρ (H.upd A none) w:=hh.sub drop
 have aw0:Away ρ (H.upd A none) w B:=by
  refine ⟨heap_lt h1,fun A' o' x' hA' hx' he=>?_,fun j u hu=>?_⟩
  · have:=hh.inj A' A o' _ x' _ (drop _ _ hA') hA hx' hρ he
    subst this
    rw [AH.get_upd,if_pos rfl] at hA';simp at hA'
  · exact hh.rox B j u hu A _ _ hA hρ rfl
 have ht0:TR ρ tl0 r.tmps.size ((r.params.zip (c.args.map a.eval)).foldl (fun tmps (t,a)=>tmps.setIfInBounds t a) r.tmps):=by
  have:=putAll_TR r.params.toList args (c.args.toList.map a.eval) tl tl0 r.tmps ha' ⟨rfl,h7⟩ hp
  have e:(r.params.zip (c.args.map a.eval)).foldl (fun tmps (t,a)=>tmps.setIfInBounds t a) r.tmps=(r.params.toList.zip (c.args.toList.map a.eval)).foldl (fun tmps (t,a)=>tmps.setIfInBounds t a) r.tmps:=by
   rw [<-Array.foldl_toList];simp
  rw [e];exact this
 have hl1:=hd1.1.next
 have hl2:=hd2.1.next
 have hRa:RfOk (some B) r.assign:=fun q=>by rw [hra] at q;simp at q
 have hRb:RfOk (some B) r.body:=fun q=>by rw [hrb] at q;simp at q
 refine hd1.2 (some B) hRa ρ _ w _ ht0 hh0 (Fresh.left (N:=H2.next) hf hl2) ?_
 intro a1 w1 ρ1 ht1 hdf1 hh1 he1
 have aw1:=aw0.ext he1
 have hB1:w1.heap[B]? =some (.loop r):=(aw0.heap he1).trans h1
 refine ⟨_,run_beginRound hB1 h2.1,?_⟩
 have hh1':=hh1.away (b:=.loop { r with state:=.busy}) aw1
 refine hd2.2 (some B) hRb ρ1 a1 _ _ ht1 hh1' (Fresh.right (show Fresh ρ (H.upd A none) H2.next from hf) he1) ?_
 intro a2 w2 ρ2 ht2 hdf2 hh2 he2
 have aw1':=aw1.put (b:=.loop { r with state:=.busy})
 have aw2:=aw1'.ext he2
 have hB2:w2.heap[B]? =some (.loop { r with state:=.busy}):=(aw1'.heap he2).trans (World.putObj_heap_same aw1.lt)
 have hle:Rho.le ρ ρ2:=he1.ext.trans he2.ext
 have go:∀(j:Option Code),lpAt xo.code { r with state:=if j.isNone then .ready else .done,pending:=j}->j.isNone=xo.isNrm->
  ∃v w',(Instr.endRound B j).run P w2=.ok v w'/\K (a.put o.dst v) w':=by
  intro j hj hjn
  refine ⟨_,_,run_endRound j hB2,hk _ ρ2 _ (by rw [hjn];exact .b _) ?_ (Ext.round (x:=(B,d,N)) hA hρ he1 aw1 he2)⟩
  refine HR.back (x:=(B,d,N)) hh2 aw2 (hle.nm _ _ hρ) ⟨_,World.putObj_heap_same aw2.lt,hj,rfl,rfl,rfl,rfl,fun t u hu=>(h7 t u hu).mono hle⟩
 cases xo with
 | nrm=>exact go none ⟨rfl,rfl⟩ rfl
 | ret=>exact go (some .ret) ⟨rfl,rfl⟩ rfl
 | exit id=>exact go (some (.exit id)) ⟨rfl,rfl⟩ rfl
theorem HR.alloc {ρ:Rho} {H:AH} {w:World} (b:Obj) (h:HR ρ H w):HR ρ H (w.alloc b)/\Ext ρ H w ρ H (w.alloc b):=by
 have hk:∀B,B<w.heap.size->(w.alloc b).heap[B]? =w.heap[B]?:=by
  intro B hB
  show (w.heap.push b)[B]? = _
  rw [Array.getElem?_push,if_neg (by omega)]
 have hs:(w.alloc b).heap.size=w.heap.size+1:=by show (w.heap.push b).size= _;simp
 refine ⟨⟨fun A o hA=>?_,h.inj,fun A x hx=>by have:=h.range A x hx;omega,fun B j v hv=>?_,h.rox⟩,⟨Nat.le_refl _,.refl _,fun _ _ h=>.inl h,by omega,fun B hB _=>hk B hB,fun A o x hA hx=>.inr ⟨A,o,x,hA,hx,rfl⟩,fun _ _ _ h=>.inl h,rfl,rfl,rfl⟩⟩
 · rcases h.live A o hA with ⟨x,hx,hb⟩ | hv
   · exact .inl ⟨x,hx,hb.congr (hk _ (h.range A x hx))⟩
   · exact .inr hv
 · rw [hk B (h.rolt hv)];exact h.ro B j v hv
theorem lpAt_idle {st:Nat} {r:Loop} (h:lpAt st r):r.state≠.busy:=by
 match st,h with
 | 0,h=>rw [h.1];simp
 | 1,h=>rw [h.1];simp
 | id+2,h=>rw [h.1];simp
theorem range_does {P:Program} {g:Operand} {ps ps':Array Tmp} {asg body asg' body':Code} {gf:FuncId} {fs cs:List AV} {n n':Nat} {tm tm':T AV} {H H2:AH} {v:AV} {st:Nat}
 (hx:evalO tm g=some (.fn (.func gf) fs cs)) (hok:okFn P gf=true) (hc:CallDoes P gf (fs ++ [.yf H.next] ++ cs) (H.new (.lp 0 n ps asg body tm)) v H2)
 (hr:H2.get H.next=some (.lp st n' ps' asg' body' tm')):DoesT P (.code (.rangeFunc g ps asg body) n tm H) (.st (XO.ofCode st) tm (H2.upd H.next none)):=by
 have hn2:H.next+1<=H2.next:=hc.1.next
 refine ⟨((Lg.new _ _).trans hc.1).trans (.upd _ _ _),?_⟩
 intro r0 hro ρ a w Q ht hh hf hQ
 have hr0:r0=none:=hro rfl
 subst hr0
 refine wpIn_rangeFunc fun fn _=>?_
 have hx':=evalO_VR ht hx
 generalize hfx:a.eval g=fx at hx'
 cases hx' with | fn _ _ _ fs' cs' hfs hcs=>
 obtain ⟨hhA,heA⟩:=hh.alloc (.deferred (some []))
 have hsA:(w.alloc (.deferred (some []))).heap.size=w.heap.size+1:=by show (w.heap.push _).size= _;simp
 have hfn:ρ H.next=none:=hf H.next (Nat.le_refl _) (by show H.next<H2.next;omega)
 obtain ⟨hh1,he1⟩:=hhA.new (N:=0) (o':=.lp 0 n ps asg body tm)
  (w':=(w.alloc (.deferred (some []))).alloc (.loop { state:=.ready,pending:=none,fn:=fn,tmps:=a.tmps,params:=ps,assign:=asg,body:=body,defers:=w.heap.size}))
  hfn ⟨_,World.alloc_heap_new _ _,⟨rfl,rfl⟩,rfl,rfl,rfl,ht.size,fun t u hu=>(ht.get t u hu).mono (Rho.add_le hfn)⟩
  (fun B hB=>by
    show ((w.alloc _).heap.push _)[B]? = _
    rw [Array.getElem?_push,if_neg (by omega)])
  (by show ((w.alloc _).heap.push _).size= _;simp) rfl rfl rfl
 have hE:=run_enterLoop_outer (P:=P) (w:=w) fn a.tmps ps asg body
 have hdW:((w.alloc (.deferred (some []))).alloc (.loop { state:=.ready,pending:=none,fn:=fn,tmps:=a.tmps,params:=ps,assign:=asg,body:=body,defers:=w.heap.size})).heap[w.heap.size]? =some (.deferred (some [])):=by
  show ((w.heap.push _).push _)[w.heap.size]? = _
  simp [Array.getElem?_push]
 rw [hsA] at hh1 he1
 have heB:=heA.trans he1
 clear heA he1 hhA hsA
 generalize (w.alloc (.deferred (some []))).alloc (.loop { state:=.ready,pending:=none,fn:=fn,tmps:=a.tmps,params:=ps,assign:=asg,body:=body,defers:=w.heap.size})=wB at hh1 heB hE hdW
 have hfr1:=Fresh.right (show Fresh ρ H H2.next from hf) heB
 have hyf:VR (ρ.add H.next (w.heap.size+1,0,0)) (.yf H.next) (.func (.yield (w.heap.size+1)) #[] #[]):=
  .yf _ _ 0 0 (Rho.add_same _ _ _)
 have hvs:=VRs.append (VRs.append (hfs.mono (Rho.add_le hfn)) (.cons _ _ _ _ hyf .nil)) (hcs.mono (Rho.add_le hfn))
 have hR:(resolve a.eval (rangeCall g (w.heap.size+1)) 0).run P wB=.ok { target:=.fn (.func gf) cs'.toArray,args:=fs'.toArray ++ #[.func (.yield (w.heap.size+1)) #[] #[]]} wB:=by
  have hv:a.eval (.const (.func (.yield (w.heap.size+1)) #[] #[]))=.func (.yield (w.heap.size+1)) #[] #[]:=rfl
  simp only [resolve,rangeCall,hfx,Deferred.ofValue,Sem.run_bind,Sem.run_pure,Result.andThen_ok,List.map_toArray,List.map_cons,List.map_nil,hv]
 have hI:(invoke (.fn (.func gf) cs'.toArray) (fs'.toArray ++ #[.func (.yield (w.heap.size+1)) #[] #[]])).run P wB=.ok (.enter gf (fs' ++ [Value.func (.yield (w.heap.size+1)) #[] #[]] ++ cs').toArray) wB:=by
  have he:fs'.toArray ++ #[.func (.yield (w.heap.size+1)) #[] #[]] ++ cs'.toArray=(fs' ++ [Value.func (.yield (w.heap.size+1)) #[] #[]] ++ cs').toArray:=by
   apply Array.ext';simp
  simp only [invoke,he]
  exact (run_callFunc hok).1
 have hC:=hc.2 _ _ _ hvs hh1 hfr1
 refine ⟨w.heap.size+1,_,wB,{ target:=.fn (.func gf) cs'.toArray,args:=fs'.toArray ++ #[.func (.yield (w.heap.size+1)) #[] #[]]},wB,gf,_,wB,hE,hR,fun _ _=>trivial,hI,fun h=>(by cases h),callsIn_FR.2 (hC.mono ?_)⟩
 clear hC hI hR hE
 rintro e w2 ⟨v',ρ2,rfl,hv2,hh2,he2⟩
 have hρ2:=he2.ext.nm _ _ (Rho.add_same ρ H.next (w.heap.size+1,0,0))
 have hb:BR ρ2 (.lp st n' ps' asg' body' tm') (w.heap.size+1,0,0) w2:=by
  rcases hh2.live _ _ hr with ⟨y,hy,hb⟩ | ⟨hv,_⟩
  · rw [hρ2] at hy;simp at hy;subst hy;exact hb
  · exact hv.elim
 obtain ⟨r,h1,h2,_⟩:=hb
 have drop:∀B o,(H2.upd H.next none).get B=some o->H2.get B=some o:=by
  intro B o h;rw [AH.get_upd] at h;split at h
  · simp at h
  · exact h
 have aw:Away ρ2 (H2.upd H.next none) w2 (w.heap.size+1):=by
  refine ⟨heap_lt h1,fun A' o' x' hA' hx' he=>?_,fun j u hu=>?_⟩
  · have:=hh2.inj A' _ o' _ x' _ (drop _ _ hA') hr hx' hρ2 he
    subst this
    rw [AH.get_upd,if_pos rfl] at hA';simp at hA'
  · exact hh2.rox _ j u hu _ _ _ hr hρ2 rfl
 have hh4:=(hh2.sub drop).away (b:=.loop { r with state:=.exhausted}) aw
 have he4:Ext ρ H w ρ2 (H2.upd H.next none) (w2.putObj (w.heap.size+1) (.loop { r with state:=.exhausted})):=by
  refine Ext.shut (Ds:=[w.heap.size+1]) ((heB.trans he2).sub drop rfl) (fun D hD=>by simp at hD;omega) ⟨World.putObj_size,fun B hB=>?_,rfl,rfl,rfl⟩
  exact World.putObj_heap_other (by simpa using hB)
 have hdf:Dfr a.defers w ([{ target:=.collected w.heap.size,args:=#[]}] ++ a.defers) (w2.putObj (w.heap.size+1) (.loop { r with state:=.exhausted})):=by
  refine ⟨[w.heap.size],rfl,by simp,fun D hD=>?_⟩
  simp at hD;subst hD
  refine ⟨Nat.le_refl _,?_⟩
  rw [World.putObj_heap_other (by omega),he2.frame _ (heap_lt hdW) (hh1.notDef hdW)]
  exact hdW
 have hq:=hQ { a with defers:=[{ target:=.collected w.heap.size,args:=#[]}] ++ a.defers} _ ρ2 (ht.mono he4.ext) hdf hh4 he4
 refine ⟨_,_,run_endLoop h1 (lpAt_idle h2),?_⟩
 match st,h2,hq with
 | 0,h2,hq=>rw [h2.2] at hq⊢;exact hq
 | 1,h2,hq=>rw [h2.2] at hq⊢;exact wpIn_ret hq
 | id+2,h2,hq=>rw [h2.2] at hq⊢;exact wpIn_exit hq
end Go.Sim
