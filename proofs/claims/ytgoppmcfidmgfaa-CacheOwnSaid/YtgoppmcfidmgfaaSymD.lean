/- Runs over unknown values, told by the kernel: part SymD. -/
import Derived.Test.YtgoppmcfidmgfaaSymC
set_option linter.unusedSimpArgs false
set_option linter.unusedVariables false
/- Operations over values that are not known: what each answers, and what must hold for it. -/
namespace Go.Sim
open Go
noncomputable def toAV:CV->AV
 | .b x=>.b x
 | .i k n=>.i k n
 | .s l=>.s l
 | .p0=>.p0
 | .m0=>.m0
 | .f0=>.f0
 | .if0=>.if0
 | .ifc t v=>.ifc t (toAV v)
 | .sv sz n f=>.sv sz n f
 | .opv q0 sz f=>.opv q0 sz f
theorem toAV_VR {ρ:Rho}:∀{c:CV} {v:Value},CR ρ.ro c v->VR ρ (toAV c) v
 | _,_,.b x=>.b x
 | _,_,.i k n=>.i k n
 | _,_,.s l s1 e1=>.s l s1 e1
 | _,_,.p0=>.p0
 | _,_,.m0=>.m0
 | _,_,.f0=>.f0
 | _,_,.if0=>.if0
 | _,_,.ifc t v v' a=>.ifc t _ v' (toAV_VR a)
 | _,_,.sv0 sz f=>.sv _ _ _ _ (.sv0 sz f)
 | _,_,.svz sz f a c=>.sv _ _ _ _ (.svz sz f a c)
 | _,_,.sv sz n f B o cap g a b c=>.sv _ _ _ _ (.sv sz n f B o cap g a b c)
 | _,_,.op0 sz f=>.opv _ _ _ _ (.op0 sz f)
 | _,_,.op1 sz f B o g a1 a2=>.opv _ _ _ _ (.op1 sz f B o g a1 a2)
theorem toAV_one (c:CV):(toAV c).one=true:=by cases c<;>rfl
noncomputable def ofAV (esz:Nat):AV->Option CV
 | .b x=>some (.b x)
 | .i k n=>some (.i k n)
 | .s l=>some (.s l)
 | .p0=>some .p0
 | .m0=>some .m0
 | .f0=>some .f0
 | .if0=>some .if0
 | .l0=>some (.sv esz 0 fun _ _=>.p0)
 | .ifc t v=>ob (ofAV esz v) fun c=>some (.ifc t c)
 | .sv sz n f=>some (.sv sz n f)
 | .opv q0 sz f=>some (.opv q0 sz f)
 | .pv sz f=>some (.opv true sz f)
 | _=>none
theorem ofAV_CR {ρ:Rho} {esz:Nat}:∀{a:AV} {c:CV} {v:Value},ofAV esz a=some c->VR ρ a v->CR ρ.ro c v
 | .b x,c,v,h,hv=>by simp [ofAV] at h;subst h;cases hv;exact .b _
 | .i k n,c,v,h,hv=>by simp [ofAV] at h;subst h;cases hv;exact .i _ _
 | .s l,c,v,h,hv=>by simp [ofAV] at h;subst h;cases hv with | s _ _ e=>exact .s _ _ e
 | .p0,c,v,h,hv=>by simp [ofAV] at h;subst h;cases hv;exact .p0
 | .m0,c,v,h,hv=>by simp [ofAV] at h;subst h;cases hv;exact .m0
 | .f0,c,v,h,hv=>by simp [ofAV] at h;subst h;cases hv;exact .f0
 | .if0,c,v,h,hv=>by simp [ofAV] at h;subst h;cases hv;exact .if0
 | .l0,c,v,h,hv=>by simp [ofAV] at h;subst h;cases hv;exact .sv0 _ _
 | .ifc t x,c,v,h,hv=>by
   simp only [ofAV,ob_some] at h
   obtain ⟨c1,h1,h2⟩:=h
   simp at h2;subst h2
   cases hv with | ifc _ _ v1 hx=>exact .ifc _ _ _ (ofAV_CR h1 hx)
 | .sv sz n f,c,v,h,hv=>by simp [ofAV] at h;subst h;cases hv with | sv _ _ _ _ hc=>exact hc
 | .p _ _,c,v,h,hv=>by simp [ofAV] at h
 | .lz,c,v,h,hv=>by simp [ofAV] at h
 | .l ..,c,v,h,hv=>by simp [ofAV] at h
 | .m _,c,v,h,hv=>by simp [ofAV] at h
 | .fn ..,c,v,h,hv=>by simp [ofAV] at h
 | .agg _,c,v,h,hv=>by simp [ofAV] at h
 | .tup _,c,v,h,hv=>by simp [ofAV] at h
 | .pv sz f,c,v,h,hv=>by simp [ofAV] at h;subst h;cases hv with | pv _ _ B o g a b=>exact .op1 _ _ B o g a b
 | .opv q0 sz f,c,v,h,hv=>by simp [ofAV] at h;subst h;cases hv with | opv _ _ _ _ hc=>exact hc
 | .ps ..,c,v,h,hv=>by simp [ofAV] at h
 | .pr ..,c,v,h,hv=>by simp [ofAV] at h
 | .lr ..,c,v,h,hv=>by simp [ofAV] at h
noncomputable def ofAVs (esz:Nat) (l:List AV):Option (List CV):=
 List.rec (motive:=fun _=>Option (List CV)) (some []) (fun a _ ih=>ob (ofAV esz a) fun c=>ob ih fun r=>some (c :: r)) l
theorem ofAVs_nil (esz:Nat):ofAVs esz []=some []:=rfl
theorem ofAVs_cons (esz:Nat) (a:AV) (l:List AV):ofAVs esz (a :: l)=ob (ofAV esz a) fun c=>ob (ofAVs esz l) fun r=>some (c :: r):=rfl
theorem ofAVs_CR {ρ:Rho} {esz:Nat}:∀{l:List AV} {r:List CV} {vs:List Value},ofAVs esz l=some r->VRs ρ l vs->r.length=vs.length/\∀(i:Nat) (c:CV),r[i]? =some c->∃v,vs[i]? =some v/\CR ρ.ro c v
 | [],r,vs,h,hv=>by simp [ofAVs_nil] at h;subst h;cases hv;simp
 | a :: l,r,vs,h,hv=>by
   simp only [ofAVs_cons,ob_some] at h
   obtain ⟨c,hc,r',hr,e⟩:=h
   simp at e;subst e
   cases hv with | cons _ v _ vs' h1 h2=>
   obtain ⟨k1,k2⟩:=ofAVs_CR hr h2
   refine ⟨by simp [k1],?_⟩
   intro i c' hc'
   cases i with
   | zero=>simp at hc';subst hc';exact ⟨v,by simp,ofAV_CR hc h1⟩
   | succ i=>simp at hc';obtain ⟨v2,a1,a2⟩:=k2 i c' hc';exact ⟨v2,by simpa using a1,a2⟩
noncomputable def zipCV (c:Bool):CV->CV->CV
 | .b x,.b y=>.b (bif c then x else y)
 | .i k x,.i k' y=>match decide (k=k') with
   | true=>.i k (bif c then x else y)
   | false=>bif c then .i k x else .i k' y
 | .s x,.s y=>.s (bif c then x else y)
 | .p0,.p0=>.p0
 | .m0,.m0=>.m0
 | .f0,.f0=>.f0
 | .if0,.if0=>.if0
 | .sv sz n f,.sv sz' n' f'=>match Nat.beq sz sz' with
   | true=>.sv sz (bif c then n else n') fun i j=>zipCV c (f i j) (f' i j)
   | false=>bif c then .sv sz n f else .sv sz' n' f'
 | .opv b sz f,.opv b' sz' f'=>match Nat.beq sz sz' with
   | true=>.opv (bif c then b else b') sz fun j=>zipCV c (f j) (f' j)
   | false=>bif c then .opv b sz f else .opv b' sz' f'
 | .opv b sz f,.p0=>.opv (bif c then b else false) sz f
 | x,y=>bif c then x else y
theorem zipCV_CR {ro:Nat->Nat->Option Value} (c:Bool):∀(a b:CV) (v:Value),CR ro (bif c then a else b) v->CR ro (zipCV c a b) v:=by
 intro a
 induction a with
 | sv sz n f ih=>
   intro b v h
   cases b<;>try exact h
   rename_i sz' n' f'
   simp only [zipCV]
   split
   · rename_i e
     have e':=Nat.eq_of_beq_eq_true e
     subst e'
     cases c with
     | true=>
       simp only [cond_true] at h⊢
       cases h with
       | sv0=>exact .sv0 _ _
       | svz=>exact .svz _ _ _ _
       | sv _ _ _ B o cap g a1 a2 a3=>exact .sv _ _ _ B o cap g a1 a2 fun i j hi hj=>ih i j _ _ (a3 i j hi hj)
     | false=>
       simp only [cond_false] at h⊢
       cases h with
       | sv0=>exact .sv0 _ _
       | svz=>exact .svz _ _ _ _
       | sv _ _ _ B o cap g a1 a2 a3=>exact .sv _ _ _ B o cap g a1 a2 fun i j hi hj=>ih i j _ _ (a3 i j hi hj)
   · exact h
 | i k n=>
   intro b v h
   cases b<;>try exact h
   rename_i k' n'
   simp only [zipCV]
   split
   · rename_i e
     simp at e;subst e
     cases c<;>exact h
   · exact h
 | opv b0 sz f ih=>
   intro b v h
   cases b with
   | opv b1 sz' f'=>
     simp only [zipCV]
     split
     · rename_i e
       have e':=Nat.eq_of_beq_eq_true e
       subst e'
       cases c with
       | true=>
         simp only [cond_true] at h⊢
         cases h with
         | op0=>exact .op0 _ _
         | op1 _ _ B o g a1 a2=>exact .op1 _ _ B o g a1 fun j hj=>ih j _ _ (a2 j hj)
       | false=>
         simp only [cond_false] at h⊢
         cases h with
         | op0=>exact .op0 _ _
         | op1 _ _ B o g a1 a2=>exact .op1 _ _ B o g a1 fun j hj=>ih j _ _ (a2 j hj)
     · exact h
   | p0=>
     cases c with
     | true=>exact h
     | false=>cases h;exact .op0 _ _
   | _=>exact h
 | b x=>intro b v h;cases b<;>cases c<;>exact h
 | s x=>intro b v h;cases b<;>cases c<;>exact h
 | p0=>intro b v h;cases b<;>cases c<;>exact h
 | m0=>intro b v h;cases b<;>cases c<;>exact h
 | f0=>intro b v h;cases b<;>cases c<;>exact h
 | if0=>intro b v h;cases b<;>cases c<;>exact h
 | ifc t x ih=>intro b v h;cases b<;>cases c<;>exact h
noncomputable def zipAV (c:Bool) (a b:AV):Option AV:=
 match a,b with
 | .b x,.b y=>some (.b (bif c then x else y))
 | .i k x,.i k' y=>og (decide (k=k')) (some (.i k (bif c then x else y)))
 | .s x,.s y=>some (.s (bif c then x else y))
 | .sv sz n f,.sv sz' n' f'=>some (toAV (zipCV c (.sv sz n f) (.sv sz' n' f')))
 | .opv b sz f,.opv b' sz' f'=>some (toAV (zipCV c (.opv b sz f) (.opv b' sz' f')))
 | _,_=>none
theorem zipAV_VR {ρ:Rho} {c:Bool} {a b r:AV} {v:Value} (h:zipAV c a b=some r) (hv:VR ρ (bif c then a else b) v):VR ρ r v/\r.one=true:=by
 unfold zipAV at h
 split at h
 · simp at h;subst h;cases c<;>exact ⟨hv,rfl⟩
 · simp only [og_some] at h
   obtain ⟨hk,e⟩:=h
   simp at hk e;subst hk;subst e
   cases c<;>exact ⟨hv,rfl⟩
 · simp at h;subst h;cases c<;>exact ⟨hv,rfl⟩
 · rename_i sz n f sz' n' f'
   simp at h;subst h
   refine ⟨toAV_VR (zipCV_CR c _ _ v ?_),toAV_one _⟩
   cases c<;>(cases hv with | sv _ _ _ _ q=>exact q)
 · rename_i b sz f b' sz' f'
   simp at h;subst h
   refine ⟨toAV_VR (zipCV_CR c _ _ v ?_),toAV_one _⟩
   cases c<;>(cases hv with | opv _ _ _ _ q=>exact q)
 · simp at h
noncomputable def appF (n:Nat) (f g:Nat->Nat->CV) (i j:Nat):CV:=zipCV (Nat.blt i n) (f i j) (g (i-n) j)
noncomputable def setRow (f:Nat->Nat->CV) (i o:Nat) (cs:List CV) (i' j':Nat):CV:=
 match Nat.ble o j' with
 | true=>match cs[j'-o]? with
   | some c=>zipCV (Nat.beq i' i) c (f i' j')
   | none=>f i' j'
 | false=>f i' j'
noncomputable def addN (a b:Nat):Nat:=Nat.rec (motive:=fun _=>Nat) b (fun _ _=>a+b) a
theorem addN_eq (a b:Nat):addN a b=a+b:=by
 cases a with
 | zero=>exact (Nat.zero_add b).symm
 | succ a=>rfl
def InR:IntKind->Int->Prop
 | .i8,n=>-128<=n/\n<=127
 | .i16,n=>-32768<=n/\n<=32767
 | .i32,n=>-2147483648<=n/\n<=2147483647
 | .i64,n=>-9223372036854775808<=n/\n<=9223372036854775807
 | .u8,n=>0<=n/\n<=255
 | .u16,n=>0<=n/\n<=65535
 | .u32,n=>0<=n/\n<=4294967295
 | .u64,n=>0<=n/\n<=18446744073709551615
theorem InR.wrap {k:IntKind} {n:Int} (h:InR k n):k.wrap n=n:=by
 cases k
 · exact IntWalk.i8_in n h
 · exact IntWalk.i16_in n h
 · exact IntWalk.i32_in n h
 · exact IntWalk.i64_in n h
 · exact IntWalk.u8_in n h
 · exact IntWalk.u16_in n h
 · exact IntWalk.u32_in n h
 · exact IntWalk.u64_in n h
noncomputable def arith (op:BinOp) (k:IntKind) (a b:Int):Option (AV×Prop):=
 match op with
 | .add=>match k.signed with
   | true=>some (.i k (a+b),InR k (a+b))
   | false=>some (.i k (wrapA k (a+b)),True)
 | .sub=>match k.signed with
   | true=>some (.i k (a-b),InR k (a-b))
   | false=>some (.i k (wrapA k (a-b)),True)
 | .mul=>match k.signed with
   | true=>some (.i k (a*b),InR k (a*b))
   | false=>some (.i k (wrapA k (a*b)),True)
 | .quo=>some (.i k (a.tdiv b),b≠0/\InR k (a.tdiv b))
 | .rem=>some (.i k (a.tmod b),b≠0)
 | op=>match intBin op k a b with
   | some v=>some (v,True)
   | none=>none
noncomputable def shiftS (op:BinOp) (k:IntKind) (a b:Int):Option (AV×Prop):=
 match op with
 | .shl=>some (.i k (wrapA k (a*2 ^ (min b.toNat k.bits))),0<=b)
 | .shr=>some (.i k (a.fdiv (2 ^ (min b.toNat k.bits))),0<=b)
 | _=>none
theorem arith_sound {P:Program} {op:BinOp} {t:TypeId} {k:IntKind} {a b:Int} {r:AV} {p:Prop} {ρ:Rho} {w:World} (hs:isShift op=false) (h:arith op k a b=some (r,p)) (hp:p) :
 ∃v',(binOp op t (.int k a) (.int k b)).run P w=.ok v' w/\VR ρ r v':=by
 have base:∀v,intBin op k a b=some v->r=v->∃v',(binOp op t (.int k a) (.int k b)).run P w=.ok v' w/\VR ρ r v':=fun v hv e=>by subst e;exact intBin_sound hs hv
 unfold arith at h
 split at h
 · split at h
   · simp only [Option.some.injEq,Prod.mk.injEq] at h;obtain ⟨rfl,rfl⟩:=h;exact base (.i k (wrapA k (a+b))) rfl (by rw [wrapA_eq,hp.wrap])
   · simp only [Option.some.injEq,Prod.mk.injEq] at h;obtain ⟨rfl,rfl⟩:=h;exact base _ rfl rfl
 · split at h
   · simp only [Option.some.injEq,Prod.mk.injEq] at h;obtain ⟨rfl,rfl⟩:=h;exact base (.i k (wrapA k (a-b))) rfl (by rw [wrapA_eq,hp.wrap])
   · simp only [Option.some.injEq,Prod.mk.injEq] at h;obtain ⟨rfl,rfl⟩:=h;exact base _ rfl rfl
 · split at h
   · simp only [Option.some.injEq,Prod.mk.injEq] at h;obtain ⟨rfl,rfl⟩:=h;exact base (.i k (wrapA k (a*b))) rfl (by rw [wrapA_eq,hp.wrap])
   · simp only [Option.some.injEq,Prod.mk.injEq] at h;obtain ⟨rfl,rfl⟩:=h;exact base _ rfl rfl
 · simp only [Option.some.injEq,Prod.mk.injEq] at h;obtain ⟨rfl,rfl⟩:=h
   exact base (.i k (wrapA k (a.tdiv b))) (by simp [intBin,hp.1]) (by rw [wrapA_eq,hp.2.wrap])
 · simp only [Option.some.injEq,Prod.mk.injEq] at h;obtain ⟨rfl,rfl⟩:=h
   exact base (.i k (a.tmod b)) (by have hp':b≠0:=hp;simp [intBin,hp']) rfl
 · split at h
   · rename_i v hv
     simp only [Option.some.injEq,Prod.mk.injEq] at h;obtain ⟨rfl,rfl⟩:=h
     exact base _ hv rfl
   · simp at h
theorem shiftS_sound {P:Program} {op:BinOp} {t:TypeId} {k k':IntKind} {a b:Int} {r:AV} {p:Prop} {ρ:Rho} {w:World} (hs:isShift op=true) (h:shiftS op k a b=some (r,p)) (hp:p) :
 ∃v',(binOp op t (.int k a) (.int k' b)).run P w=.ok v' w/\VR ρ r v':=by
 have hb:decide (b<0)=false:=by
  unfold shiftS at h
  split at h
  · simp only [Option.some.injEq,Prod.mk.injEq] at h;obtain ⟨_,rfl⟩:=h;have:0<=b:=hp;simp;omega
  · simp only [Option.some.injEq,Prod.mk.injEq] at h;obtain ⟨_,rfl⟩:=h;have:0<=b:=hp;simp;omega
  · simp at h
 refine shiftA_sound hs (r:=r) ?_
 unfold shiftA
 rw [hb]
 unfold shiftS at h
 split at h
 · simp only [Option.some.injEq,Prod.mk.injEq] at h;rw [h.1]
 · simp only [Option.some.injEq,Prod.mk.injEq] at h;rw [h.1]
 · simp at h
noncomputable def eqFsS (P:Program) (rec:TypeId->AV->AV->Option Bool) (xs ys:List AV):List Field->Option Bool
 | []=>some true
 | f :: r=>match decide (f.name≠"_") with
   | false=>eqFsS P rec xs ys r
   | true=>ob (partA P f.type xs f.offset) fun a=>ob (partA P f.type ys f.offset) fun b=>ob (rec f.type a b) fun q=>ob (eqFsS P rec xs ys r) fun q2=>some (q && q2)
noncomputable def eqEsS (P:Program) (rec:AV->AV->Option Bool) (e:TypeId) (n:Nat) (xs ys:List AV):Nat->Nat->Option Bool
 | 0,_=>some true
 | k+1,i=>ob (partA P e xs (i*n)) fun a=>ob (partA P e ys (i*n)) fun b=>ob (rec a b) fun q=>ob (eqEsS P rec e n xs ys k (i+1)) fun q2=>some (q && q2)
noncomputable def nzB (n:Nat):Option Bool:=Nat.rec (motive:=fun _=>Option Bool) none (fun _ _=>some false) n
noncomputable def eqTS (P:Program):Nat->TypeId->AV->AV->Option Bool
 | 0,_,_,_=>none
 | d+1,t,x,y=>match P.underlying t with
   | some (.struct fs)=>match x,y with
     | .agg xs,.agg ys=>og (!P.stoodInHeld t) (eqFsS P (eqTS P d) xs ys fs.toList)
     | _,_=>none
   | some (.array k e)=>match x,y with
     | .agg xs,.agg ys=>ob (infoSize P e) fun n=>eqEsS P (eqTS P d e) e n xs ys k 0
     | _,_=>none
   | some (.slice _)=>match x,y with
     | .sv _ n _,.l0=>nzB n
     | .lr _ _ _ n _,.l0=>nzB n
     | x,y=>eqT P (d+1) t x y
   | some (.pointer _)=>match x,y with
     | .opv b _ _,.p0=>some (!b)
     | x,y=>eqT P (d+1) t x y
   | _=>eqT P (d+1) t x y
theorem eqFsS_sound {P:Program} {ρ:Rho} {w:World} {rec:TypeId->AV->AV->Option Bool} {D:Nat} (hrec:∀t x y b x' y',rec t x y=some b->VR ρ x x'->VR ρ y y'->(Op.equalIn D t x' y').run P w=.ok b w)
 {xs ys:List AV} {xs' ys':List Value} (hx:VRs ρ xs xs') (hy:VRs ρ ys ys'):∀(fs:List Field) (b:Bool),eqFsS P rec xs ys fs=some b->(Op.eqFields D xs'.toArray ys'.toArray fs).run P w=.ok b w
 | [],b,h=>by simp [eqFsS] at h;subst h;simp [Op.eqFields]
 | f :: r,b,h=>by
   simp only [eqFsS] at h
   simp only [Op.eqFields]
   split at h
   · rename_i hn
     simp only [decide_eq_false_iff_not] at hn
     rw [if_neg hn]
     exact eqFsS_sound hrec hx hy r b h
   · rename_i hn
     simp only [decide_eq_true_eq] at hn
     rw [if_pos hn]
     simp only [ob_some] at h
     obtain ⟨a,ha,c,hc,q,hq,q2,hq2,e⟩:=h
     simp at e;subst e
     obtain ⟨a',a1,a2⟩:=run_part (w:=w) ha hx
     obtain ⟨c',c1,c2⟩:=run_part (w:=w) hc hy
     simp only [Sem.run_bind,a1,c1,Result.andThen_ok,hrec _ _ _ _ _ _ hq a2 c2]
     cases q with
     | true=>simp;exact eqFsS_sound hrec hx hy r q2 hq2
     | false=>simp
theorem forIn_eqS {P:Program} {ρ:Rho} {w:World} {rec:AV->AV->Option Bool} {D:Nat} {e:TypeId} {n:Nat} (hrec:∀x y b x' y',rec x y=some b->VR ρ x x'->VR ρ y y'->(Op.equalIn D e x' y').run P w=.ok b w)
 {xs ys:List AV} {xs' ys':List Value} (hx:VRs ρ xs xs') (hy:VRs ρ ys ys'):∀(k i:Nat) (b:Bool),eqEsS P rec e n xs ys k i=some b->
   ((forIn (List.range' i k) ((none,()):Option Bool×Unit) fun i r=>do
     let a <-part e xs'.toArray (i*n)
     let c <-part e ys'.toArray (i*n)
     let q <-Op.equalIn D e a c
     if (!q)=true then pure (ForInStep.done (some false,()))
     else pure (ForInStep.yield (none,()))):Sem (Option Bool×Unit)).run P w=.ok (if b then (none,()) else (some false,())) w
 | 0,i,b,h=>by simp [eqEsS] at h;subst h;simp
 | k+1,i,b,h=>by
   simp only [eqEsS,ob_some] at h
   obtain ⟨a,ha,c,hc,q,hq,q2,hq2,e'⟩:=h
   simp at e';subst e'
   obtain ⟨a',a1,a2⟩:=run_part (w:=w) ha hx
   obtain ⟨c',c1,c2⟩:=run_part (w:=w) hc hy
   rw [List.range'_succ,List.forIn_cons]
   simp only [Sem.run_bind,a1,c1,Result.andThen_ok,hrec _ _ _ _ _ hq a2 c2]
   cases q with
   | true=>
     simp only [Bool.not_true,Bool.false_eq_true,if_false,Sem.run_pure,Result.andThen_ok]
     have:=forIn_eqS hrec hx hy k (i+1) q2 hq2
     simpa using this
   | false=>simp
theorem eqTS_sound {P:Program} {ρ:Rho} {w:World}:∀(d D:Nat) (t:TypeId) (x y:AV) (b:Bool) (x' y':Value),d<=D->eqTS P d t x y=some b->VR ρ x x'->VR ρ y y'->(Op.equalIn D t x' y').run P w=.ok b w
 | 0,D,t,x,y,b,x',y',_,h,_,_=>by simp [eqTS] at h
 | d+1,0,t,x,y,b,x',y',hd,_,_,_=>by omega
 | d+1,D+1,t,x,y,b,x',y',hd,h,hx,hy=>by
   have ih:∀(t:TypeId) (x y:AV) (b:Bool) (x' y':Value),eqTS P d t x y=some b->VR ρ x x'->VR ρ y y'->(Op.equalIn D t x' y').run P w=.ok b w:=fun t x y b x' y'=>eqTS_sound d D t x y b x' y' (by omega)
   simp only [eqTS] at h
   split at h
   · rename_i fs hu
     split at h
     · rename_i xs ys
       simp only [og_some] at h
       obtain ⟨hp,h⟩:=h
       simp at hp
       cases hx with | agg _ xs' hxs=>cases hy with | agg _ ys' hys=>
       rw [run_equalIn_struct w D t _ _ (by rw [fieldsOf_eq hu];exact hu) hp,fieldsOf_eq hu]
       exact eqFsS_sound (fun t x y b x' y'=>ih t x y b x' y') hxs hys _ _ h
     · simp at h
   · rename_i k e hu
     split at h
     · rename_i xs ys
       simp only [ob_some] at h
       obtain ⟨n,hn,h⟩:=h
       cases hx with | agg _ xs' hxs=>cases hy with | agg _ ys' hys=>
       simp only [Op.equalIn,Sem.run_bind,run_underlying' hu,Result.andThen_ok,run_sizeOf' hn,Std.Legacy.Range.forIn_eq_forIn_range']
       have hsz:(({ stop:=k,step_pos:=Nat.zero_lt_one}:Std.Legacy.Range)).size=k:=by simp [Std.Legacy.Range.size]
       rw [hsz]
       have key:=forIn_eqS (D:=D) (fun x y b x' y'=>ih e x y b x' y') hxs hys k 0 b h
       simp only [key,Result.andThen_ok]
       cases b<;>simp
     · simp at h
   · rename_i e hu
     split at h
     · rename_i sz n f
       cases n with
       | zero=>simp [nzB] at h
       | succ n=>
         have hb:b=false:=by
          have h':(some false:Option Bool)=some b:=h
          simpa using h'.symm
         subst hb
         cases hy
         cases hx with | sv _ _ _ _ hc=>
         cases hc with | sv _ _ _ B o cap g h1 h2 h3=>simp [Op.equalIn,run_underlying' hu]
     · rename_i A sz j n ex
       cases n with
       | zero=>simp [nzB] at h
       | succ n=>
         have hb:b=false:=by
          have h':(some false:Option Bool)=some b:=h
          simpa using h'.symm
         subst hb
         cases hy
         cases hx with | lr _ _ _ _ _ B d N cap' h1 h2 h3 h4=>simp [Op.equalIn,run_underlying' hu]
     · exact eqT_sound (d+1) (D+1) t _ _ b x' y' hd h hx hy
   · rename_i e hu
     split at h
     · rename_i q sz f
       have h':(!q)=b:=Option.some.inj h
       subst h'
       cases hy
       cases hx with | opv _ _ _ _ hc=>
       cases hc with
       | op0=>simp [Op.equalIn,run_underlying' hu]
       | op1=>simp [Op.equalIn,run_underlying' hu]
     · exact eqT_sound (d+1) (D+1) t _ _ b x' y' hd h hx hy
   · exact eqT_sound (d+1) (D+1) t x y b x' y' hd h hx hy
end Go.Sim
/- Operations over values that are not known, continued: cells, addresses, parts. -/
namespace Go.Sim
open Go
noncomputable def cvL (f:Nat->CV) (o m:Nat):List AV:=
 Nat.rec (motive:=fun _=>Nat->List AV) (fun _=>[]) (fun _ ih o=>toAV (f o) :: ih (o+1)) m o
theorem cvL_0 (f:Nat->CV) (o:Nat):cvL f o 0=[]:=rfl
theorem cvL_s (f:Nat->CV) (o m:Nat):cvL f o (m+1)=toAV (f o) :: cvL f (o+1) m:=rfl
theorem cvL_length (f:Nat->CV):∀(m o:Nat),(cvL f o m).length=m
 | 0,_=>rfl
 | m+1,o=>by simp [cvL_s,cvL_length f m]
theorem cvL_get (f:Nat->CV):∀(m o j:Nat) (a:AV),(cvL f o m)[j]? =some a->j<m/\a=toAV (f (o+j))
 | 0,o,j,a,h=>by simp [cvL_0] at h
 | m+1,o,0,a,h=>by simp [cvL_s] at h;exact ⟨by omega,by simpa using h.symm⟩
 | m+1,o,j+1,a,h=>by
   simp [cvL_s] at h
   obtain ⟨h1,h2⟩:=cvL_get f m (o+1) j a h
   exact ⟨by omega,by rw [h2];congr 2;omega⟩
noncomputable def intsA (k:IntKind) (l:List AV):Option (List Int):=
 List.rec (motive:=fun _=>Option (List Int)) (some []) (fun a _ ih=>match a with
  | .i k' n=>og (decide (k=k')) (ob ih fun r=>some (n :: r))
  | _=>none) l
noncomputable def boolsA (l:List AV):Option (List Bool):=
 List.rec (motive:=fun _=>Option (List Bool)) (some []) (fun a _ ih=>match a with
  | .b n=>ob ih fun r=>some (n :: r)
  | _=>none) l
noncomputable def strsA (l:List AV):Option (List (List Nat)):=
 List.rec (motive:=fun _=>Option (List (List Nat))) (some []) (fun a _ ih=>match a with
  | .s n=>ob ih fun r=>some (n :: r)
  | _=>none) l
noncomputable def selA (i:Nat) (l:List AV):Option AV:=
 match l with
 | .i k n :: _=>ob (intsA k l) fun ns=>some (.i k (ns.getD i 0))
 | .b n :: _=>ob (boolsA l) fun ns=>some (.b (ns.getD i false))
 | .s n :: _=>ob (strsA l) fun ns=>some (.s (ns.getD i []))
 | _=>none
theorem intsA_cons (k:IntKind) (x:AV) (l:List AV):intsA k (x :: l)=match x with | .i k' n=>og (decide (k=k')) (ob (intsA k l) fun r=>some (n :: r)) | _=>none:=rfl
theorem boolsA_cons (x:AV) (l:List AV):boolsA (x :: l)=match x with | .b n=>ob (boolsA l) fun r=>some (n :: r) | _=>none:=rfl
theorem strsA_cons (x:AV) (l:List AV):strsA (x :: l)=match x with | .s n=>ob (strsA l) fun r=>some (n :: r) | _=>none:=rfl
theorem intsA_get {k:IntKind}:∀{l:List AV} {ns:List Int},intsA k l=some ns->∀(i:Nat) (a:AV),l[i]? =some a->a=.i k (ns.getD i 0)
 | [],ns,h,i,a,ha=>by simp at ha
 | x :: l,ns,h,i,a,ha=>by
   have h':=h
   rw [intsA_cons] at h'
   split at h'
   · rename_i k' n
     simp only [og_some,ob_some] at h'
     obtain ⟨hk,r,hr,e⟩:=h'
     simp at hk e;subst hk;subst e
     cases i with
     | zero=>simp at ha;simp [<-ha]
     | succ i=>simp at ha;simpa using intsA_get hr i a ha
   · simp at h'
theorem boolsA_get:∀{l:List AV} {ns:List Bool},boolsA l=some ns->∀(i:Nat) (a:AV),l[i]? =some a->a=.b (ns.getD i false)
 | [],ns,h,i,a,ha=>by simp at ha
 | x :: l,ns,h,i,a,ha=>by
   have h':=h
   rw [boolsA_cons] at h'
   split at h'
   · simp only [ob_some] at h'
     obtain ⟨r,hr,e⟩:=h'
     simp at e;subst e
     cases i with
     | zero=>simp at ha;simp [<-ha]
     | succ i=>simp at ha;simpa using boolsA_get hr i a ha
   · simp at h'
theorem strsA_get:∀{l:List AV} {ns:List (List Nat)},strsA l=some ns->∀(i:Nat) (a:AV),l[i]? =some a->a=.s (ns.getD i [])
 | [],ns,h,i,a,ha=>by simp at ha
 | x :: l,ns,h,i,a,ha=>by
   have h':=h
   rw [strsA_cons] at h'
   split at h'
   · simp only [ob_some] at h'
     obtain ⟨r,hr,e⟩:=h'
     simp at e;subst e
     cases i with
     | zero=>simp at ha;simp [<-ha]
     | succ i=>simp at ha;simpa using strsA_get hr i a ha
   · simp at h'
theorem selA_get {i:Nat} {l:List AV} {r a:AV} (h:selA i l=some r) (ha:l[i]? =some a):a=r/\r.one=true:=by
 unfold selA at h
 split at h
 · simp only [ob_some] at h;obtain ⟨ns,hns,e⟩:=h;simp at e;subst e;exact ⟨intsA_get hns i a ha,rfl⟩
 · simp only [ob_some] at h;obtain ⟨ns,hns,e⟩:=h;simp at e;subst e;exact ⟨boolsA_get hns i a ha,rfl⟩
 · simp only [ob_some] at h;obtain ⟨ns,hns,e⟩:=h;simp at e;subst e;exact ⟨strsA_get hns i a ha,rfl⟩
 · simp at h
noncomputable def cands (size:Nat) (dflt:List AV) (cs:T AV) (sz k o:Nat):Option (List AV):=
 Nat.rec (motive:=fun _=>Nat->Option (List AV)) (fun _=>some []) (fun _ ih o=>ob (cellAt size dflt cs o) fun v=>ob (ih (o+sz)) fun r=>some (v :: r)) k o
theorem cands_s (size:Nat) (dflt:List AV) (cs:T AV) (sz k o:Nat):cands size dflt cs sz (k+1) o=ob (cellAt size dflt cs o) fun v=>ob (cands size dflt cs sz k (o+sz)) fun r=>some (v :: r):=rfl
theorem cands_get {size:Nat} {dflt:List AV} {cs:T AV} {sz:Nat}:∀{k o:Nat} {l:List AV},cands size dflt cs sz k o=some l->∀i,i<k->∃a,l[i]? =some a/\cellAt size dflt cs (o+i*sz)=some a
 | 0,o,l,h,i,hi=>by omega
 | k+1,o,l,h,i,hi=>by
   simp only [cands_s,ob_some] at h
   obtain ⟨v,hv,r,hr,e⟩:=h
   simp at e;subst e
   cases i with
   | zero=>exact ⟨v,by simp,by simpa using hv⟩
   | succ i=>
     obtain ⟨a,a1,a2⟩:=cands_get hr i (by omega)
     refine ⟨a,by simpa using a1,?_⟩
     rw [<-a2];congr 1;rw [Nat.add_mul];omega
noncomputable def selCells (size:Nat) (dflt:List AV) (cs:T AV) (sz k i m o:Nat):Option (List AV):=
 Nat.rec (motive:=fun _=>Nat->Option (List AV)) (fun _=>some []) (fun _ ih o=>ob (cands size dflt cs sz k o) fun l=>ob (selA i l) fun v=>ob (ih (o+1)) fun r=>some (v :: r)) m o
theorem selCells_s (size:Nat) (dflt:List AV) (cs:T AV) (sz k i m o:Nat):selCells size dflt cs sz k i (m+1) o=ob (cands size dflt cs sz k o) fun l=>ob (selA i l) fun v=>ob (selCells size dflt cs sz k i m (o+1)) fun r=>some (v :: r):=rfl
theorem selCells_get {size:Nat} {dflt:List AV} {cs:T AV} {sz k i:Nat} (hi:i<k):∀{m o:Nat} {l:List AV},selCells size dflt cs sz k i m o=some l->l.length=m/\∀j a,l[j]? =some a->cellAt size dflt cs (o+i*sz+j)=some a/\a.one=true
 | 0,o,l,h=>by
   have h':(some []:Option (List AV))=some l:=h
   simp at h'
   subst h';simp
 | m+1,o,l,h=>by
   simp only [selCells_s,ob_some] at h
   obtain ⟨c,hc,v,hv,r,hr,e⟩:=h
   simp at e;subst e
   obtain ⟨h1,h2⟩:=selCells_get hi hr
   refine ⟨by simp [h1],?_⟩
   intro j a ha
   cases j with
   | zero=>
     simp at ha;subst ha
     obtain ⟨a,a1,a2⟩:=cands_get hc i hi
     obtain ⟨e1,e2⟩:=selA_get hv a1
     subst e1;exact ⟨by simpa using a2,e2⟩
   | succ j=>
     simp at ha
     have:=h2 j a ha
     rwa [show o+1+i*sz+j=o+i*sz+(j+1) by omega] at this
noncomputable def segP (o m:Nat):List Seg->Option (List AV)
 | []=>none
 | g :: r=>match Nat.ble g.st o && Nat.blt (o-g.st) (g.n*g.sz) with
   | true=>og (Nat.ble ((o-g.st) % g.sz+m) g.sz) (some (cvL (g.f ((o-g.st) / g.sz)) ((o-g.st) % g.sz) m))
   | false=>segP o m r
noncomputable def segI (o sz k i m:Nat):List Seg->Option (List AV)
 | []=>none
 | g :: r=>match Nat.ble g.st o && Nat.blt (o-g.st) g.sz with
   | true=>og (Nat.beq g.sz sz) (og (Nat.ble (o-g.st+m) g.sz) (og (Nat.ble k g.n) (some (cvL (g.f i) (o-g.st) m))))
   | false=>segI o sz k i m r
theorem segP_get {o m:Nat}:∀{l:List Seg} {r:List AV},segP o m l=some r->∃g∈l,∃i j,i<g.n/\j+m<=g.sz/\o=g.st+i*g.sz+j/\r=cvL (g.f i) j m
 | [],r,h=>by simp [segP] at h
 | g :: l,r,h=>by
   rw [segP] at h
   split at h
   · rename_i hb
     simp only [Bool.and_eq_true,Nat.ble_eq,Nat.blt_eq] at hb
     simp only [og_some,Option.some.injEq] at h
     obtain ⟨h1,h2⟩:=h
     have h1':=Nat.le_of_ble_eq_true h1
     have hz:0<g.sz:=by
      rcases Nat.eq_zero_or_pos g.sz with e | e
      · rw [e,Nat.mul_zero] at hb;omega
      · exact e
     refine ⟨g,List.mem_cons_self,(o-g.st) / g.sz,(o-g.st) % g.sz,?_,h1',?_,h2.symm⟩
     · rw [Nat.div_lt_iff_lt_mul hz];exact hb.2
     · have:=Nat.div_add_mod (o-g.st) g.sz
       rw [Nat.mul_comm] at this
       omega
   · obtain ⟨g',a,b⟩:=segP_get h
     exact ⟨g',List.mem_cons_of_mem _ a,b⟩
theorem segI_get {o sz k i m:Nat} (hik:i<k):∀{l:List Seg} {r:List AV},segI o sz k i m l=some r->∃g∈l,∃j,i<g.n/\j+m<=g.sz/\g.sz=sz/\o=g.st+j/\r=cvL (g.f i) j m
 | [],r,h=>by simp [segI] at h
 | g :: l,r,h=>by
   rw [segI] at h
   split at h
   · rename_i hb
     simp only [Bool.and_eq_true,Nat.ble_eq,Nat.blt_eq] at hb
     simp only [og_some,Option.some.injEq] at h
     obtain ⟨h1,h2,h3,h4⟩:=h
     have h2':=Nat.le_of_ble_eq_true h2
     have h3':=Nat.le_of_ble_eq_true h3
     exact ⟨g,List.mem_cons_self,o-g.st,by omega,h2',Nat.eq_of_beq_eq_true h1,by omega,h4.symm⟩
   · obtain ⟨g',a,b⟩:=segI_get hik h
     exact ⟨g',List.mem_cons_of_mem _ a,b⟩
noncomputable def psGet (o:Nat) (l:List (Nat×AV)):Option AV:=
 List.rec (motive:=fun _=>Option AV) none (fun y _ ih=>match Nat.beq y.1 o with | true=>some y.2 | false=>ih) l
noncomputable def psAt (m o:Nat) (l:List (Nat×AV)):Option AV:=
 match Nat.beq m 1 with
 | true=>psGet o l
 | false=>none
theorem psGet_mem {o:Nat} {v:AV}:∀{l:List (Nat×AV)},psGet o l=some v->(o,v)∈l
 | [],h=>by cases h
 | y :: l,h=>by
   have h':(match Nat.beq y.1 o with | true=>some y.2 | false=>psGet o l)=some v:=h
   split at h'
   · rename_i hb
     have:=Nat.eq_of_beq_eq_true hb
     simp only [Option.some.injEq] at h'
     subst this;subst h'
     exact List.mem_cons_self
   · exact List.mem_cons_of_mem _ (psGet_mem h')
theorem psAt_mem {m o:Nat} {v:AV} {l:List (Nat×AV)} (h:psAt m o l=some v):m=1/\(o,v)∈l:=by
 unfold psAt at h
 split at h
 · rename_i hb
   exact ⟨Nat.eq_of_beq_eq_true hb,psGet_mem h⟩
 · cases h
noncomputable def psOff (lo hi:Nat) (l:List (Nat×AV)):Bool:=
 List.rec (motive:=fun _=>Bool) true (fun y _ ih=>(Nat.blt y.1 lo || Nat.ble hi y.1) && ih) l
theorem psOff_mem {lo hi:Nat}:∀{l:List (Nat×AV)},psOff lo hi l=true->∀y∈l,y.1<lo\/hi<=y.1
 | [],_,y,hy=>by cases hy
 | x :: l,h,y,hy=>by
   have h':((Nat.blt x.1 lo || Nat.ble hi x.1) && psOff lo hi l)=true:=h
   simp only [Bool.and_eq_true,Bool.or_eq_true,Nat.blt_eq,Nat.ble_eq] at h'
   rcases List.mem_cons.1 hy with rfl | hy
   · exact h'.1
   · exact psOff_mem h'.2 y hy
noncomputable def segOne (o:Nat) (l:List Seg) (qs:List (Nat×AV)):Option AV:=
 match psGet o qs with
 | some v=>some v
 | none=>ob (segP o 1 l) fun z=>match z with
   | [v]=>some v
   | _=>none
noncomputable def segAll (l:List Seg) (qs:List (Nat×AV)) (m:Nat):Nat->Option (List AV):=
 Nat.rec (motive:=fun _=>Nat->Option (List AV)) (fun _=>some []) (fun _ ih o=>ob (segOne o l qs) fun v=>ob (ih (o+1)) fun r=>some (v :: r)) m
theorem segAll_s (l:List Seg) (qs:List (Nat×AV)) (m o:Nat):segAll l qs (m+1) o=ob (segOne o l qs) fun v=>ob (segAll l qs m (o+1)) fun r=>some (v :: r):=rfl
noncomputable def cellsS (H:AH) (a:AV) (m:Nat):Option (List AV×Prop):=
 og (Nat.blt 0 m) (match a with
 | .pv sz f=>og (Nat.ble m sz) (some (cvL f 0 m,True))
 | .pr A sz i o=>match H.get A with
   | some (.rows _ sz' n f)=>og (Nat.beq sz sz') (match Nat.ble (o+m) sz with
     | true=>some (cvL (f i) o m,i<n)
     | false=>og (Nat.beq sz 1) (og (Nat.beq o 0) (some (cvL (fun j=>f (i+j) 0) 0 m,i+m<=n))))
   | _=>none
 | .ps A o sz k i=>match H.get A with
   | some (.cells _ size dflt cs)=>ob (selCells size dflt cs sz k i m o) fun l=>some (l,i<k)
   | some (.segs _ _ l _)=>ob (segI o sz k i m l) fun l=>some (l,i<k)
   | _=>none
 | .p A o=>match H.get A with
   | some (.segs _ _ l qs)=>match psAt m o qs with
     | some v=>some ([v],True)
     | none=>match segP o m l with
       | some l=>some (l,True)
       | none=>ob (segAll l qs m o) fun l=>some (l,True)
   | _=>none
 | _=>none)
theorem HR.segs {ρ:Rho} {H:AH} {w:World} {A:Nat} {e:TypeId} {size:Nat} {l:List Seg} {qs:List (Nat×AV)} {B d N:Nat} (h:HR ρ H w) (hA:H.get A=some (.segs e size l qs)) (hx:ρ A=some (B,d,N)) :
 ∃c fr,w.heap[B]? =some (.cells c e fr)/\FrOk fr c.size/\c.size=N/\d+size<=c.size/\
  (∀g∈l,g.st+g.n*g.sz<=size/\∀(i j:Nat),i<g.n->j<g.sz->∃v':Value,c[d+g.st+i*g.sz+j]? =some v'/\CR ρ.ro (g.f i j) v')/\
  (∀y∈qs,y.2.one=true/\∃v':Value,c[d+y.1]? =some v'/\VR ρ y.2 v'):=by
 rcases h.live _ _ hA with ⟨x,hx',hb⟩ | hv
 · rw [hx] at hx';simp at hx';subst hx'
   exact hb
 · exact absurd hv.1 (by simp [AObj.void])
theorem HR.rows {ρ:Rho} {H:AH} {w:World} {A:Nat} {e:TypeId} {sz n:Nat} {f:Nat->Nat->CV} {B d N:Nat} (h:HR ρ H w) (hA:H.get A=some (.rows e sz n f)) (hx:ρ A=some (B,d,N)) (hn:0<n) :
 ∃c fr,w.heap[B]? =some (.cells c e fr)/\FrOk fr c.size/\c.size=N/\d+n*sz<=c.size/\
  (∀(i j:Nat),i<n->j<sz->∃v':Value,c[d+i*sz+j]? =some v'/\CR ρ.ro (f i j) v'):=by
 rcases h.live _ _ hA with ⟨x,hx',hb⟩ | hv
 · rw [hx] at hx';simp at hx';subst hx'
   exact hb
 · have:n=0:=hv.1
   omega
theorem HR.roBlock {ρ:Rho} {H:AH} {w:World} (h:HR ρ H w) {B o:Nat} {m:Nat} {g:Nat->Value} (hm:0<m) (hg:∀j,j<m->ρ.ro B (o+j)=some (g j)):∃c e fr,w.heap[B]? =some (.cells c e fr)/\∀j,j<m->c[o+j]? =some (g j):=by
 obtain ⟨c,e,fr,h1,_⟩:=h.ro B (o+0) (g 0) (hg 0 hm)
 refine ⟨c,e,fr,h1,fun j hj=>?_⟩
 obtain ⟨c',e',fr',h2,h3⟩:=h.ro B (o+j) (g j) (hg j hj)
 rw [h1] at h2;simp at h2;obtain ⟨rfl,rfl,rfl⟩:=h2
 exact h3
theorem segOne_sound {c:Array Value} {ρ:Rho} {d o:Nat} {l:List Seg} {qs:List (Nat×AV)} {x:AV} (h:segOne o l qs=some x)
 (k5:∀g∈l,∀(i j:Nat),i<g.n->j<g.sz->∃v':Value,c[d+g.st+i*g.sz+j]? =some v'/\CR ρ.ro (g.f i j) v') (k6:∀y∈qs,y.2.one=true/\∃v':Value,c[d+y.1]? =some v'/\VR ρ y.2 v') :
 ∃v':Value,c[d+o]? =some v'/\VR ρ x v'/\x.one=true:=by
 unfold segOne at h
 split at h
 · rename_i v hv
   simp only [Option.some.injEq] at h
   subst h
   obtain ⟨q1,v',q2,q3⟩:=k6 _ (psGet_mem hv)
   exact ⟨v',q2,q3,q1⟩
 · simp only [ob_some] at h
   obtain ⟨z,hz,h⟩:=h
   obtain ⟨g,hg,i0,j0,q1,q2,q4,rfl⟩:=segP_get hz
   split at h
   · rename_i v hv
     simp only [Option.some.injEq] at h
     subst h
     have h0:(cvL (g.f i0) j0 1)[0]? =some v:=by rw [hv];rfl
     obtain ⟨b1,b2⟩:=cvL_get _ _ _ _ _ h0
     subst b2
     obtain ⟨v',c1,c2⟩:=k5 g hg i0 (j0+0) q1 (by omega)
     exact ⟨v',by rw [<-c1];congr 1;omega,toAV_VR c2,toAV_one _⟩
   · cases h
theorem segAll_sound {c:Array Value} {ρ:Rho} {d:Nat} {l:List Seg} {qs:List (Nat×AV)}
 (k5:∀g∈l,∀(i j:Nat),i<g.n->j<g.sz->∃v':Value,c[d+g.st+i*g.sz+j]? =some v'/\CR ρ.ro (g.f i j) v') (k6:∀y∈qs,y.2.one=true/\∃v':Value,c[d+y.1]? =some v'/\VR ρ y.2 v') :
 ∀(m o:Nat) (r:List AV),segAll l qs m o=some r->r.length=m/\∀j x,r[j]? =some x->∃v':Value,c[d+o+j]? =some v'/\VR ρ x v'/\x.one=true
 | 0,o,r,h=>by
   have h':some ([]:List AV)=some r:=h
   simp only [Option.some.injEq] at h'
   subst h'
   exact ⟨rfl,fun j x hx=>by simp at hx⟩
 | m+1,o,r,h=>by
   rw [segAll_s] at h
   simp only [ob_some,Option.some.injEq] at h
   obtain ⟨v,hv,r',hr,rfl⟩:=h
   obtain ⟨e1,e2⟩:=segAll_sound k5 k6 m (o+1) r' hr
   refine ⟨by simp [e1],fun j x hx=>?_⟩
   cases j with
   | zero=>
     simp only [List.getElem?_cons_zero,Option.some.injEq] at hx
     subst hx
     simpa using segOne_sound hv k5 k6
   | succ j=>
     obtain ⟨v',a,b⟩:=e2 j x (by simpa using hx)
     exact ⟨v',by rw [<-a];congr 1;omega,b⟩
theorem cellsS_sound {H:AH} {a:AV} {m:Nat} {l:List AV} {p:Prop} {ρ:Rho} {w:World} {a':Value} (h:cellsS H a m=some (l,p)) (hp:p) (hh:HR ρ H w) (ha:VR ρ a a') :
 ∃B off c e fr,a'=.pointer (some ⟨B,off,none⟩)/\w.heap[B]? =some (.cells c e fr)/\l.length=m/\∀j x,l[j]? =some x->∃v:Value,c[off+j]? =some v/\VR ρ x v/\x.one=true:=by
 simp only [cellsS,og_some] at h
 obtain ⟨hm,h⟩:=h
 have hm':0<m:=by simpa [Nat.blt_eq] using hm
 split at h
 · rename_i sz f
   simp only [og_some,Option.some.injEq,Prod.mk.injEq] at h
   obtain ⟨h1,rfl,rfl⟩:=h
   have h1':=Nat.le_of_ble_eq_true h1
   cases ha with | pv _ _ B o g g1 g2=>
   obtain ⟨c,e,fr,k1,k2⟩:=hh.roBlock hm' (fun j hj=>g1 j (by omega))
   refine ⟨B,o,c,e,fr,rfl,k1,cvL_length _ _ _,?_⟩
   intro j x hx
   obtain ⟨q1,q2⟩:=cvL_get _ _ _ _ _ hx
   subst q2
   exact ⟨g j,k2 j q1,toAV_VR (by simpa using g2 j (by omega)),toAV_one _⟩
 · rename_i A sz i o
   split at h
   · rename_i e sz' n f hA
     simp only [og_some] at h
     obtain ⟨h1,h⟩:=h
     have h1':=Nat.eq_of_beq_eq_true h1
     subst h1'
     split at h
     · rename_i h2
       simp only [Option.some.injEq,Prod.mk.injEq] at h
       obtain ⟨rfl,rfl⟩:=h
       have h2':=Nat.le_of_ble_eq_true h2
       have hin:i<n:=hp
       cases ha with | pr _ _ _ _ B d N hr=>
       obtain ⟨c,fr,k1,_,_,_,k5⟩:=hh.rows hA hr (by omega)
       refine ⟨B,_,c,e,fr,rfl,k1,cvL_length _ _ _,?_⟩
       intro j x hx
       obtain ⟨q1,q2⟩:=cvL_get _ _ _ _ _ hx
       subst q2
       obtain ⟨v,b1,b2⟩:=k5 i (o+j) hin (by omega)
       exact ⟨v,by rw [<-b1];congr 1;omega,toAV_VR b2,toAV_one _⟩
     · simp only [og_some,Option.some.injEq,Prod.mk.injEq] at h
       obtain ⟨h3,h4,rfl,rfl⟩:=h
       have h3':=Nat.eq_of_beq_eq_true h3
       have h4':=Nat.eq_of_beq_eq_true h4
       subst h3' h4'
       have hin:i+m<=n:=hp
       cases ha with | pr _ _ _ _ B d N hr=>
       obtain ⟨c,fr,k1,_,_,_,k5⟩:=hh.rows hA hr (by omega)
       refine ⟨B,_,c,e,fr,rfl,k1,cvL_length _ _ _,?_⟩
       intro j x hx
       obtain ⟨q1,q2⟩:=cvL_get _ _ _ _ _ hx
       subst q2
       obtain ⟨v,b1,b2⟩:=k5 (i+j) 0 (by omega) (by omega)
       refine ⟨v,by rw [<-b1];congr 1;omega,?_,toAV_one _⟩
       rw [Nat.zero_add]
       exact toAV_VR b2
   · simp at h
 · rename_i A o sz k i
   split at h
   · rename_i e size dflt cs hA
     simp only [ob_some,Option.some.injEq,Prod.mk.injEq] at h
     obtain ⟨l',hl,rfl,rfl⟩:=h
     have hik:i<k:=hp
     cases ha with | ps _ _ _ _ _ B d N hr=>
     obtain ⟨c,fr,k1,_,_,_,k5⟩:=hh.row hA hr
     obtain ⟨q1,q2⟩:=selCells_get hik hl
     refine ⟨B,_,c,e,fr,rfl,k1,q1,?_⟩
     intro j x hx
     obtain ⟨b1,b2⟩:=q2 j x hx
     obtain ⟨v,c1,c2,c3⟩:=k5 _ _ b1
     exact ⟨v,by rw [<-c1];congr 1;omega,c2,c3⟩
   · rename_i e size l0 qs hA
     simp only [ob_some,Option.some.injEq,Prod.mk.injEq] at h
     obtain ⟨l',hl,rfl,rfl⟩:=h
     have hik:i<k:=hp
     cases ha with | ps _ _ _ _ _ B d N hr=>
     obtain ⟨c,fr,k1,_,_,_,k5,_⟩:=hh.segs hA hr
     obtain ⟨g,hg,j0,q1,q2,q3,q4,rfl⟩:=segI_get hik hl
     refine ⟨B,_,c,e,fr,rfl,k1,cvL_length _ _ _,?_⟩
     intro j x hx
     obtain ⟨b1,b2⟩:=cvL_get _ _ _ _ _ hx
     subst b2
     obtain ⟨v,c1,c2⟩:=(k5 g hg).2 i (j0+j) q1 (by omega)
     exact ⟨v,by rw [<-c1,q3];congr 1;omega,toAV_VR c2,toAV_one _⟩
   · simp at h
 · rename_i A o
   split at h
   · rename_i e size l0 qs hA
     split at h
     · rename_i v hv
       simp only [Option.some.injEq,Prod.mk.injEq] at h
       obtain ⟨rfl,rfl⟩:=h
       obtain ⟨e1,hv⟩:=psAt_mem hv
       cases ha with | p _ _ B d N hr=>
       obtain ⟨c,fr,k1,_,_,_,_,k6⟩:=hh.segs hA hr
       obtain ⟨q1,v',q2,q3⟩:=k6 _ hv
       refine ⟨B,_,c,e,fr,rfl,k1,e1.symm,?_⟩
       intro j x hx
       cases j with
       | zero=>
         simp only [List.getElem?_cons_zero,Option.some.injEq] at hx
         subst hx
         exact ⟨v',q2,q3,q1⟩
       | succ j=>simp at hx
     · split at h
       · rename_i l' hl
         simp only [Option.some.injEq,Prod.mk.injEq] at h
         obtain ⟨rfl,rfl⟩:=h
         cases ha with | p _ _ B d N hr=>
         obtain ⟨c,fr,k1,_,_,_,k5,_⟩:=hh.segs hA hr
         obtain ⟨g,hg,i0,j0,q1,q2,q4,rfl⟩:=segP_get hl
         refine ⟨B,_,c,e,fr,rfl,k1,cvL_length _ _ _,?_⟩
         intro j x hx
         obtain ⟨b1,b2⟩:=cvL_get _ _ _ _ _ hx
         subst b2
         obtain ⟨v,c1,c2⟩:=(k5 g hg).2 i0 (j0+j) q1 (by omega)
         exact ⟨v,by rw [<-c1];congr 1;omega,toAV_VR c2,toAV_one _⟩
       · simp only [ob_some,Option.some.injEq,Prod.mk.injEq] at h
         obtain ⟨l',hl,rfl,rfl⟩:=h
         cases ha with | p _ _ B d N hr=>
         obtain ⟨c,fr,k1,_,_,_,k5,k6⟩:=hh.segs hA hr
         obtain ⟨e1,e2⟩:=segAll_sound (fun g hg=>(k5 g hg).2) k6 m o l' hl
         exact ⟨B,_,c,e,fr,rfl,k1,e1,e2⟩
   · simp at h
 · simp at h
theorem run_loadL {P:Program} {w:World} {B o:Nat} {c:Array Value} {e:TypeId} {fr:Nat×Nat} (h:w.heap[B]? =some (.cells c e fr)) :
 ∀(l:List Value) (i:Nat) (acc:Array Value),(∀(j:Nat) (v:Value),l[j]? =some v->c[o+i+j]? =some v)->(loadCellsFrom ⟨B,o,none⟩ i l.length acc).run P w=.ok (acc ++ l.toArray) w
 | [],i,acc,_=>by simp [loadCellsFrom]
 | v :: r,i,acc,hl=>by
   have h0:=hl 0 v (by simp)
   simp only [Nat.add_zero] at h0
   simp only [List.length_cons,loadCellsFrom,addr_add,Sem.run_bind,run_load,cell?_of_heap h,h0,Result.andThen_ok]
   rw [run_loadL h r (i+1) (acc.push v) (fun j u hj=>by have:=hl (j+1) u (by simpa using hj);rw [<-this];congr 1;omega)]
   congr 1
   apply Array.ext';simp
theorem pick_cells {ρ:Rho} {c:Array Value} {off:Nat}:∀(l:List AV),(∀j x,l[j]? =some x->∃v:Value,c[off+j]? =some v/\VR ρ x v/\x.one=true)->∃vs:List Value,VRs ρ l vs/\allOne l=true/\∀(j:Nat) (v:Value),vs[j]? =some v->c[off+j]? =some v:=by
 intro l
 induction l generalizing off with
 | nil=>intro _;exact ⟨[],.nil,rfl,by simp⟩
 | cons x r ih=>
   intro h
   obtain ⟨v,h1,h2,h3⟩:=h 0 x (by simp)
   obtain ⟨vs,k1,k2,k3⟩:=ih (off:=off+1) (fun j y hy=>by
    obtain ⟨v,a,b⟩:=h (j+1) y (by simpa using hy)
    exact ⟨v,by rw [<-a];congr 1;omega,b⟩)
   refine ⟨v :: vs,.cons _ _ _ _ h2 k1,by simp [allOne_cons,h3,k2],?_⟩
   intro j u hu
   cases j with
   | zero=>simp at hu;subst hu;simpa using h1
   | succ j=>simp at hu;have:=k3 j u hu;rw [<-this];congr 1;omega
noncomputable def oLoadS (P:Program) (H:AH) (t:TypeId) (a:AV):Option (AV×Prop):=
 match aggB P t with
 | some true=>ob (infoSize P t) fun n=>ob (cellsS H a n) fun lp=>some (.agg lp.1,lp.2)
 | some false=>ob (cellsS H a 1) fun lp=>match lp.1 with
   | [v]=>some (v,lp.2)
   | _=>none
 | none=>none
theorem oLoadS_sound {P:Program} {H:AH} {t:TypeId} {a v:AV} {p:Prop} {ρ:Rho} {w:World} {a':Value} (h:oLoadS P H t a=some (v,p)) (hp:p) (hh:HR ρ H w) (ha:VR ρ a a'):GoesV P (Instr.loadAt t a') v H ρ H w:=by
 unfold oLoadS at h
 split at h
 · rename_i hg
   simp only [ob_some,Option.some.injEq,Prod.mk.injEq] at h
   obtain ⟨n,hn,⟨l,q⟩,hl,e1,e2⟩:=h
   simp only at e1 e2
   subst e1;subst e2
   obtain ⟨B,off,c,e,fr,rfl,h1,h2,h3⟩:=cellsS_sound hl hp hh ha
   obtain ⟨vs,k1,k2,k3⟩:=pick_cells l h3
   refine GoesV.pure hh (.agg _ _ k1) ?_
   have hlen:vs.length=n:=by rw [<-k1.length,h2]
   have:=run_loadL (P:=P) (o:=off) h1 vs 0 #[] (by simpa using k3)
   rw [hlen] at this
   simp [Instr.loadAt,Instr.sureAddr,loadVar,run_isAgg' hg,run_sizeOf' hn,loadCells,this]
 · rename_i hg
   simp only [ob_some] at h
   obtain ⟨⟨l,q⟩,hl,h⟩:=h
   split at h
   · rename_i x hx
     simp only [Option.some.injEq,Prod.mk.injEq] at h
     obtain ⟨rfl,rfl⟩:=h
     simp only at hx
     subst hx
     obtain ⟨B,off,c,e,fr,rfl,h1,h2,h3⟩:=cellsS_sound hl hp hh ha
     obtain ⟨u,k1,k2,k3⟩:=h3 0 x (by simp)
     refine GoesV.pure hh k2 ?_
     simp only [Nat.add_zero] at k1
     simp [Instr.loadAt,Instr.sureAddr,loadVar,run_isAgg' hg,cell?_of_heap h1,k1]
   · simp at h
 · simp at h
noncomputable def oFieldAddrS (P:Program) (t:TypeId) (x:AV) (f:Nat):Option (AV×Prop):=
 match P.underlying t with
 | some (.struct fs)=>match fs[f]? with
   | some fd=>ob (infoSize P fd.type) fun n=>og (Nat.blt 0 n) (match x with
     | .p A o=>some (.p A (o+fd.offset),True)
     | .pv sz g=>og (Nat.ble fd.offset sz) (some (.pv (sz-fd.offset) (fun j=>g (fd.offset+j)),True))
     | .pr A sz i o=>some (.pr A sz i (o+fd.offset),True)
     | .ps A o sz k i=>some (.ps A (o+fd.offset) sz k i,True)
     | _=>none)
   | none=>none
 | _=>none
theorem oFieldAddrS_sound {P:Program} {H:AH} {t:TypeId} {x r:AV} {p:Prop} {f:Nat} {x':Value} {ρ:Rho} {w:World} (h:oFieldAddrS P t x f=some (r,p)) (hh:HR ρ H w) (hx:VR ρ x x') :
 GoesV P (Instr.fieldAt t x' f) r H ρ H w:=by
 unfold oFieldAddrS at h
 split at h
 · rename_i fs hu
   split at h
   · rename_i fd hfd
     simp only [ob_some,og_some] at h
     obtain ⟨n,hn,h1,h2⟩:=h
     have h1':0<n:=by simpa [Nat.blt_eq] using h1
     have run:∀B o,(Instr.fieldAt t (.pointer (some ⟨B,o,none⟩)) f).run P w=.ok (.pointer (some ⟨B,o+fd.offset,none⟩)) w:=by
      intro B o
      simp only [Instr.fieldAt,Sem.run_bind,run_underlying' hu,Result.andThen_ok,hfd,Instr.sureAddr,Sem.run_pure,fieldPlace,run_sizeOf' hn]
      rw [if_neg (by omega)]
      simp [addr_add,Nat.add_assoc]
     split at h2
     · simp only [Option.some.injEq,Prod.mk.injEq] at h2;obtain ⟨rfl,rfl⟩:=h2
       cases hx with | p A o B d N hr=>
       refine GoesV.pure hh ?_ (run _ _)
       rw [Nat.add_assoc];exact .p _ _ B d N hr
     · simp only [og_some,Option.some.injEq,Prod.mk.injEq] at h2;obtain ⟨h3,rfl,rfl⟩:=h2
       have h3':=Nat.le_of_ble_eq_true h3
       cases hx with | pv _ _ B o g g1 g2=>
       refine GoesV.pure hh ?_ (run _ _)
       exact .pv _ _ B _ (fun j=>g (fd.offset+j)) (fun j hj=>by rw [<-g1 (fd.offset+j) (by omega)];congr 1;omega) (fun j hj=>g2 _ (by omega))
     · simp only [Option.some.injEq,Prod.mk.injEq] at h2;obtain ⟨rfl,rfl⟩:=h2
       cases hx with | pr _ _ _ _ B d N hr=>
       refine GoesV.pure hh ?_ (run _ _)
       rw [Nat.add_assoc];exact .pr _ _ _ _ B d N hr
     · rename_i A o sz k i
       simp only [Option.some.injEq,Prod.mk.injEq] at h2;obtain ⟨rfl,rfl⟩:=h2
       cases hx with | ps _ _ _ _ _ B d N hr=>
       refine GoesV.pure hh ?_ (run _ _)
       rw [show d+o+i*sz+fd.offset=d+(o+fd.offset)+i*sz by omega];exact .ps _ _ _ _ _ B d N hr
     · simp at h2
   · simp at h
 · simp at h
noncomputable def oIndexAddrS (P:Program) (t:TypeId) (x ix:AV):Option (AV×Prop):=
 match ix with
 | .i _ j=>match P.underlying t with
   | some (.slice e)=>ob (infoSize P e) fun n=>match x with
     | .sv sz m f=>og (Nat.beq sz n) (some (.pv sz (fun c=>f j.toNat c),0<=j/\j<m))
     | .lr A sz i len _=>og (Nat.beq sz n) (some (.pr A sz (addN i j.toNat) 0,0<=j/\j<len))
     | .l A o len _ sz _=>og (Nat.beq sz n) (some (.ps A o sz len j.toNat,0<=j/\j<len))
     | _=>none
   | some (.array k e)=>ob (infoSize P e) fun n=>match x with
     | .p A o=>some (.ps A o n k j.toNat,0<=j/\j<k)
     | .pv sz g=>og (Nat.ble (k*n) sz) (some (.pv n (fun c=>g (j.toNat*n+c)),0<=j/\j<k))
     | .ps A o sz k0 i0=>og (Nat.beq sz (k*n)) (some (.ps A o n (k0*k) (i0*k+j.toNat),0<=j/\j<k))
     | _=>none
   | _=>none
 | _=>none
theorem oIndexAddrS_sound {P:Program} {H:AH} {t:TypeId} {x ix r:AV} {p:Prop} {x' ix':Value} {ρ:Rho} {w:World} (h:oIndexAddrS P t x ix=some (r,p)) (hp:p) (hh:HR ρ H w) (hx:VR ρ x x') (hi:VR ρ ix ix') :
 GoesV P (Instr.indexAt t x' ix') r H ρ H w:=by
 unfold oIndexAddrS at h
 split at h
 · rename_i k j
   cases hi
   split at h
   · rename_i e hu
     simp only [ob_some] at h
     obtain ⟨n,hn,h⟩:=h
     have run:∀(B o len cap:Nat),0<=j->j<len->(Instr.indexAt t (.slice (some ⟨B,o,none⟩) len cap) (.int k j)).run P w=.ok (.pointer (some ⟨B,o+j.toNat*n,none⟩)) w:=by
      intro B o len cap h0 h1
      simp only [Instr.indexAt,asIntOf,Sem.run_bind,Sem.run_pure,Result.andThen_ok,run_underlying' hu]
      rw [if_pos ⟨h0,h1⟩]
      simp [run_sizeOf' hn,addr_add,Nat.add_assoc]
     split at h
     · rename_i sz m f
       simp only [og_some,Option.some.injEq,Prod.mk.injEq] at h
       obtain ⟨h1,rfl,rfl⟩:=h
       have h1':=Nat.eq_of_beq_eq_true h1
       subst h1'
       obtain ⟨p0,p1⟩:0<=j/\j<m:=hp
       cases hx with | sv _ _ _ _ hc=>
       cases hc with
       | sv0=>omega
       | svz=>omega
       | sv _ _ _ B o cap g a1 a2 a3=>
       refine GoesV.pure hh ?_ (run B o m cap p0 p1)
       exact .pv _ _ B _ (fun c=>g j.toNat c) (fun c hc=>a2 _ _ (by omega) hc) (fun c hc=>a3 _ _ (by omega) hc)
     · rename_i A sz i len ex
       simp only [og_some,Option.some.injEq,Prod.mk.injEq] at h
       obtain ⟨h1,rfl,rfl⟩:=h
       have h1':=Nat.eq_of_beq_eq_true h1
       subst h1'
       obtain ⟨p0,p1⟩:0<=j/\j<len:=hp
       cases hx with
       | lr0=>omega
       | lr _ _ _ _ _ B d N cap' hr b1 b2 b3=>
       refine GoesV.pure hh ?_ (run B _ len cap' p0 p1)
       have:=VR.pr (ρ:=ρ) A sz (i+j.toNat) 0 B d N hr
       rw [addN_eq]
       rw [show d+i*sz+j.toNat*sz=d+(i+j.toNat)*sz+0 by rw [Nat.add_mul];omega]
       exact this
     · rename_i A o len cap sz ex
       simp only [og_some,Option.some.injEq,Prod.mk.injEq] at h
       obtain ⟨h1,rfl,rfl⟩:=h
       have h1':=Nat.eq_of_beq_eq_true h1
       subst h1'
       obtain ⟨p0,p1⟩:0<=j/\j<len:=hp
       cases hx with | l _ _ _ _ _ _ B d N cap' hr=>
       exact GoesV.pure hh (.ps A o sz len j.toNat B d N hr) (run B _ len cap' p0 p1)
     · simp at h
   · rename_i m e hu
     simp only [ob_some] at h
     obtain ⟨n,hn,h⟩:=h
     have run:∀B o,0<=j->j<m->(Instr.indexAt t (.pointer (some ⟨B,o,none⟩)) (.int k j)).run P w=.ok (.pointer (some ⟨B,o+j.toNat*n,none⟩)) w:=by
      intro B o h0 h1
      simp only [Instr.indexAt,asIntOf,Sem.run_bind,Sem.run_pure,Result.andThen_ok,run_underlying' hu,Instr.sureAddr]
      rw [if_pos ⟨h0,h1⟩]
      simp [run_sizeOf' hn,addr_add,Nat.add_assoc]
     split at h
     · rename_i A o
       simp only [Option.some.injEq,Prod.mk.injEq] at h
       obtain ⟨rfl,rfl⟩:=h
       obtain ⟨p0,p1⟩:0<=j/\j<m:=hp
       cases hx with | p _ _ B d N hr=>
       exact GoesV.pure hh (.ps A o n m j.toNat B d N hr) (run B _ p0 p1)
     · rename_i sz g
       simp only [og_some,Option.some.injEq,Prod.mk.injEq] at h
       obtain ⟨h1,rfl,rfl⟩:=h
       have h1':=Nat.le_of_ble_eq_true h1
       obtain ⟨p0,p1⟩:0<=j/\j<m:=hp
       cases hx with | pv _ _ B o g' g1 g2=>
       have hb:∀c,c<n->j.toNat*n+c<sz:=by
        intro c hc
        have:(j.toNat+1)*n<=m*n:=Nat.mul_le_mul_right _ (by omega)
        rw [Nat.add_mul] at this;omega
       refine GoesV.pure hh ?_ (run B _ p0 p1)
       exact .pv _ _ B _ (fun c=>g' (j.toNat*n+c)) (fun c hc=>by rw [<-g1 _ (hb c hc)];congr 1;omega) (fun c hc=>g2 _ (hb c hc))
     · rename_i A o sz k0 i0
       simp only [og_some,Option.some.injEq,Prod.mk.injEq] at h
       obtain ⟨h1,rfl,rfl⟩:=h
       have h1':=Nat.eq_of_beq_eq_true h1
       subst h1'
       obtain ⟨p0,p1⟩:0<=j/\j<m:=hp
       cases hx with | ps _ _ _ _ _ B d N hr=>
       refine GoesV.pure hh ?_ (run B _ p0 p1)
       rw [show d+o+i0*(m*n)+j.toNat*n=d+o+(i0*m+j.toNat)*n by rw [Nat.add_mul,Nat.mul_assoc];omega]
       exact .ps _ _ _ _ _ B d N hr
     · simp at h
   · simp at h
 · simp at h
noncomputable def partsA (P:Program) (e:TypeId) (cs:List AV) (n k:Nat) (o:Nat):Option (List AV):=
 Nat.rec (motive:=fun _=>Nat->Option (List AV)) (fun _=>some []) (fun _ ih o=>ob (partA P e cs o) fun v=>ob (ih (o+n)) fun r=>some (v :: r)) k o
theorem partsA_s (P:Program) (e:TypeId) (cs:List AV) (n k o:Nat):partsA P e cs n (k+1) o=ob (partA P e cs o) fun v=>ob (partsA P e cs n k (o+n)) fun r=>some (v :: r):=rfl
theorem partsA_get {P:Program} {e:TypeId} {cs:List AV} {n:Nat}:∀{k o:Nat} {l:List AV},partsA P e cs n k o=some l->∀i,i<k->∃a,l[i]? =some a/\partA P e cs (o+i*n)=some a
 | 0,o,l,h,i,hi=>by omega
 | k+1,o,l,h,i,hi=>by
   simp only [partsA_s,ob_some] at h
   obtain ⟨v,hv,r,hr,e⟩:=h
   simp at e;subst e
   cases i with
   | zero=>exact ⟨v,by simp,by simpa using hv⟩
   | succ i=>
     obtain ⟨a,a1,a2⟩:=partsA_get hr i (by omega)
     refine ⟨a,by simpa using a1,?_⟩
     rw [<-a2];congr 1;rw [Nat.add_mul];omega
noncomputable def oIndexS (P:Program) (t:TypeId) (x ix:AV):Option (AV×Prop):=
 match ix with
 | .i _ j=>match P.underlying t with
   | some (.array k e)=>ob (infoSize P e) fun n=>match x with
     | .agg cs=>ob (partsA P e cs n k 0) fun l=>ob (selA j.toNat l) fun v=>some (v,0<=j/\j<k)
     | _=>none
   | some .string=>match x with
     | .s l=>some (.i .u8 (.ofNat (l.getD j.toNat 0)),0<=j/\j<l.length)
     | _=>none
   | _=>none
 | _=>none
theorem oIndexS_sound {P:Program} {H:AH} {t:TypeId} {x ix r:AV} {p:Prop} {x' ix':Value} {ρ:Rho} {w:World} (h:oIndexS P t x ix=some (r,p)) (hp:p) (hh:HR ρ H w) (hx:VR ρ x x') (hi:VR ρ ix ix') :
 GoesV P (Instr.index t x' ix') r H ρ H w:=by
 unfold oIndexS at h
 split at h
 · rename_i k j
   cases hi
   split at h
   · rename_i len e hu
     simp only [ob_some] at h
     obtain ⟨n,hn,h⟩:=h
     split at h
     · rename_i cs
       simp only [ob_some,Option.some.injEq,Prod.mk.injEq] at h
       obtain ⟨l,hl,v,hv,rfl,rfl⟩:=h
       obtain ⟨p0,p1⟩:0<=j/\j<len:=hp
       cases hx with
       | agg _ cs' hcs=>
       obtain ⟨a,a1,a2⟩:=partsA_get hl j.toNat (by omega)
       obtain ⟨e1,_⟩:=selA_get hv a1
       subst e1
       obtain ⟨v',b1,b2⟩:=run_part (w:=w) a2 hcs
       refine GoesV.pure hh b2 ?_
       simp only [Instr.index,asIntOf,Sem.run_bind,Sem.run_pure,Result.andThen_ok,run_underlying' hu]
       rw [if_pos ⟨p0,p1⟩]
       simpa [run_sizeOf' hn] using b1
     · simp at h
   · rename_i hu
     split at h
     · rename_i l
       simp only [Option.some.injEq,Prod.mk.injEq] at h
       obtain ⟨rfl,rfl⟩:=h
       obtain ⟨p0,p1⟩:0<=j/\j<l.length:=hp
       have hj:j=Int.ofNat j.toNat:=by simp;omega
       have hlt:j.toNat<l.length:=by omega
       refine oIndex_sound (P:=P) (t:=t) (x:=.s l) (ix:=.i k (Int.ofNat j.toNat)) ?_ hh hx (by rw [<-hj];exact .i _ _)
       simp [oIndex,natOf,ob,hu,List.getElem?_eq_getElem hlt]
     · simp at h
   · simp at h
 · simp at h
end Go.Sim
/- Operations over values that are not known, continued: stores, cuts, appends. -/
namespace Go.Sim
open Go
theorem setRow_CR {ro:Nat->Nat->Option Value} {f:Nat->Nat->CV} {i o i' j':Nat} {cs:List CV} {v:Value}
 (h1:i'=i->∀c,o<=j'->cs[j'-o]? =some c->CR ro c v) (h2:(i'≠i\/j'<o\/o+cs.length<=j')->CR ro (f i' j') v):CR ro (setRow f i o cs i' j') v:=by
 unfold setRow
 split
 · rename_i hle
   have hle':=Nat.le_of_ble_eq_true hle
   split
   · rename_i c hc
     refine zipCV_CR _ _ _ _ ?_
     by_cases e:i'=i
     · subst e
       rw [Nat.beq_refl];exact h1 rfl c hle' hc
     · have:Nat.beq i' i=false:=by
        cases hb:Nat.beq i' i with
        | false=>rfl
        | true=>exact absurd (Nat.eq_of_beq_eq_true hb) e
       rw [this];exact h2 (.inl e)
   · rename_i hc
     rw [List.getElem?_eq_none_iff] at hc
     exact h2 (.inr (.inr (by omega)))
 · rename_i hle
   refine h2 (.inr (.inl ?_))
   have:¬o<=j':=fun q=>by rw [Nat.ble_eq_true_of_le q] at hle;simp at hle
   omega
theorem cellAt_some {size:Nat} {dflt:List AV} {cs:T AV} {q:Nat} {u:AV}:cellAt size dflt cs q=some u↔q<size/\(cs.get q).or (dflt[q % dflt.length]?)=some u:=by
 unfold cellAt
 cases hlt:Nat.blt q size with
 | false=>
   have:¬q<size:=fun h=>by rw [<-Nat.blt_eq] at h;rw [h] at hlt;simp at hlt
   simp [this]
 | true=>
   have:q<size:=by simpa [Nat.blt_eq] using hlt
   simp only [cond_true,this,true_and]
   cases cs.get q<;>rfl
noncomputable def psSet (size:Nat) (dflt:List AV) (cs:T AV) (o sz i:Nat) (v:AV) (k:Nat):Option (T AV):=
 Nat.rec (motive:=fun _=>Option (T AV)) (some cs) (fun k ih=>ob ih fun cs'=>ob (cellAt size dflt cs (o+k*sz)) fun old=>ob (zipAV (Nat.beq i k) v old) fun u=>some (cs'.set (o+k*sz) (some u))) k
theorem psSet_s (size:Nat) (dflt:List AV) (cs:T AV) (o sz i:Nat) (v:AV) (k:Nat):psSet size dflt cs o sz i v (k+1)=ob (psSet size dflt cs o sz i v k) fun cs'=>ob (cellAt size dflt cs (o+k*sz)) fun old=>ob (zipAV (Nat.beq i k) v old) fun u=>some (cs'.set (o+k*sz) (some u)):=rfl
theorem psSet_get {size:Nat} {dflt:List AV} {cs:T AV} {o sz i:Nat} {v:AV} (hsz:0<sz):∀{k:Nat} {cs':T AV},psSet size dflt cs o sz i v k=some cs'->∀q,
 (∃r old u,r<k/\q=o+r*sz/\cellAt size dflt cs q=some old/\zipAV (Nat.beq i r) v old=some u/\cs'.get q=some u)\/((∀r,r<k->q≠o+r*sz)/\cs'.get q=cs.get q)
 | 0,cs',h,q=>by
   have h':(some cs:Option (T AV))=some cs':=h
   simp at h';subst h'
   exact .inr ⟨fun r hr=>by omega,rfl⟩
 | k+1,cs',h,q=>by
   simp only [psSet_s,ob_some] at h
   obtain ⟨c1,h1,old,h2,u,h3,e⟩:=h
   simp at e;subst e
   rw [T.get_set]
   by_cases hq:q=o+k*sz
   · rw [if_pos hq]
     exact .inl ⟨k,old,u,by omega,hq,by rw [hq];exact h2,h3,rfl⟩
   · rw [if_neg hq]
     rcases psSet_get hsz h1 q with ⟨r,old',u',a1,a2,a3,a4,a5⟩ | ⟨a1,a2⟩
     · exact .inl ⟨r,old',u',by omega,a2,a3,a4,a5⟩
     · refine .inr ⟨fun r hr=>?_,a2⟩
       by_cases e:r=k
       · subst e;exact hq
       · exact a1 r (by omega)
noncomputable def overF (o:Nat) (cs:List CV) (st sz:Nat) (f:Nat->Nat->CV):Nat->Nat->CV:=fun i j=>match Nat.ble o (st+i*sz+j) && Nat.blt (st+i*sz+j) (o+cs.length) with
 | true=>cs.getD (st+i*sz+j-o) .p0
 | false=>f i j
noncomputable def segSetP (o:Nat) (cs:List CV) (g:Seg):Option Seg:=
 match Nat.ble (g.st+g.n*g.sz) o || Nat.ble (o+cs.length) g.st with
 | true=>some g
 | false=>match Nat.ble o g.st && Nat.ble (g.st+g.n*g.sz) (o+cs.length) with
   | true=>some ⟨g.st,g.sz,g.n,fun i j=>cs.getD (g.st-o+i*g.sz+j) .p0⟩
   | false=>match Nat.ble g.st o && Nat.ble ((o-g.st) % g.sz+cs.length) g.sz with
     | true=>some ⟨g.st,g.sz,g.n,setRow g.f ((o-g.st) / g.sz) ((o-g.st) % g.sz) cs⟩
     | false=>some ⟨g.st,g.sz,g.n,overF o cs g.st g.sz g.f⟩
noncomputable def segSetI (o sz k i:Nat) (cs:List CV) (g:Seg):Option Seg:=
 match Nat.ble (g.st+g.n*g.sz) o || Nat.ble (o+k*sz+cs.length) (g.st+sz) with
 | true=>some g
 | false=>og (Nat.ble g.st o && Nat.ble (o-g.st+cs.length) g.sz && Nat.beq g.sz sz) (some ⟨g.st,g.sz,g.n,setRow g.f i (o-g.st) cs⟩)
noncomputable def segsMap (h:Seg->Option Seg):List Seg->Option (List Seg)
 | []=>some []
 | g :: r=>ob (h g) fun g'=>ob (segsMap h r) fun r'=>some (g' :: r')
theorem segsMap_mem {h:Seg->Option Seg}:∀{l l':List Seg},segsMap h l=some l'->∀g'∈l',∃g∈l,h g=some g'
 | [],l',e,g',hg=>by simp [segsMap] at e;subst e;simp at hg
 | g :: r,l',e,g',hg=>by
   simp only [segsMap,ob_some] at e
   obtain ⟨a,ha,b,hb,e⟩:=e
   simp at e;subst e
   rcases List.mem_cons.1 hg with rfl | hg
   · exact ⟨g,List.mem_cons_self,ha⟩
   · obtain ⟨g0,x,y⟩:=segsMap_mem hb g' hg
     exact ⟨g0,List.mem_cons_of_mem _ x,y⟩
def SegR (ro:Nat->Nat->Option Value) (c:Array Value) (d:Nat) (g:Seg):Prop:=
 ∀(i j:Nat),i<g.n->j<g.sz->∃v':Value,c[d+g.st+i*g.sz+j]? =some v'/\CR ro (g.f i j) v'
theorem row_le {i n sz:Nat} (h:i<n):i*sz+sz<=n*sz:=by
 have:(i+1)*sz<=n*sz:=Nat.mul_le_mul_right _ h
 rw [Nat.add_mul] at this;omega
theorem row_far {i i' sz:Nat} (h:i'≠i):i'*sz+sz<=i*sz\/i*sz+sz<=i'*sz:=by
 rcases Nat.lt_or_gt_of_ne h with a | a
 · exact .inl (row_le a)
 · exact .inr (row_le a)
theorem SegR.row {ro:Nat->Nat->Option Value} {c:Array Value} {d:Nat} {g:Seg} {vs:List Value} {cs:List CV} {i0 o0:Nat} (h:SegR ro c d g) (hi:i0<g.n) (ho:o0+cs.length<=g.sz) (hl:cs.length=vs.length)
 (hcs:∀(k:Nat) (x:CV),cs[k]? =some x->∃v,vs[k]? =some v/\CR ro x v) (hroom:d+g.st+i0*g.sz+o0+vs.length<=c.size) :
 SegR ro (setL c (d+g.st+i0*g.sz+o0) vs) d ⟨g.st,g.sz,g.n,setRow g.f i0 o0 cs⟩:=by
 intro i j hi' hj'
 show ∃v',(setL c (d+g.st+i0*g.sz+o0) vs)[d+g.st+i*g.sz+j]? =some v'/\CR ro (setRow g.f i0 o0 cs i j) v'
 have hj:j<g.sz:=hj'
 rw [setL_get _ c _ _ hroom]
 by_cases hin:d+g.st+i0*g.sz+o0<=d+g.st+i*g.sz+j/\d+g.st+i*g.sz+j<d+g.st+i0*g.sz+o0+vs.length
 · rw [if_pos hin]
   have hii:i=i0:=by
    apply Classical.byContradiction
    intro hne
    rcases row_far (sz:=g.sz) hne<;>omega
   subst hii
   have hjl:j-o0<vs.length:=by omega
   refine ⟨vs[j-o0],by rw [show d+g.st+i*g.sz+j-(d+g.st+i*g.sz+o0)=j-o0 by omega,List.getElem?_eq_getElem hjl],?_⟩
   refine setRow_CR ?_ ?_
   · intro _ x _ hx
     obtain ⟨v,v1,v2⟩:=hcs _ _ hx
     rw [List.getElem?_eq_getElem hjl] at v1
     simp only [Option.some.injEq] at v1
     rw [v1];exact v2
   · intro hor;omega
 · rw [if_neg hin]
   obtain ⟨v,v1,v2⟩:=h i j hi' hj'
   refine ⟨v,v1,setRow_CR ?_ (fun _=>v2)⟩
   intro hii x hoj hx
   exfalso
   subst hii
   have:=(List.getElem?_eq_some_iff.1 hx).1
   omega
theorem SegR.far {ro:Nat->Nat->Option Value} {c:Array Value} {d p:Nat} {g:Seg} {vs:List Value} (h:SegR ro c d g) (hfar:d+g.st+g.n*g.sz<=p\/p+vs.length<=d+g.st) (hroom:p+vs.length<=c.size) :
 SegR ro (setL c p vs) d g:=by
 intro i j hi hj
 have:=row_le (sz:=g.sz) hi
 obtain ⟨v,v1,v2⟩:=h i j hi hj
 refine ⟨v,?_,v2⟩
 rw [setL_get _ c _ _ hroom,if_neg (by omega)]
 exact v1
theorem SegR.whole {ro:Nat->Nat->Option Value} {c:Array Value} {d o:Nat} {g:Seg} {vs:List Value} {cs:List CV} (h1:o<=g.st) (h2:g.st+g.n*g.sz<=o+cs.length) (hl:cs.length=vs.length)
 (hcs:∀(k:Nat) (x:CV),cs[k]? =some x->∃v,vs[k]? =some v/\CR ro x v) (hroom:d+o+vs.length<=c.size) :
 SegR ro (setL c (d+o) vs) d ⟨g.st,g.sz,g.n,fun i j=>cs.getD (g.st-o+i*g.sz+j) .p0⟩:=by
 intro i j hi hj
 have hi':i<g.n:=hi
 have hj':j<g.sz:=hj
 have:=row_le (sz:=g.sz) hi'
 show ∃v',(setL c (d+o) vs)[d+g.st+i*g.sz+j]? =some v'/\CR ro (cs.getD (g.st-o+i*g.sz+j) .p0) v'
 rw [setL_get _ c _ _ hroom,if_pos (by omega)]
 have hk:g.st-o+i*g.sz+j<cs.length:=by omega
 obtain ⟨v,v1,v2⟩:=hcs _ _ (List.getElem?_eq_getElem hk)
 refine ⟨v,by rw [show d+g.st+i*g.sz+j-(d+o)=g.st-o+i*g.sz+j by omega];exact v1,?_⟩
 rw [List.getD_eq_getElem?_getD,List.getElem?_eq_getElem hk]
 exact v2
theorem SegR.over {ro:Nat->Nat->Option Value} {c:Array Value} {d o:Nat} {g:Seg} {vs:List Value} {cs:List CV} (h:SegR ro c d g) (hl:cs.length=vs.length)
 (hcs:∀(k:Nat) (x:CV),cs[k]? =some x->∃v,vs[k]? =some v/\CR ro x v) (hroom:d+o+vs.length<=c.size) :
 SegR ro (setL c (d+o) vs) d ⟨g.st,g.sz,g.n,overF o cs g.st g.sz g.f⟩:=by
 intro i j hi hj
 show ∃v',(setL c (d+o) vs)[d+g.st+i*g.sz+j]? =some v'/\CR ro (overF o cs g.st g.sz g.f i j) v'
 unfold overF
 rw [setL_get _ c _ _ hroom]
 by_cases hb:o<=g.st+i*g.sz+j/\g.st+i*g.sz+j<o+cs.length
 · have hm:(Nat.ble o (g.st+i*g.sz+j) && Nat.blt (g.st+i*g.sz+j) (o+cs.length))=true:=by
    simp only [Bool.and_eq_true,Nat.ble_eq,Nat.blt_eq];exact hb
   rw [if_pos (by omega),hm]
   have hk:g.st+i*g.sz+j-o<cs.length:=by omega
   obtain ⟨v,v1,v2⟩:=hcs _ _ (List.getElem?_eq_getElem hk)
   refine ⟨v,by rw [show d+g.st+i*g.sz+j-(d+o)=g.st+i*g.sz+j-o by omega];exact v1,?_⟩
   simp only
   rw [List.getD_eq_getElem?_getD,List.getElem?_eq_getElem hk]
   exact v2
 · have hm:(Nat.ble o (g.st+i*g.sz+j) && Nat.blt (g.st+i*g.sz+j) (o+cs.length))=false:=by
    rw [Bool.eq_false_iff]
    intro q
    simp only [Bool.and_eq_true,Nat.ble_eq,Nat.blt_eq] at q
    exact hb q
   rw [if_neg (by omega),hm]
   exact h i j hi hj
theorem segSetP_R {ro:Nat->Nat->Option Value} {c:Array Value} {d o size:Nat} {g g':Seg} {vs:List Value} {cs:List CV} (e:segSetP o cs g=some g') (h:SegR ro c d g) (hs:g.st+g.n*g.sz<=size) (hl:cs.length=vs.length)
 (hcs:∀(k:Nat) (x:CV),cs[k]? =some x->∃v,vs[k]? =some v/\CR ro x v) (hroom:d+o+vs.length<=c.size):g'.st+g'.n*g'.sz<=size/\SegR ro (setL c (d+o) vs) d g':=by
 unfold segSetP at e
 split at e
 · rename_i hb
   simp only [Bool.or_eq_true,Nat.ble_eq] at hb
   simp only [Option.some.injEq] at e;subst e
   exact ⟨hs,h.far (by omega) hroom⟩
 · split at e
   · rename_i hb
     simp only [Bool.and_eq_true,Nat.ble_eq] at hb
     simp only [Option.some.injEq] at e;subst e
     exact ⟨hs,SegR.whole hb.1 hb.2 hl hcs hroom⟩
   · rename_i hn _ _
     split at e
     case h_2=>
      simp only [Option.some.injEq] at e;subst e
      exact ⟨hs,SegR.over h hl hcs hroom⟩
     rename_i ha
     simp only [Bool.and_eq_true,Nat.ble_eq] at ha
     obtain ⟨a1,a2⟩:=ha
     simp only [Option.some.injEq] at e
     subst e
     have hn':¬(g.st+g.n*g.sz<=o):=by
      intro q;rw [Nat.ble_eq_true_of_le q] at hn;simp at hn
     have hz:0<g.sz:=by
      rcases Nat.eq_zero_or_pos g.sz with e | e
      · rw [e,Nat.mul_zero] at hn';omega
      · exact e
     have hdm:=Nat.div_add_mod (o-g.st) g.sz
     rw [Nat.mul_comm] at hdm
     have hi:(o-g.st) / g.sz<g.n:=by rw [Nat.div_lt_iff_lt_mul hz];omega
     refine ⟨hs,?_⟩
     have:=h.row (i0:=(o-g.st) / g.sz) (o0:=(o-g.st) % g.sz) hi a2 hl hcs (by omega)
     rw [show d+g.st+(o-g.st) / g.sz*g.sz+(o-g.st) % g.sz=d+o by omega] at this
     exact this
theorem segSetI_R {ro:Nat->Nat->Option Value} {c:Array Value} {d o sz k i size:Nat} {g g':Seg} {vs:List Value} {cs:List CV} (hik:i<k) (hkn:∀g0,g0=g->g.st<=o->¬(g.st+g.n*g.sz<=o)->i<g.n)
 (e:segSetI o sz k i cs g=some g') (h:SegR ro c d g) (hs:g.st+g.n*g.sz<=size) (hl:cs.length=vs.length)
 (hcs:∀(k:Nat) (x:CV),cs[k]? =some x->∃v,vs[k]? =some v/\CR ro x v) (hroom:d+o+i*sz+vs.length<=c.size):g'.st+g'.n*g'.sz<=size/\SegR ro (setL c (d+o+i*sz) vs) d g':=by
 unfold segSetI at e
 split at e
 · rename_i hb
   simp only [Bool.or_eq_true,Nat.ble_eq] at hb
   simp only [Option.some.injEq] at e;subst e
   have:=row_le (sz:=sz) hik
   exact ⟨hs,h.far (by omega) hroom⟩
 · rename_i hn
   simp only [og_some,Bool.and_eq_true,Option.some.injEq,Nat.ble_eq] at e
   obtain ⟨⟨⟨a1,a2⟩,a3⟩,e⟩:=e
   subst e
   have a3':=Nat.eq_of_beq_eq_true a3
   have hn':¬(g.st+g.n*g.sz<=o):=by
    intro q;rw [Nat.ble_eq_true_of_le q] at hn;simp at hn
   refine ⟨hs,?_⟩
   have:=h.row (i0:=i) (o0:=o-g.st) (hkn g rfl a1 hn') a2 hl hcs (by rw [a3'];omega)
   rw [show d+g.st+i*g.sz+(o-g.st)=d+o+i*sz by rw [a3'];omega] at this
   exact this
noncomputable def segKs (o k:Nat):List Seg->Bool
 | []=>true
 | g :: r=>match Nat.ble g.st o && Nat.blt o (g.st+g.n*g.sz) with
   | true=>match Nat.ble k g.n with
     | true=>segKs o k r
     | false=>false
   | false=>segKs o k r
theorem segKs_mem {o k:Nat}:∀{l:List Seg},segKs o k l=true->∀g∈l,g.st<=o->¬(g.st+g.n*g.sz<=o)->k<=g.n
 | [],_,g,hg=>by simp at hg
 | g0 :: r,h,g,hg=>by
   intro a b
   rw [segKs] at h
   split at h
   · split at h
     · rename_i hk
       rcases List.mem_cons.1 hg with rfl | hg
       · exact Nat.le_of_ble_eq_true hk
       · exact segKs_mem h g hg a b
     · simp at h
   · rename_i hb
     rcases List.mem_cons.1 hg with rfl | hg
     · exfalso
       have h1:Nat.ble g.st o=true:=Nat.ble_eq_true_of_le a
       have h2:Nat.blt o (g.st+g.n*g.sz)=true:=by rw [Nat.blt_eq];omega
       rw [h1,h2] at hb;simp at hb
     · exact segKs_mem h g hg a b
noncomputable def oStoreS (P:Program) (H:AH) (t:TypeId) (a x:AV):Option (AH×Prop):=
 ob (infoSize P t) fun n=>og (Nat.beq x.cells.length n) (match a with
 | .pr A sz i o=>match H.get A with
   | some (.rows e sz' m f)=>og (Nat.beq sz sz') (og (Nat.ble (o+x.cells.length) sz) (ob (ofAVs 1 x.cells) fun cvs=>some (H.upd A (some (.rows e sz m (setRow f i o cvs))),i<m)))
   | _=>none
 | .ps A o sz k i=>match x.cells with
   | [v]=>match H.get A with
     | some (.cells e size dflt cs)=>og (Nat.blt 0 sz) (ob (psSet size dflt cs o sz i v k) fun cs'=>some (H.upd A (some (.cells e size dflt cs')),i<k))
     | _=>none
   | _=>none
 | _=>none)
noncomputable def oStoreG (P:Program) (H:AH) (t:TypeId) (a x:AV):Option (AH×Prop):=
 ob (infoSize P t) fun n=>og (Nat.beq x.cells.length n) (ob (ofAVs 1 x.cells) fun cvs=>match a with
 | .p A o=>match H.get A with
   | some (.segs e size l qs)=>og (psOff o (o+n) qs) (og (Nat.ble (o+n) size) (ob (segsMap (segSetP o cvs) l) fun l'=>some (H.upd A (some (.segs e size l' qs)),True)))
   | _=>none
 | .ps A o sz k i=>match H.get A with
   | some (.segs e size l qs)=>og (psOff o (o+k*sz+n) qs) (og (Nat.ble (o+k*sz+n) (size+sz)) (og (segKs o k l) (ob (segsMap (segSetI o sz k i cvs) l) fun l'=>some (H.upd A (some (.segs e size l' qs)),i<k))))
   | _=>none
 | _=>none)
theorem ofAVs_one {ρ:Rho} {esz:Nat} {l:List AV} {r:List CV} (h:ofAVs esz l=some r):r.length=l.length/\∀a∈l,a.one=true:=by
 induction l generalizing r with
 | nil=>simp [ofAVs_nil] at h;subst h;simp
 | cons a l ih=>
   simp only [ofAVs_cons,ob_some] at h
   obtain ⟨c,hc,r',hr,e⟩:=h
   simp at e;subst e
   obtain ⟨h1,h2⟩:=ih hr
   refine ⟨by simp [h1],?_⟩
   intro b hb
   cases hb with
   | head=>cases a<;>simp [ofAV] at hc<;>rfl
   | tail _ hb=>exact h2 b hb
theorem oStoreS_sound {P:Program} {H H':AH} {t:TypeId} {a x:AV} {p:Prop} {ρ:Rho} {w:World} {a' x':Value} (h:oStoreS P H t a x=some (H',p)) (hp:p) (hh:HR ρ H w) (ha:VR ρ a a') (hx:VR ρ x x') :
 GoesU P (Instr.storeAt t a' x') H' ρ H w:=by
 simp only [oStoreS,ob_some,og_some] at h
 obtain ⟨n,hn,h0,h⟩:=h
 have hc:=hx.cells
 have hl:=hc.length
 have h0':=Nat.eq_of_beq_eq_true h0
 have hsz:x'.cells.size=n:=by rw [<-h0',hl];simp
 split at h
 · rename_i A sz i o
   split at h
   · rename_i e sz' m f hA
     simp only [og_some,ob_some,Option.some.injEq,Prod.mk.injEq] at h
     obtain ⟨h1,h2,cvs,hcv,rfl,rfl⟩:=h
     have h1':=Nat.eq_of_beq_eq_true h1
     subst h1'
     have h2':=Nat.le_of_ble_eq_true h2
     have him:i<m:=hp
     cases ha with | pr _ _ _ _ B d N hr=>
     obtain ⟨c,fr,k1,k2,k3,k4,k5⟩:=hh.rows hA hr (by omega)
     have hB:=hh.range _ _ hr
     simp at hB
     obtain ⟨q1,q2⟩:=ofAVs_one (ρ:=ρ) hcv
     obtain ⟨q3,q4⟩:=ofAVs_CR hcv hc
     have hrow:i*sz+sz<=m*sz:=by
      have:(i+1)*sz<=m*sz:=Nat.mul_le_mul_right _ him
      rw [Nat.add_mul] at this;omega
     have hlen:x'.cells.toList.length=x.cells.length:=hl.symm
     have hone:∀v∈x'.cells.toList,v.oneCell'=true:=hc.mem_one (allOne_of q2)
     have hrun:=run_storeCells (P:=P) x'.cells.toList 0 c w (o:=d+i*sz+o) k1 k2 (by omega) hone
     refine ⟨ρ,_,?_,(hh.upd (o':=.rows e sz m (setRow f i o cvs)) (w':=World.putRow w B (.cells (setL c (d+i*sz+o+0) x'.cells.toList) e fr)) hA hr ?_ ?_ (by simp [World.putRow]) rfl rfl rfl)⟩
     · simp [Instr.storeAt,Instr.sureAddr,storeVar,run_sizeOf' hn,hsz,hrun]
     · refine ⟨setL c (d+i*sz+o+0) x'.cells.toList,fr,by rw [putRow_get hB];simp,by simpa [setL_size] using k2,by simpa [setL_size] using k3,by simpa [setL_size] using k4,?_⟩
       intro i' j' hi' hj'
       show ∃v',(setL c (d+i*sz+o+0) x'.cells.toList)[d+i'*sz+j']? =some v'/\_
       rw [setL_get _ c _ _ (by omega)]
       have far:i'≠i->d+i'*sz+j'<d+i*sz\/d+i*sz+sz<=d+i'*sz+j':=by
        intro hne
        rcases Nat.lt_or_gt_of_ne hne with hlt | hgt
        · have:(i'+1)*sz<=i*sz:=Nat.mul_le_mul_right _ hlt
          rw [Nat.add_mul] at this;omega
        · have:(i+1)*sz<=i'*sz:=Nat.mul_le_mul_right _ hgt
          rw [Nat.add_mul] at this;omega
       by_cases hin:d+i*sz+o+0<=d+i'*sz+j'/\d+i'*sz+j'<d+i*sz+o+0+x'.cells.toList.length
       · rw [if_pos hin]
         have hii:i'=i:=by
          apply Classical.byContradiction
          intro hne
          have:=far hne
          omega
         subst hii
         have hjo:o<=j':=by omega
         have hjl:j'-o<x'.cells.toList.length:=by omega
         refine ⟨x'.cells.toList[j'-o],by rw [show d+i'*sz+j'-(d+i'*sz+o+0)=j'-o by omega,List.getElem?_eq_getElem hjl],?_⟩
         refine setRow_CR ?_ ?_
         · intro _ c' _ hc'
           obtain ⟨v,v1,v2⟩:=q4 _ _ hc'
           rw [List.getElem?_eq_getElem hjl] at v1
           simp only [Option.some.injEq] at v1
           rw [v1];exact v2
         · intro hor;omega
       · rw [if_neg hin]
         obtain ⟨v,v1,v2⟩:=k5 i' j' hi' hj'
         refine ⟨v,v1,setRow_CR ?_ (fun _=>v2)⟩
         intro hii c' hoj hc'
         exfalso
         subst hii
         have:=(List.getElem?_eq_some_iff.1 hc').1
         omega
     · intro C hC
       rw [putRow_get hB,if_neg hC]
   · simp at h
 · rename_i A o sz k i
   split at h
   · rename_i v hv
     split at h
     · rename_i e size dflt cs hA
       simp only [og_some,ob_some,Option.some.injEq,Prod.mk.injEq] at h
       obtain ⟨h1,cs',hcs,rfl,rfl⟩:=h
       have h1':0<sz:=by simpa [Nat.blt_eq] using h1
       have hik:i<k:=hp
       have hfit:o+i*sz<size:=by
        rcases psSet_get h1' hcs (o+i*sz) with ⟨r,old,u,a1,a2,a3,a4,a5⟩ | ⟨a1,_⟩
        · exact (cellAt_some.1 a3).1
        · exact absurd rfl (a1 i hik)
       cases ha with | ps _ _ _ _ _ B d N hr=>
       obtain ⟨c,fr,k1,k2,k3,k4,k5⟩:=hh.row hA hr
       have hB:=hh.range _ _ hr
       simp at hB
       rw [hv] at hc hl
       obtain ⟨v',hv',e1⟩:∃v',x'.cells.toList=[v']/\VR ρ v v':=by
        generalize x'.cells.toList=l at hc
        cases hc with | cons _ v' _ r a b=>cases b;exact ⟨v',rfl,a⟩
       have hone:∀u∈[v'],u.oneCell'=true:=by
        intro u hu
        simp at hu;subst hu
        rcases psSet_get h1' hcs (o+i*sz) with ⟨r,old,u,a1,a2,a3,a4,a5⟩ | ⟨a1,_⟩
        · have hv1:v.one=true:=by
           unfold zipAV at a4
           split at a4<;>first | rfl | simp at a4
          exact e1.one hv1
        · exact absurd rfl (a1 i hik)
       have hrun:=run_storeCells (P:=P) [v'] 0 c w (o:=d+o+i*sz) k1 k2 (by simp;omega) hone
       refine ⟨ρ,_,?_,(hh.upd (o':=.cells e size dflt cs') (w':=World.putRow w B (.cells (setL c (d+o+i*sz+0) [v']) e fr)) hA hr ?_ ?_ (by simp [World.putRow]) rfl rfl rfl)⟩
       · simp [Instr.storeAt,Instr.sureAddr,storeVar,run_sizeOf' hn,hsz,hv',hrun]
       · refine ⟨setL c (d+o+i*sz+0) [v'],fr,by rw [putRow_get hB];simp,by simpa [setL_size] using k2,by simpa [setL_size] using k3,by simpa [setL_size] using k4,?_⟩
         intro q u hq
         show ∃v2,(setL c (d+o+i*sz+0) [v'])[d+q]? =some v2/\VR ρ u v2/\u.one=true
         rw [setL_get _ c _ _ (by simp;omega)]
         have hqs:=cellAt_some.1 hq
         rcases psSet_get h1' hcs q with ⟨r,old,u',a1,a2,a3,a4,a5⟩ | ⟨a1,a2⟩
         · rw [a5] at hqs
           simp only [Option.some_or,Option.some.injEq] at hqs
           obtain ⟨hqlt,rfl⟩:=hqs
           obtain ⟨vo,b1,b2,b3⟩:=k5 _ _ a3
           by_cases hri:r=i
           · subst hri
             rw [if_pos (by simp;omega)]
             refine ⟨v',by rw [show d+q-(d+o+r*sz+0)=0 by omega];rfl,?_⟩
             exact zipAV_VR a4 (by rw [Nat.beq_refl];exact e1)
           · have hne:q≠o+i*sz:=by
              intro e
              apply hri
              have:r*sz=i*sz:=by omega
              exact Nat.eq_of_mul_eq_mul_right h1' this
             rw [if_neg (by simp;omega)]
             refine ⟨vo,b1,?_⟩
             have hbf:Nat.beq i r=false:=by
              cases hb:Nat.beq i r with
              | false=>rfl
              | true=>exact absurd (Nat.eq_of_beq_eq_true hb).symm hri
             exact zipAV_VR a4 (by rw [hbf];exact b2)
         · have hne:q≠o+i*sz:=a1 i hik
           rw [if_neg (by simp;omega)]
           exact k5 q u (cellAt_some.2 (by rw [<-a2];exact hqs))
       · intro C hC
         rw [putRow_get hB,if_neg hC]
     · simp at h
   · simp at h
 · simp at h
noncomputable def shiftF (l:Nat) (f:Nat->Nat->CV):Nat->Nat->CV:=Nat.rec (motive:=fun _=>Nat->Nat->CV) f (fun _ _=>fun i j=>f (l+i) j) l
theorem shiftF_eq (l:Nat) (f:Nat->Nat->CV) (i j:Nat):shiftF l f i j=f (l+i) j:=by
 cases l with
 | zero=>show f i j= _;rw [Nat.zero_add]
 | succ l=>rfl
noncomputable def bnd (x:Option AV) (d:Nat):Option (Nat×Prop):=
 match x with
 | none=>some (d,True)
 | some (.i _ n)=>some (n.toNat,0<=n)
 | _=>none
theorem bnd_run {P:Program} {ρ:Rho} {w:World} {isSlice:Bool} {len cap l h:Nat} {pl ph:Prop} {lo hi:Option AV} {lo' hi':Option Value} (hlo:VRo ρ lo lo') (hhi:VRo ρ hi hi')
 (hl:bnd lo 0=some (l,pl)) (hh:bnd hi len=some (h,ph)) (h1:pl) (h2:ph) (h3:l<=h) (h4:h<=cap) (h5:len<=cap) :
 (Instr.sliceBounds isSlice len cap lo' hi' none).run P w=.ok (l,h,cap) w:=by
 have fix:∀{x:Option AV} {x':Option Value} {d m:Nat} {q:Prop},VRo ρ x x'->bnd x d=some (m,q)->q->∃y,VRo ρ y x'/\optN y d=some m/\(y=none↔x=none):=by
  intro x x' d m q hx hb hq
  unfold bnd at hb
  split at hb
  · simp only [Option.some.injEq,Prod.mk.injEq] at hb;obtain ⟨rfl,_⟩:=hb;exact ⟨none,hx,rfl,by simp⟩
  · rename_i k n
    simp only [Option.some.injEq,Prod.mk.injEq] at hb;obtain ⟨rfl,rfl⟩:=hb
    cases hx with | some _ v' hv=>
    cases hv
    have hn:n=Int.ofNat n.toNat:=by have:0<=n:=hq;simp;omega
    refine ⟨some (.i k (Int.ofNat n.toNat)),?_,rfl,by simp⟩
    rw [<-hn];exact .some _ _ (.i _ _)
  · simp at hb
 obtain ⟨y1,a1,a2,_⟩:=fix hlo hl h1
 obtain ⟨y2,b1,b2,b3⟩:=fix hhi hh h2
 exact run_sliceBounds (ρ:=ρ) (mx:=none) a1 b1 .none a2 b2 rfl h3 h4 (Nat.le_refl _) (by simp) (fun _=>h5)
noncomputable def oSliceS (P:Program) (t:TypeId) (x:AV) (lo hi:Option AV):Option (AV×Prop):=
 match P.underlying t with
 | some (.slice e)=>ob (infoSize P e) fun esz=>match x with
   | .sv sz n f=>og (Nat.beq sz esz) (ob (bnd lo 0) fun l=>ob (bnd hi n) fun h=>some (.sv sz (h.1-l.1) (shiftF l.1 f),l.2/\h.2/\l.1<=h.1/\h.1<=n))
   | .lr A sz i len _=>og (Nat.beq sz esz) (ob (bnd lo 0) fun l=>ob (bnd hi len) fun h=>some (.lr A sz (addN i l.1) (h.1-l.1) false,l.2/\h.2/\l.1<=h.1/\h.1<=len/\(l.1=0\/l.1<len)))
   | _=>none
 | some .string=>match x with
   | .s s=>ob (bnd lo 0) fun l=>ob (bnd hi s.length) fun h=>some (.s ((s.drop l.1).take (h.1-l.1)),l.2/\h.2/\l.1<=h.1/\h.1<=s.length)
   | _=>none
 | _=>none
theorem oSliceS_sound {P:Program} {H:AH} {t:TypeId} {x r:AV} {p:Prop} {lo hi:Option AV} {x':Value} {lo' hi':Option Value} {ρ:Rho} {w:World} (h:oSliceS P t x lo hi=some (r,p)) (hp:p) (hh:HR ρ H w)
 (hx:VR ρ x x') (hlo:VRo ρ lo lo') (hhi:VRo ρ hi hi'):GoesV P (Instr.sliceAt t x' lo' hi' none) r H ρ H w:=by
 unfold oSliceS at h
 split at h
 · rename_i e hu
   simp only [ob_some] at h
   obtain ⟨esz,hsz,h⟩:=h
   have run:∀a len cap l h,(Instr.sliceBounds true len cap lo' hi' none).run P w=.ok (l,h,cap) w->(Instr.sliceAt t (.slice a len cap) lo' hi' none).run P w=.ok (.slice (if cap=l then a else a.map (·.add (l*esz))) (h-l) (cap-l)) w:=by
    intro a len cap l h hb
    simp only [Instr.sliceAt,Sem.run_bind,run_underlying' hu,Result.andThen_ok,Instr.slice,hb,run_sizeOf' hsz,Sem.run_pure]
   split at h
   · rename_i sz n f
     simp only [og_some,ob_some,Option.some.injEq,Prod.mk.injEq] at h
     obtain ⟨h1,⟨l,pl⟩,hl,⟨hI,ph⟩,hH,rfl,rfl⟩:=h
     have h1':=Nat.eq_of_beq_eq_true h1
     subst h1'
     obtain ⟨p1,p2,p3,p4⟩:pl/\ph/\l<=hI/\hI<=n:=hp
     cases hx with | sv _ _ _ _ hc=>
     cases hc with
     | sv0=>
       have hb:=bnd_run (P:=P) (w:=w) (isSlice:=true) (len:=0) (cap:=0) hlo hhi hl hH p1 p2 p3 p4 (Nat.le_refl _)
       obtain rfl:hI=0:=by omega
       obtain rfl:l=0:=by omega
       refine GoesV.pure (v':=.slice none 0 0) hh (.sv _ _ _ _ (.sv0 _ _)) ?_
       rw [run _ _ _ _ _ hb];rfl
     | svz _ _ a c=>
       have hb:=bnd_run (P:=P) (w:=w) (isSlice:=true) (len:=0) (cap:=c) hlo hhi hl hH p1 p2 p3 (by omega) (Nat.zero_le _)
       obtain rfl:hI=0:=by omega
       obtain rfl:l=0:=by omega
       refine GoesV.pure hh ?_ (run _ _ _ _ _ hb)
       split<;>exact .sv _ _ _ _ (.svz _ _ _ _)
     | sv _ _ _ B o cap g a1 a2 a3=>
       have hb:=bnd_run (P:=P) (w:=w) (isSlice:=true) (len:=n) (cap:=cap) hlo hhi hl hH p1 p2 p3 (by omega) a1
       refine GoesV.pure hh ?_ (run _ _ _ _ _ hb)
       by_cases hcl:cap=l
       · rw [if_pos hcl]
         have e0:hI-l=0:=by omega
         simp only at e0⊢
         rw [e0]
         exact .sv _ _ _ _ (.sv _ _ _ B o _ (fun _ _=>undef) (by omega) (fun i j hi _=>by omega) (fun i j hi _=>by omega))
       · rw [if_neg hcl]
         simp only [Option.map_some,addr_add]
         refine .sv _ _ _ _ (.sv _ _ _ B _ _ (fun i j=>g (l+i) j) (by simp;omega) (fun i j hi hj=>?_) (fun i j hi hj=>?_))
         · rw [<-a2 (l+i) j (by omega) hj];congr 1;rw [Nat.add_mul];omega
         · rw [shiftF_eq];exact a3 _ _ (by omega) hj
   · rename_i A sz i len ex
     simp only [og_some,ob_some,Option.some.injEq,Prod.mk.injEq] at h
     obtain ⟨h1,⟨l,pl⟩,hl,⟨hI,ph⟩,hH,rfl,rfl⟩:=h
     have h1':=Nat.eq_of_beq_eq_true h1
     subst h1'
     obtain ⟨p1,p2,p3,p4,p5⟩:pl/\ph/\l<=hI/\hI<=len/\(l=0\/l<len):=hp
     simp only
     cases hx with
     | lr0=>
       have hb:=bnd_run (P:=P) (w:=w) (isSlice:=true) (len:=0) (cap:=0) hlo hhi hl hH p1 p2 p3 p4 (Nat.le_refl _)
       obtain rfl:hI=0:=by omega
       obtain rfl:l=0:=by omega
       refine GoesV.pure (v':=.slice none 0 0) hh (.lr0 _ _ _ _) ?_
       rw [run _ _ _ _ _ hb];rfl
     | lr _ _ _ _ _ B d N cap' hr b1 b2 b3=>
       have hb:=bnd_run (P:=P) (w:=w) (isSlice:=true) (len:=len) (cap:=cap') hlo hhi hl hH p1 p2 p3 (by omega) b1
       refine GoesV.pure hh ?_ (run _ _ _ _ _ hb)
       rw [addN_eq]
       have hroom:l*sz<=cap'*sz:=Nat.mul_le_mul_right _ (by omega)
       have haddr:(if cap'=l then some (⟨B,d+i*sz,none⟩:Addr) else (some (⟨B,d+i*sz,none⟩:Addr)).map (·.add (l*sz)))=some ⟨B,d+(i+l)*sz,none⟩:=by
        by_cases hcl:cap'=l
        · rw [if_pos hcl]
          rcases p5 with rfl | p5
          · simp
          · omega
        · rw [if_neg hcl]
          simp [addr_add,Nat.add_mul,Nat.add_assoc]
       rw [haddr]
       refine .lr A sz (i+l) (hI-l) false B d N (cap'-l) hr (by omega) (fun q=>by simp at q) ?_
       rw [Nat.add_mul,Nat.sub_mul];omega
   · simp at h
 · rename_i hu
   split at h
   · rename_i s
     simp only [ob_some,Option.some.injEq,Prod.mk.injEq] at h
     obtain ⟨⟨l,pl⟩,hl,⟨hI,ph⟩,hH,rfl,rfl⟩:=h
     obtain ⟨p1,p2,p3,p4⟩:pl/\ph/\l<=hI/\hI<=s.length:=hp
     cases hx with
     | s _ s' hs=>
     have hsz:s'.size=s.length:=by rw [<-hs];simp
     have hb:=bnd_run (P:=P) (w:=w) (isSlice:=false) (len:=s'.size) (cap:=s'.size) hlo hhi hl (by rw [hsz];exact hH) p1 p2 p3 (by omega) (Nat.le_refl _)
     refine GoesV.pure hh (.s _ (s'.extract l hI) ?_) ?_
     · rw [<-hs]
       simp [ByteArray.data_extract,List.extract_eq_take_drop]
     · simp only [Instr.sliceAt,Sem.run_bind,run_underlying' hu,Result.andThen_ok,Instr.slice,Option.isSome,Bool.false_eq_true,if_false,hb,Sem.run_pure]
   · simp at h
 · simp at h
theorem oStoreG_sound {P:Program} {H H':AH} {t:TypeId} {a x:AV} {p:Prop} {ρ:Rho} {w:World} {a' x':Value} (h:oStoreG P H t a x=some (H',p)) (hp:p) (hh:HR ρ H w) (ha:VR ρ a a') (hx:VR ρ x x') :
 GoesU P (Instr.storeAt t a' x') H' ρ H w:=by
 simp only [oStoreG,ob_some,og_some] at h
 obtain ⟨n,hn,h0,cvs,hcv,h⟩:=h
 have hc:=hx.cells
 have hl:=hc.length
 have h0':=Nat.eq_of_beq_eq_true h0
 have hsz:x'.cells.size=n:=by rw [<-h0',hl];simp
 obtain ⟨q1,q2⟩:=ofAVs_one (ρ:=ρ) hcv
 obtain ⟨q3,q4⟩:=ofAVs_CR hcv hc
 have hlen:x'.cells.toList.length=n:=by simpa using hsz
 have hone:∀v∈x'.cells.toList,v.oneCell'=true:=hc.mem_one (allOne_of q2)
 split at h
 · rename_i A o
   split at h
   · rename_i e size l qs hA
     simp only [og_some,ob_some,Option.some.injEq,Prod.mk.injEq] at h
     obtain ⟨h0q,h1,l',hl',rfl,rfl⟩:=h
     have h1':=Nat.le_of_ble_eq_true h1
     cases ha with | p _ _ B d N hr=>
     obtain ⟨c,fr,k1,k2,k3,k4,k5,k6⟩:=hh.segs hA hr
     have hB:=hh.range _ _ hr
     simp at hB
     have hrun:=run_storeCells (P:=P) x'.cells.toList 0 c w (o:=d+o) k1 k2 (by omega) hone
     refine ⟨ρ,_,?_,(hh.upd (o':=.segs e size l' qs) (w':=World.putRow w B (.cells (setL c (d+o+0) x'.cells.toList) e fr)) hA hr ?_ ?_ (by simp [World.putRow]) rfl rfl rfl)⟩
     · simp [Instr.storeAt,Instr.sureAddr,storeVar,run_sizeOf' hn,hsz,hrun]
     · refine ⟨setL c (d+o+0) x'.cells.toList,fr,by rw [putRow_get hB];simp,by simpa [setL_size] using k2,by simpa [setL_size] using k3,by simpa [setL_size] using k4,?_,?_⟩
       · intro g' hg'
         obtain ⟨g,hg,e1⟩:=segsMap_mem hl' g' hg'
         exact segSetP_R (d:=d) e1 (k5 g hg).2 (k5 g hg).1 q3 q4 (by omega)
       · intro y hy
         obtain ⟨y1,v',y2,y3⟩:=k6 y hy
         have:=psOff_mem h0q y hy
         refine ⟨y1,v',?_,y3⟩
         show (setL c _ _)[d+y.1]? =some v'
         rw [setL_get _ c _ _ (by omega),if_neg (by omega)]
         exact y2
     · intro C hC
       rw [putRow_get hB,if_neg hC]
   · simp at h
 · rename_i A o sz k i
   split at h
   · rename_i e size l qs hA
     simp only [og_some,ob_some,Option.some.injEq,Prod.mk.injEq] at h
     obtain ⟨h0q,h1,h2,l',hl',rfl,rfl⟩:=h
     have h1':=Nat.le_of_ble_eq_true h1
     have hik:i<k:=hp
     have hrow:=row_le (sz:=sz) hik
     cases ha with | ps _ _ _ _ _ B d N hr=>
     obtain ⟨c,fr,k1,k2,k3,k4,k5,k6⟩:=hh.segs hA hr
     have hB:=hh.range _ _ hr
     simp at hB
     have hrun:=run_storeCells (P:=P) x'.cells.toList 0 c w (o:=d+o+i*sz) k1 k2 (by omega) hone
     refine ⟨ρ,_,?_,(hh.upd (o':=.segs e size l' qs) (w':=World.putRow w B (.cells (setL c (d+o+i*sz+0) x'.cells.toList) e fr)) hA hr ?_ ?_ (by simp [World.putRow]) rfl rfl rfl)⟩
     · simp [Instr.storeAt,Instr.sureAddr,storeVar,run_sizeOf' hn,hsz,hrun]
     · refine ⟨setL c (d+o+i*sz+0) x'.cells.toList,fr,by rw [putRow_get hB];simp,by simpa [setL_size] using k2,by simpa [setL_size] using k3,by simpa [setL_size] using k4,?_,fun y hy=>?_⟩
       rotate_left
       · obtain ⟨y1,v',y2,y3⟩:=k6 y hy
         have:=psOff_mem h0q y hy
         refine ⟨y1,v',?_,y3⟩
         show (setL c _ _)[d+y.1]? =some v'
         rw [setL_get _ c _ _ (by omega),if_neg (by omega)]
         exact y2
       intro g' hg'
       obtain ⟨g,hg,e1⟩:=segsMap_mem hl' g' hg'
       exact segSetI_R (d:=d) hik (fun _ _ a b=>Nat.lt_of_lt_of_le hik (segKs_mem h2 g hg a b)) e1 (k5 g hg).2 (k5 g hg).1 q3 q4 (by omega)
     · intro C hC
       rw [putRow_get hB,if_neg hC]
   · simp at h
 · simp at h
end Go.Sim
/- Operations over values that are not known, continued: appends, new slices, conversions. -/
namespace Go.Sim
open Go
noncomputable def listF (sz:Nat) (cvs:List CV) (len:Nat):Nat->Nat->CV:=
 Nat.rec (motive:=fun _=>List CV->Nat->Nat->CV) (fun _ _ _=>.p0)
  (fun n ih cvs=>Nat.rec (motive:=fun _=>Nat->Nat->CV) (fun _ j=>cvs.getD j .p0) (fun _ _=>fun i j=>zipCV (Nat.beq i 0) (cvs.getD j .p0) (ih (cvs.drop sz) (i-1) j)) n) len cvs
theorem listF_1 (sz:Nat) (cvs:List CV) (i j:Nat):listF sz cvs 1 i j=cvs.getD j .p0:=rfl
theorem listF_s (sz:Nat) (cvs:List CV) (n i j:Nat):listF sz cvs (n+2) i j=zipCV (Nat.beq i 0) (cvs.getD j .p0) (listF sz (cvs.drop sz) (n+1) (i-1) j):=rfl
theorem listF_CR {ro:Nat->Nat->Option Value} {sz:Nat}:∀(len:Nat) (cvs:List CV) (i j:Nat) (v:Value),i<len->j<sz->CR ro (cvs.getD (i*sz+j) .p0) v->CR ro (listF sz cvs len i j) v
 | 0,cvs,i,j,v,hi,hj,h=>by omega
 | 1,cvs,i,j,v,hi,hj,h=>by
   obtain rfl:i=0:=by omega
   rw [listF_1];simpa using h
 | n+2,cvs,i,j,v,hi,hj,h=>by
   rw [listF_s]
   refine zipCV_CR _ _ _ _ ?_
   cases i with
   | zero=>simpa using h
   | succ i=>
     have:Nat.beq (i+1) 0=false:=rfl
     rw [this]
     refine listF_CR (n+1) (cvs.drop sz) i j v (by omega) hj ?_
     have e:(i+1)*sz+j=sz+(i*sz+j):=by rw [Nat.add_mul];omega
     rw [e] at h
     simpa [List.getD_eq_getElem?_getD,List.getElem?_drop] using h
theorem appF_CR {ro:Nat->Nat->Option Value} {n:Nat} {f g:Nat->Nat->CV} {i j:Nat} {v:Value} (h1:i<n->CR ro (f i j) v) (h2:n<=i->CR ro (g (i-n) j) v):CR ro (appF n f g i j) v:=by
 refine zipCV_CR _ _ _ _ ?_
 cases hlt:Nat.blt i n with
 | true=>exact h1 (by simpa [Nat.blt_eq] using hlt)
 | false=>
   refine h2 ?_
   have:¬i<n:=fun h=>by rw [<-Nat.blt_eq] at h;rw [h] at hlt;simp at hlt
   omega
noncomputable def srcS (H:AH) (sz:Nat) (z:List AV) (zeros:Bool) (y:AV):Option ((Nat->Nat->CV)×Nat×Prop):=
 match zeros with
 | true=>match y with
   | .i _ n=>ob (ofAVs 1 z) fun c=>some (fun _ j=>c.getD j .p0,n.toNat,0<=n)
   | _=>none
 | false=>match y with
   | .sv s n f=>og (Nat.beq s sz) (some (f,n,True))
   | .lr A s i n _=>og (Nat.beq s sz) (match H.get A with
     | some (.rows _ s' m f)=>og (Nat.beq s s') (some (shiftF i f,n,i+n<=m))
     | _=>none)
   | .s l=>og (Nat.beq sz 1) (some (fun i _=>.i .u8 (.ofNat (l.getD i 0)),l.length,True))
   | .l0=>some (fun _ _=>.p0,0,True)
   | .lz=>some (fun _ _=>.p0,0,True)
   | .l A o len _ s _=>og (Nat.beq s sz) (match H.get A with
     | some (.cells _ size dflt cs)=>ob (readN size dflt cs o (len*sz)) fun l=>ob (ofAVs 1 l) fun c=>some (listF sz c len,len,True)
     | _=>none)
   | _=>none
def RowsAre (ro:Nat->Nat->Option Value) (g:Nat->Nat->CV) (n sz:Nat) (vs:List Value):Prop:=
 vs.length=n*sz/\(∀v∈vs,v.oneCell'=true)/\∀i j,i<n->j<sz->∃v,vs[i*sz+j]? =some v/\CR ro (g i j) v
theorem rowsAre_of {ro:Nat->Nat->Option Value} {g:Nat->Nat->CV} {n sz:Nat} {vs:List Value} (hl:vs.length=n*sz) (h:∀i j,i<n->j<sz->∃v,vs[i*sz+j]? =some v/\CR ro (g i j) v):RowsAre ro g n sz vs:=by
 refine ⟨hl,?_,h⟩
 intro v hv
 obtain ⟨q,hq⟩:=List.getElem?_of_mem hv
 have hlt:=(List.getElem?_eq_some_iff.1 hq).1
 have hsz:0<sz:=by
  rcases Nat.eq_zero_or_pos sz with e | e
  · rw [e] at hl;simp at hl;rw [hl] at hlt;simp at hlt
  · exact e
 have e:=Nat.div_add_mod q sz
 obtain ⟨u,h1,h2⟩:=h (q / sz) (q % sz) (by rw [Nat.div_lt_iff_lt_mul hsz];omega) (Nat.mod_lt _ hsz)
 rw [show q / sz*sz+q % sz=q by rw [Nat.mul_comm];exact e,hq] at h1
 simp at h1;subst h1
 exact h2.nonagg.2
theorem run_readRows {P:Program} {w:World} {B o n sz:Nat} {c:Array Value} {e:TypeId} {fr:Nat×Nat} {ro:Nat->Nat->Option Value} {g:Nat->Nat->CV} (h:w.heap[B]? =some (.cells c e fr))
 (hc:o+n*sz<=c.size) (hg:∀i j,i<n->j<sz->∃v,c[o+i*sz+j]? =some v/\CR ro (g i j) v):∃vs:List Value,(loadCells ⟨B,o,none⟩ (n*sz)).run P w=.ok vs.toArray w/\RowsAre ro g n sz vs:=by
 refine ⟨(c.extract o (o+n*sz)).toList,by rw [run_loadCells h hc],rowsAre_of (by simp;omega) ?_⟩
 intro i j hi hj
 obtain ⟨v,h1,h2⟩:=hg i j hi hj
 refine ⟨v,?_,h2⟩
 have:(i+1)*sz<=n*sz:=Nat.mul_le_mul_right _ hi
 rw [Nat.add_mul] at this
 simp only [Array.getElem?_toList,Array.getElem?_extract]
 rw [if_pos (by omega),<-h1];congr 1;omega
theorem srcS_run {P:Program} {H:AH} {sz:Nat} {z:List AV} {y:AV} {y':Value} {g:Nat->Nat->CV} {n:Nat} {p:Prop} {ρ:Rho} {w:World} (h:srcS H sz z false y=some (g,n,p)) (hp:p) (hsz:0<sz) (hh:HR ρ H w) (hy:VR ρ y y') :
 (Builtin.lenOf y').run P w=.ok n w/\∃vs:List Value,(Builtin.firstCells sz n y').run P w=.ok vs.toArray w/\RowsAre ρ.ro g n sz vs:=by
 have empty:∀(g:Nat->Nat->CV),RowsAre ρ.ro g 0 sz []:=fun g=>⟨by simp,by simp,fun i j hi=>by omega⟩
 unfold srcS at h
 simp only at h
 split at h
 · rename_i s m f
   simp only [og_some,Option.some.injEq,Prod.mk.injEq] at h
   obtain ⟨h1,rfl,rfl,rfl⟩:=h
   have h1':=Nat.eq_of_beq_eq_true h1
   subst h1'
   cases hy with | sv _ _ _ _ hc=>
   cases hc with
   | sv0=>exact ⟨by simp [Builtin.lenOf],[],by simp [Builtin.firstCells],empty _⟩
   | svz=>exact ⟨by simp [Builtin.lenOf],[],by simp [Builtin.firstCells,loadCells,loadCellsFrom],empty _⟩
   | sv _ _ _ B o cap g a1 a2 a3=>
     refine ⟨by simp [Builtin.lenOf],?_⟩
     rcases Nat.eq_zero_or_pos m with rfl | hm
     · exact ⟨[],by simp [Builtin.firstCells,loadCells,loadCellsFrom],empty _⟩
     · obtain ⟨c,e,fr,k1,k2⟩:∃c e fr,w.heap[B]? =some (.cells c e fr)/\∀i j,i<m->j<s->c[o+i*s+j]? =some (g i j):=by
        obtain ⟨c,e,fr,q1,_⟩:=hh.ro B _ _ (a2 0 0 hm hsz)
        refine ⟨c,e,fr,q1,fun i j hi hj=>?_⟩
        obtain ⟨c',e',fr',q2,q3⟩:=hh.ro B _ _ (a2 i j hi hj)
        rw [q1] at q2;simp at q2;obtain ⟨rfl,rfl,rfl⟩:=q2
        exact q3
       have hsize:o+m*s<=c.size:=by
        have:=k2 (m-1) (s-1) (by omega) (by omega)
        have hlt:=(Array.getElem?_eq_some_iff.1 this).1
        have e:(m-1)*s+s=m*s:=by
         have:(m-1+1)*s=m*s:=by congr 1;omega
         rw [Nat.add_mul] at this;omega
        omega
       obtain ⟨vs,v1,v2⟩:=run_readRows (P:=P) (ro:=ρ.ro) (g:=f) (n:=m) (sz:=s) k1 hsize (fun i j hi hj=>⟨g i j,k2 i j hi hj,a3 i j hi hj⟩)
       exact ⟨vs,by simpa [Builtin.firstCells] using v1,v2⟩
 · rename_i A s i m ex
   simp only [og_some] at h
   obtain ⟨h1,h⟩:=h
   have h1':=Nat.eq_of_beq_eq_true h1
   subst h1'
   split at h
   · rename_i e s' m' f hA
     simp only [og_some,Option.some.injEq,Prod.mk.injEq] at h
     obtain ⟨h2,rfl,rfl,rfl⟩:=h
     have h2':=Nat.eq_of_beq_eq_true h2
     subst h2'
     have him:i+m<=m':=hp
     cases hy with
     | lr0=>exact ⟨by simp [Builtin.lenOf],[],by simp [Builtin.firstCells],empty _⟩
     | lr _ _ _ _ _ B d N cap' hr b1 b2 b3=>
       refine ⟨by simp [Builtin.lenOf],?_⟩
       rcases Nat.eq_zero_or_pos m with rfl | hm
       · exact ⟨[],by simp [Builtin.firstCells,loadCells,loadCellsFrom],empty _⟩
       · obtain ⟨c,fr,k1,k2,k3,k4,k5⟩:=hh.rows hA hr (by omega)
         have hle:(i+m)*s<=m'*s:=Nat.mul_le_mul_right _ him
         rw [Nat.add_mul] at hle
         obtain ⟨vs,v1,v2⟩:=run_readRows (P:=P) (ro:=ρ.ro) (g:=shiftF i f) (n:=m) (sz:=s) (o:=d+i*s) k1 (by omega) (fun a j ha hj=>by
          obtain ⟨v,q1,q2⟩:=k5 (i+a) j (by omega) hj
          exact ⟨v,by rw [<-q1,Nat.add_mul];congr 1;omega,by rw [shiftF_eq];exact q2⟩)
         exact ⟨vs,by simpa [Builtin.firstCells] using v1,v2⟩
   · simp at h
 · rename_i l
   simp only [og_some,Option.some.injEq,Prod.mk.injEq] at h
   obtain ⟨h1,rfl,rfl,rfl⟩:=h
   have h1':=Nat.eq_of_beq_eq_true h1
   subst h1'
   cases hy with
   | s _ s hs'=>
   have hsz:s.size=l.length:=by rw [<-hs'];simp
   refine ⟨by simp [Builtin.lenOf,hsz],s.data.toList.map fun b=>Value.int .u8 b.toNat,?_,rowsAre_of (by simp [hsz]) ?_⟩
   · simp only [Builtin.firstCells,Sem.run_pure]
     congr 1
     rw [<-hsz]
     apply Array.ext'
     simp [ByteArray.data_extract]
   · intro i j hi hj
     obtain rfl:j=0:=by omega
     subst hs'
     have hi':i<s.data.toList.length:=by simpa using hi
     refine ⟨.int .u8 (s.data.toList[i].toNat),by simp [List.getElem?_eq_getElem hi'],?_⟩
     have e:(s.data.toList.map UInt8.toNat).getD i 0=s.data.toList[i].toNat:=by
      rw [List.getD_eq_getElem?_getD,List.getElem?_map,List.getElem?_eq_getElem hi'];rfl
     show CR ρ.ro (.i .u8 (.ofNat ((s.data.toList.map UInt8.toNat).getD i 0))) _
     rw [e];exact .i _ _
 · simp only [Option.some.injEq,Prod.mk.injEq] at h
   obtain ⟨rfl,rfl,rfl⟩:=h
   cases hy
   exact ⟨by simp [Builtin.lenOf],[],by simp [Builtin.firstCells],empty _⟩
 · simp only [Option.some.injEq,Prod.mk.injEq] at h
   obtain ⟨rfl,rfl,rfl⟩:=h
   cases hy
   exact ⟨by simp [Builtin.lenOf],[],by simp [Builtin.firstCells,loadCells,loadCellsFrom],empty _⟩
 · rename_i A o len cap s ex
   simp only [og_some] at h
   obtain ⟨h1,h⟩:=h
   have h1':=Nat.eq_of_beq_eq_true h1
   subst h1'
   split at h
   · rename_i e size dflt cs hA
     simp only [ob_some,Option.some.injEq,Prod.mk.injEq] at h
     obtain ⟨l,hl,c,hc,rfl,rfl,rfl⟩:=h
     cases hy with
     | l A o len cap s ex B d N cap' hr=>
     obtain ⟨vs,g1,g2,g3⟩:=hh.readN (P:=P) hA hr hl
     obtain ⟨q1,q2⟩:=ofAVs_CR hc g1
     have hll:=(readN_get _ _ _ hl).1
     have hcl:=(ofAVs_one (ρ:=ρ) hc).1
     refine ⟨by simp [Builtin.lenOf],vs,by simpa [Builtin.firstCells] using g3,rowsAre_of (by omega) ?_⟩
     intro i j hi hj
     have hlt:i*s+j<c.length:=by
      have:(i+1)*s<=len*s:=Nat.mul_le_mul_right _ hi
      rw [Nat.add_mul] at this;omega
     obtain ⟨v,v1,v2⟩:=q2 (i*s+j) c[i*s+j] (List.getElem?_eq_getElem hlt)
     exact ⟨v,v1,listF_CR _ _ _ _ _ hi hj (by rw [List.getD_eq_getElem?_getD,List.getElem?_eq_getElem hlt];exact v2)⟩
   · simp at h
 · simp at h
noncomputable def dstS (H:AH) (e:TypeId) (sz:Nat) (pos:Bool) (x:AV):Option (Option Nat×(Nat->Nat->CV)×Nat×Prop):=
 match x with
 | .l0=>some (none,fun _ _=>.p0,0,True)
 | .lr A s i n ex=>og (Nat.beq s sz) (match H.get A with
   | some (.rows e' s' m f)=>og (Nat.beq e' e || (ex && pos)) (og (Nat.beq s s') (some (some A,shiftF i f,n,i+n<=m)))
   | _=>none)
 | .l A o len _ s _=>og (Nat.beq s sz) (match H.get A with
   | some (.cells e' size dflt cs)=>og (Nat.beq e' e) (ob (readN size dflt cs o (len*sz)) fun l=>ob (ofAVs 1 l) fun c=>some (some A,listF sz c len,len,True))
   | _=>none)
 | _=>none
noncomputable def goneA (H:AH):Option Nat->AH
 | none=>H
 | some A=>H.upd A none
def DstIs (pos:Bool) (ρ:Rho) (H:AH) (w:World) (A:Option Nat) (e:TypeId) (f:Nat->Nat->CV) (sz:Nat) (base:Option Addr) (sLen sCap:Nat):Prop:=
 (base=none/\sLen=0/\sCap=0)\/∃A0 B q0 N d o c fr,A=some A0/\base=some ⟨B,q0,none⟩/\H.get A0=some o/\ρ A0=some (B,d,N)/\(∃e',w.heap[B]? =some (.cells c e' fr)/\(e'=e\/(sCap=sLen/\pos=true)))/\FrOk fr c.size/\c.size=N/\
   q0+sCap*sz<=N/\sLen<=sCap/\∀i j,i<sLen->j<sz->∃v,c[q0+i*sz+j]? =some v/\CR ρ.ro (f i j) v
theorem HR.newVoid {ρ:Rho} {H:AH} {w:World} {o:AObj} (h:HR ρ H w) (hf:ρ H.next=none) (ho:o.void):HR ρ (H.new o) w/\Ext ρ H w ρ (H.new o) w:=by
 have hn:∀A o' x,(H.new o).get A=some o'->ρ A=some x->H.get A=some o':=by
  intro A o' x hA hx
  rw [AH.get_new] at hA
  split at hA
  · rename_i e;subst e;rw [hf] at hx;simp at hx
  · exact hA
 refine ⟨⟨?_,fun A A' o1 o2 x x' a b c d=>h.inj A A' o1 o2 x x' (hn _ _ _ a c) (hn _ _ _ b d) c d,h.range,h.ro,fun B j v hv A o1 x hA hx=>h.rox B j v hv A o1 x (hn _ _ _ hA hx) hx⟩,
  ⟨Nat.le_succ _,.refl _,fun _ _ q=>.inl q,Nat.le_refl _,fun _ _ _=>rfl,fun A o1 x hA hx=>.inr ⟨A,o1,x,hn _ _ _ hA hx,hx,rfl⟩,fun _ _ _ q=>.inl q,rfl,rfl,rfl⟩⟩
 intro A o1 hA
 rw [AH.get_new] at hA
 split at hA
 · rename_i e;simp at hA;subst hA;subst e;exact .inr ⟨ho,hf⟩
 · exact h.live A o1 hA
theorem gone_sub (H:AH) (A:Option Nat) (o:AObj):∀(B:Nat) (o':AObj),((goneA H A).new o).get B=some o'->(H.new o).get B=some o':=by
 intro B o' hB
 cases A with
 | none=>exact hB
 | some A=>
   rw [AH.get_new] at hB⊢
   have hn:(goneA H (some A)).next=H.next:=rfl
   rw [hn] at hB
   split at hB
   · rename_i e1;rw [if_pos e1];exact hB
   · rename_i e1
     rw [if_neg e1]
     have hg:(goneA H (some A)).get B=if B=A then none else H.get B:=AH.get_upd _ _ _ _
     rw [hg] at hB
     split at hB
     · simp at hB
     · exact hB
theorem appS {P:Program} {pos:Bool} {H:AH} {e:TypeId} {sz n:Nat} {z:Value} {A:Option Nat} {f g F:Nat->Nat->CV} {base:Option Addr} {sLen sCap:Nat} {app:Sem (Array Value)} {ρ:Rho} {w:World}
 (hh:HR ρ H w) (hfr:ρ H.next=none) (hps:pos=true->0<n) (hd:DstIs pos ρ H w A e f sz base sLen sCap) (hz:z.cells.size=sz)
 (happ:∀w,HR ρ H w->∃vs:List Value,app.run P w=.ok vs.toArray w/\RowsAre ρ.ro g n sz vs)
 (hF1:∀i j v,i<sLen->CR ρ.ro (f i j) v->CR ρ.ro (F i j) v) (hF2:∀i j v,sLen<=i->CR ρ.ro (g (i-sLen) j) v->CR ρ.ro (F i j) v) :
 GoesV P (appTail e sz z base sLen sCap n app) (.lr H.next sz 0 (sLen+n) false) ((goneA H A).new (.rows e sz (sLen+n) F)) ρ H w:=by
 by_cases hin:sLen+n<=sCap
 · rcases hd with ⟨rfl,rfl,rfl⟩ | ⟨A0,B,q0,N,d,o,c,fr,rfl,rfl,hA,hr,⟨e',h1,hee⟩,h2,h3,h4,h5,h6⟩
   · -- nil stays nil
     obtain rfl:n=0:=by omega
     obtain ⟨vs,a1,a2⟩:=happ w hh
     have hv:=hh.newVoid (o:=.rows e sz (0+0) F) hfr rfl
     refine ⟨.slice none 0 0,ρ,w,?_,.lr0 _ _ _ _,hv.1.sub (gone_sub H A _),hv.2.sub (gone_sub H A _) ?_⟩
     · simp [appTail,a1]
     · cases A<;>rfl
   · -- in place
     have hee':e=e':=by
      rcases hee with q | ⟨q1,q2⟩
      · exact q.symm
      · have:=hps q2;omega
     subst hee'
     obtain ⟨vs,a1,a2,a3,a4⟩:=happ w hh
     have hB:=hh.range _ _ hr
     simp at hB
     have hroom:(sLen+n)*sz<=sCap*sz:=Nat.mul_le_mul_right _ hin
     rw [Nat.add_mul] at hroom
     have hrun:=run_storeCells (P:=P) vs 0 c w (o:=q0+sLen*sz) h1 h2 (by omega) a3
     obtain ⟨g1,g2⟩:=HR.move (x':=(B,q0,N)) (o':=.rows e sz (sLen+n) F) (w':=World.putRow w B (.cells (setL c (q0+sLen*sz+0) vs) e fr)) hh hA hr rfl hfr (by
      refine ⟨setL c (q0+sLen*sz+0) vs,fr,by rw [putRow_get hB];simp,by simpa [setL_size] using h2,by simpa [setL_size] using h3,?_,?_⟩
      · simp only [setL_size];rw [Nat.add_mul];omega
      · intro i j hi hj
        show ∃v',(setL c (q0+sLen*sz+0) vs)[q0+i*sz+j]? =some v'/\CR ρ.ro (F i j) v'
        rw [setL_get vs c _ _ (by omega)]
        by_cases hil:i<sLen
        · have:(i+1)*sz<=sLen*sz:=Nat.mul_le_mul_right _ hil
          rw [Nat.add_mul] at this
          rw [if_neg (by omega)]
          obtain ⟨v,b1,b2⟩:=h6 i j hil hj
          exact ⟨v,b1,hF1 i j v hil b2⟩
        · obtain ⟨k,rfl⟩:∃k,i=sLen+k:=⟨i-sLen,by omega⟩
          have hk:k<n:=by omega
          have:(k+1)*sz<=n*sz:=Nat.mul_le_mul_right _ hk
          rw [Nat.add_mul] at this
          rw [Nat.add_mul,if_pos (by omega)]
          obtain ⟨v,b1,b2⟩:=a4 k j hk hj
          refine ⟨v,by rw [<-b1];congr 1;omega,hF2 _ j v (by omega) ?_⟩
          rw [show sLen+k-sLen=k by omega];exact b2)
      (fun C hC=>by rw [putRow_get hB,if_neg hC]) (by simp [World.putRow]) rfl rfl rfl
     refine ⟨.slice (some ⟨B,q0,none⟩) (sLen+n) sCap,_,_,?_,?_,g1,g2⟩
     · simp only [appTail]
       rw [if_pos hin]
       simp only [Sem.run_bind,a1,Result.andThen_ok,addr_add]
       simp [hrun]
     · have:=VR.lr (ρ:=ρ.add H.next (B,q0,N)) H.next sz 0 (sLen+n) false B q0 N sCap (Rho.add_same _ _ _) hin (fun q=>by simp at q) (by simp;omega)
       simpa using this
 · -- new memory
   obtain ⟨vs,a1,a2,a3,a4⟩:=happ _ hh.drew
   generalize hcap:(Question.appendCap (sLen+n) sCap e).cut (w.tape w.drawn (.appendCap (sLen+n) sCap e))=newCap
   have hge:sLen+n<=newCap:=by rw [<-hcap];simp [Question.cut]
   have hnf:(Question.appendCap (sLen+n) sCap e).forced=false:=rfl
   -- the old cells
   obtain ⟨old,o1,o2,o3⟩:∃old:Array Value,(Builtin.firstCells sz sLen (.slice base sLen sCap)).run P { w with drawn:=w.drawn+1}=.ok old { w with drawn:=w.drawn+1}/\old.size=sLen*sz/\
    ∀i j,i<sLen->j<sz->∃v,old[i*sz+j]? =some v/\CR ρ.ro (f i j) v:=by
    rcases hd with ⟨rfl,rfl,rfl⟩ | ⟨A0,B,q0,N,d,o,c,fr,rfl,rfl,hA,hr,⟨e',h1,hee⟩,h2,h3,h4,h5,h6⟩
    · exact ⟨#[],by simp [Builtin.firstCells],by simp,fun i j hi=>by omega⟩
    · have hle:sLen*sz<=sCap*sz:=Nat.mul_le_mul_right _ h5
      refine ⟨c.extract q0 (q0+sLen*sz),?_,by simp;omega,?_⟩
      · simp only [Builtin.firstCells]
        exact run_loadCells (fr:=fr) (e:=e') (by exact h1) (by omega)
      · intro i j hi hj
        obtain ⟨v,b1,b2⟩:=h6 i j hi hj
        have:(i+1)*sz<=sLen*sz:=Nat.mul_le_mul_right _ hi
        rw [Nat.add_mul] at this
        refine ⟨v,?_,b2⟩
        rw [Array.getElem?_extract,if_pos (by omega),<-b1];congr 1;omega
   generalize hcc:old ++ vs.toArray ++ Builtin.zeroCells z.cells (newCap-(sLen+n))=cc
   have hccs:cc.size=newCap*sz:=by
    rw [<-hcc]
    simp only [Array.size_append,zeroCells_size,hz,o2,List.size_toArray,a2]
    rw [<-Nat.add_mul,<-Nat.add_mul];congr 1;omega
   have hN:(sLen+n)*sz<=newCap*sz:=Nat.mul_le_mul_right _ hge
   obtain ⟨g1,g2⟩:=HR.new (w':=({ w with drawn:=w.drawn+1,heap:=w.heap.push (.cells cc e)}:World)) (o':=.rows e sz (sLen+n) F) (N:=cc.size) hh.drew hfr
    ⟨cc,(0,0),by simp,.inl rfl,rfl,by simp;omega,fun i j hi hj=>by
      simp only [Nat.zero_add]
      show ∃v',cc[i*sz+j]? =some v'/\CR ρ.ro (F i j) v'
      by_cases hil:i<sLen
      · obtain ⟨v,b1,b2⟩:=o3 i j hil hj
        refine ⟨v,?_,hF1 i j v hil b2⟩
        have hlt:=(Array.getElem?_eq_some_iff.1 b1).1
        rw [<-hcc,Array.append_assoc,Array.getElem?_append_left hlt];exact b1
      · obtain ⟨k,rfl⟩:∃k,i=sLen+k:=⟨i-sLen,by omega⟩
        have hk:k<n:=by omega
        obtain ⟨v,b1,b2⟩:=a4 k j hk hj
        have hlt:=(List.getElem?_eq_some_iff.1 b1).1
        refine ⟨v,?_,hF2 _ j v (by omega) (by rw [show sLen+k-sLen=k by omega];exact b2)⟩
        rw [Nat.add_mul,<-hcc,Array.append_assoc,Array.getElem?_append_right (by omega),o2,show sLen*sz+k*sz+j-sLen*sz=k*sz+j by omega,
         Array.getElem?_append_left (by simpa using hlt)]
        simpa using b1⟩
    (fun B hB=>by simp [Array.getElem?_push,Nat.ne_of_lt hB]) (by simp) rfl rfl rfl
   refine ⟨.slice (some ⟨w.heap.size,0,none⟩) (sLen+n) newCap,_,_,?_,?_,g1.sub (gone_sub H A _),(Ext.drew.trans g2).sub (gone_sub H A _) (by cases A<;>rfl)⟩
   · simp only [appTail]
     rw [if_neg hin]
     simp only [Sem.run_bind,run_choose,hnf,Bool.false_eq_true,if_false,Result.andThen_ok,hcap,o1,a1,hcc]
     simp [newRow,newObj,Sem.run]
     exact ⟨rfl,rfl,rfl⟩
   · have:=VR.lr (ρ:=ρ.add H.next (w.heap.size,0,cc.size)) H.next sz 0 (sLen+n) false w.heap.size 0 cc.size newCap (Rho.add_same _ _ _) hge (fun q=>by simp at q) (by simp;omega)
     simpa using this
end Go.Sim
