/- Runs over unknown values, told by the kernel: part SymC. -/
import Derived.Test.YtgoppmcfidmgfaaSymB
import Derived.Laws.BytesString
set_option linter.unusedSimpArgs false
set_option linter.unusedVariables false
/- The operations, continued: sums, comparisons, conversions. -/
namespace Go.Sim
open Go
noncomputable def wrapA (k:IntKind) (n:Int):Int:=
 match k,n with
 | .i64,.ofNat m=>match Nat.blt m 9223372036854775808 with
   | true=>.ofNat m
   | false=>IntKind.i64.wrap (.ofNat m)
 | .u8,.ofNat m=>.ofNat (m % 256)
 | .u32,.ofNat m=>.ofNat (m % 4294967296)
 | .u64,.ofNat m=>.ofNat (m % 18446744073709551616)
 | k,n=>k.wrap n
theorem wrapA_eq (k:IntKind) (n:Int):wrapA k n=k.wrap n:=by
 unfold wrapA
 split
 · split
   · rename_i h
     rw [Nat.blt_eq] at h
     rw [IntWalk.i64_in]
     constructor<;>simp<;>omega
   · rfl
 · rw [IntKind.wrap_u8];simp
 · rw [IntKind.wrap_u32];simp
 · simp [IntKind.wrap,IntKind.bits,IntKind.signed]
 · rfl
noncomputable def intBin (op:BinOp) (k:IntKind) (a b:Int):Option AV:=
 match op with
 | .add=>some (.i k (wrapA k (a+b)))
 | .sub=>some (.i k (wrapA k (a-b)))
 | .mul=>some (.i k (wrapA k (a*b)))
 | .quo=>match decide (b=0) with
   | true=>none
   | false=>some (.i k (wrapA k (a.tdiv b)))
 | .rem=>match decide (b=0) with
   | true=>none
   | false=>some (.i k (a.tmod b))
 | .and=>some (.i k (wrapA k ((BitVec.ofInt k.bits a &&& BitVec.ofInt k.bits b).toNat)))
 | .or=>some (.i k (wrapA k ((BitVec.ofInt k.bits a ||| BitVec.ofInt k.bits b).toNat)))
 | .xor=>some (.i k (wrapA k ((BitVec.ofInt k.bits a ^^^ BitVec.ofInt k.bits b).toNat)))
 | .andNot=>some (.i k (wrapA k ((BitVec.ofInt k.bits a &&& ~~~ (BitVec.ofInt k.bits b)).toNat)))
 | .eql=>some (.b (decide (a=b)))
 | .neq=>some (.b (!decide (a=b)))
 | .lss=>some (.b (decide (a<b)))
 | .leq=>some (.b (decide (a<=b)))
 | .gtr=>some (.b (decide (b<a)))
 | .geq=>some (.b (decide (b<=a)))
 | _=>none
noncomputable def shiftA (op:BinOp) (k:IntKind) (a b:Int):Option AV:=
 match decide (b<0) with
 | true=>none
 | false=>match op with
   | .shl=>some (.i k (wrapA k (a*2 ^ (min b.toNat k.bits))))
   | .shr=>some (.i k (a.fdiv (2 ^ (min b.toNat k.bits))))
   | _=>none
noncomputable def natsLess:List Nat->List Nat->Bool
 | _,[]=>false
 | [],_ :: _=>true
 | a :: x,b :: y=>match Nat.blt a b with
   | true=>true
   | false=>match Nat.beq a b with
     | true=>natsLess x y
     | false=>false
noncomputable def natsEq:List Nat->List Nat->Bool
 | [],[]=>true
 | a :: x,b :: y=>match Nat.beq a b with
   | true=>natsEq x y
   | false=>false
 | _,_=>false
theorem natsEq_iff:∀(a b:List Nat),natsEq a b=true↔a=b
 | [],[]=>by simp [natsEq]
 | [],_ :: _=>by simp [natsEq]
 | _ :: _,[]=>by simp [natsEq]
 | a :: x,b :: y=>by
   simp only [natsEq]
   split
   · rename_i h;have:=Nat.eq_of_beq_eq_true h;subst this;simp [natsEq_iff x y]
   · rename_i h;have:=Nat.ne_of_beq_eq_false h;simp [this]
theorem natsEq_bytes (a b:List UInt8):natsEq (a.map UInt8.toNat) (b.map UInt8.toNat)=(a == b):=by
 rw [Bool.eq_iff_iff,natsEq_iff,beq_iff_eq]
 constructor
 · intro h
   exact (List.map_inj_right (fun x y h=>UInt8.toNat_inj.1 h)).1 h
 · intro h;rw [h]
theorem natsLess_bytes:∀(a b:List UInt8),natsLess (a.map UInt8.toNat) (b.map UInt8.toNat)=Op.bytesLess a b
 | _,[]=>by cases ‹List UInt8›<;>simp [natsLess,Op.bytesLess]
 | [],_ :: _=>by simp [natsLess,Op.bytesLess]
 | a :: x,b :: y=>by
   simp only [List.map_cons,natsLess,Op.bytesLess,natsLess_bytes x y]
   by_cases h1:a<b
   · have h1':Nat.blt a.toNat b.toNat=true:=by simpa [Nat.blt_eq] using UInt8.lt_iff_toNat_lt.1 h1
     simp [h1',h1]
   · have h1':Nat.blt a.toNat b.toNat=false:=by
      cases hb:Nat.blt a.toNat b.toNat with
      | false=>rfl
      | true=>exact absurd (UInt8.lt_iff_toNat_lt.2 (by simpa [Nat.blt_eq] using hb)) h1
     by_cases h2:a=b
     · subst h2;simp [h1',h1]
     · have h2':Nat.beq a.toNat b.toNat=false:=by
        cases hb:Nat.beq a.toNat b.toNat with
        | false=>rfl
        | true=>exact absurd (UInt8.toNat_inj.1 (Nat.eq_of_beq_eq_true hb)) h2
       simp [h1',h1,h2,h2']
noncomputable def strBin (op:BinOp) (a b:List Nat):Option AV:=
 match op with
 | .add=>og (Nat.ble (a.length+b.length) 1073741824) (some (.s (a ++ b)))
 | .eql=>some (.b (natsEq a b))
 | .neq=>some (.b (!natsEq a b))
 | .lss=>some (.b (natsLess a b))
 | .leq=>some (.b (natsLess a b || natsEq a b))
 | .gtr=>some (.b (!(natsLess a b || natsEq a b)))
 | .geq=>some (.b (!natsLess a b))
 | _=>none
theorem strBin_sound {P:Program} {op:BinOp} {a b:List Nat} {x y:ByteArray} {r:AV} {ρ:Rho} {w:World} (h:strBin op a b=some r) (ha:x.data.toList.map UInt8.toNat=a) (hb:y.data.toList.map UInt8.toNat=b) :
 ∃v',(Op.stringOp op x y).run P w=.ok v' w/\VR ρ r v':=by
 have hx:x.toList=x.data.toList:=ByteArray.toList_eq x
 have hy:y.toList=y.data.toList:=ByteArray.toList_eq y
 have e1:natsEq a b=(x.toList == y.toList):=by rw [<-ha,<-hb,natsEq_bytes,hx,hy]
 have e2:natsLess a b=Op.bytesLess x.toList y.toList:=by rw [<-ha,<-hb,natsLess_bytes,hx,hy]
 unfold strBin at h
 split at h
 · simp only [og_some] at h
   obtain ⟨h1,e⟩:=h
   simp at e;subst e
   have h1':=Nat.le_of_ble_eq_true h1
   have hsx:x.size=a.length:=by rw [<-ha];simp
   have hsy:y.size=b.length:=by rw [<-hb];simp
   refine ⟨.string (x ++ y),?_,.s _ _ (by rw [<-ha,<-hb];simp)⟩
   have:=need_small (Nat.le_trans h1' (by decide))
   simp only [Op.stringOp]
   rw [if_neg (by rw [hsx,hsy];exact this)]
   rfl
 all_goals (try (simp at h;done))
 all_goals (simp at h;subst h;refine ⟨_,?_,.b _⟩;simp [Op.stringOp,e1,e2])
noncomputable def isComparable (P:Program) (t:TypeId):Bool:=
 match P.info? t with
 | some i=>i.comparable
 | none=>false
noncomputable def eqFs (P:Program) (rec:TypeId->AV->AV->Option Bool) (xs ys:List AV):List Field->Option Bool
 | []=>some true
 | f :: r=>match decide (f.name≠"_") with
   | false=>eqFs P rec xs ys r
   | true=>ob (partA P f.type xs f.offset) fun a=>ob (partA P f.type ys f.offset) fun b=>ob (rec f.type a b) fun q=>match q with
     | true=>eqFs P rec xs ys r
     | false=>some false
noncomputable def eqEs (P:Program) (rec:AV->AV->Option Bool) (e:TypeId) (n:Nat) (xs ys:List AV):Nat->Nat->Option Bool
 | 0,_=>some true
 | k+1,i=>ob (partA P e xs (i*n)) fun a=>ob (partA P e ys (i*n)) fun b=>ob (rec a b) fun q=>match q with
   | true=>eqEs P rec e n xs ys k (i+1)
   | false=>some false
noncomputable def eqT (P:Program):Nat->TypeId->AV->AV->Option Bool
 | 0,_,_,_=>none
 | d+1,t,x,y=>match P.underlying t with
   | some .bool=>match x,y with
     | .b a,.b b=>some (a == b)
     | _,_=>none
   | some (.int _)=>match x,y with
     | .i k a,.i k' b=>og (decide (k=k')) (some (decide (a=b)))
     | _,_=>none
   | some .string=>match x,y with
     | .s a,.s b=>some (natsEq a b)
     | _,_=>none
   | some (.pointer e)=>match x,y with
     | .p0,.p0=>some true
     | .p0,.p _ _=>some false
     | .p _ _,.p0=>some false
     | .p A o,.p A' o'=>og (Nat.beq A A') (ob (infoSize P e) fun n=>og (Nat.blt 0 n) (some (Nat.beq o o')))
     | _,_=>none
   | some (.slice _)=>match x,y with
     | .l0,.l0=>some true
     | .l0,.lz=>some false
     | .lz,.l0=>some false
     | .l0,.l _ _ _ _ _ _=>some false
     | .l _ _ _ _ _ _,.l0=>some false
     | _,_=>none
   | some (.map _ _)=>match x,y with
     | .m0,.m0=>some true
     | .m0,.m _=>some false
     | .m _,.m0=>some false
     | _,_=>none
   | some (.func _ _ _)=>match x,y with
     | .f0,.f0=>some true
     | .f0,.fn _ _ _=>some false
     | .fn _ _ _,.f0=>some false
     | _,_=>none
   | some (.interface _)=>match x,y with
     | .if0,.if0=>some true
     | .if0,.ifc _ _=>some false
     | .ifc _ _,.if0=>some false
     | .ifc tx vx,.ifc ty vy=>match Nat.beq tx ty with
       | false=>some false
       | true=>og (isComparable P tx) (eqT P d tx vx vy)
     | _,_=>none
   | some (.struct fs)=>match x,y with
     | .agg xs,.agg ys=>og (!P.stoodInHeld t) (eqFs P (eqT P d) xs ys fs.toList)
     | _,_=>none
   | some (.array k e)=>match x,y with
     | .agg xs,.agg ys=>ob (infoSize P e) fun n=>eqEs P (eqT P d e) e n xs ys k 0
     | _,_=>none
   | _=>none
theorem eqFs_sound {P:Program} {ρ:Rho} {w:World} {rec:TypeId->AV->AV->Option Bool} {D:Nat} (hrec:∀t x y b x' y',rec t x y=some b->VR ρ x x'->VR ρ y y'->(Op.equalIn D t x' y').run P w=.ok b w)
 {xs ys:List AV} {xs' ys':List Value} (hx:VRs ρ xs xs') (hy:VRs ρ ys ys'):∀(fs:List Field) (b:Bool),eqFs P rec xs ys fs=some b->(Op.eqFields D xs'.toArray ys'.toArray fs).run P w=.ok b w
 | [],b,h=>by simp [eqFs] at h;subst h;simp [Op.eqFields]
 | f :: r,b,h=>by
   simp only [eqFs] at h
   simp only [Op.eqFields]
   split at h
   · rename_i hn
     simp only [decide_eq_false_iff_not] at hn
     rw [if_neg hn]
     exact eqFs_sound hrec hx hy r b h
   · rename_i hn
     simp only [decide_eq_true_eq] at hn
     rw [if_pos hn]
     simp only [ob_some] at h
     obtain ⟨a,ha,c,hc,q,hq,h⟩:=h
     obtain ⟨a',a1,a2⟩:=run_part (w:=w) ha hx
     obtain ⟨c',c1,c2⟩:=run_part (w:=w) hc hy
     simp only [Sem.run_bind,a1,c1,Result.andThen_ok,hrec _ _ _ _ _ _ hq a2 c2]
     cases q with
     | true=>simp;exact eqFs_sound hrec hx hy r b h
     | false=>simp at h;subst h;simp
theorem forIn_eq {P:Program} {ρ:Rho} {w:World} {rec:AV->AV->Option Bool} {D:Nat} {e:TypeId} {n:Nat} (hrec:∀x y b x' y',rec x y=some b->VR ρ x x'->VR ρ y y'->(Op.equalIn D e x' y').run P w=.ok b w)
 {xs ys:List AV} {xs' ys':List Value} (hx:VRs ρ xs xs') (hy:VRs ρ ys ys'):∀(k i:Nat) (b:Bool),eqEs P rec e n xs ys k i=some b->
   ((forIn (List.range' i k) ((none,()):Option Bool×Unit) fun i r=>do
     let a <-part e xs'.toArray (i*n)
     let c <-part e ys'.toArray (i*n)
     let q <-Op.equalIn D e a c
     if (!q)=true then pure (ForInStep.done (some false,()))
     else pure (ForInStep.yield (none,()))):Sem (Option Bool×Unit)).run P w=.ok (if b then (none,()) else (some false,())) w
 | 0,i,b,h=>by simp [eqEs] at h;subst h;simp
 | k+1,i,b,h=>by
   simp only [eqEs,ob_some] at h
   obtain ⟨a,ha,c,hc,q,hq,h⟩:=h
   obtain ⟨a',a1,a2⟩:=run_part (w:=w) ha hx
   obtain ⟨c',c1,c2⟩:=run_part (w:=w) hc hy
   rw [List.range'_succ,List.forIn_cons]
   simp only [Sem.run_bind,a1,c1,Result.andThen_ok,hrec _ _ _ _ _ hq a2 c2]
   cases q with
   | true=>
     simp only [Bool.not_true,Bool.false_eq_true,if_false,Sem.run_pure,Result.andThen_ok]
     exact forIn_eq hrec hx hy k (i+1) b h
   | false=>simp at h;subst h;simp
end Go.Sim
/- Equality, the operators, and all operations together. -/
namespace Go.Sim
open Go
theorem fieldsOf_eq {P:Program} {t:TypeId} {fs:Array Field} (h:P.underlying t=some (.struct fs)):P.fieldsOf t=fs:=by simp [Program.fieldsOf,h]
set_option maxHeartbeats 2000000 in
theorem eqT_sound {P:Program} {ρ:Rho} {w:World}:∀(d D:Nat) (t:TypeId) (x y:AV) (b:Bool) (x' y':Value),d<=D->eqT P d t x y=some b->VR ρ x x'->VR ρ y y'->(Op.equalIn D t x' y').run P w=.ok b w
 | 0,D,t,x,y,b,x',y',_,h,_,_=>by simp [eqT] at h
 | d+1,0,t,x,y,b,x',y',hd,_,_,_=>by omega
 | d+1,D+1,t,x,y,b,x',y',hd,h,hx,hy=>by
   have ih:∀(t:TypeId) (x y:AV) (b:Bool) (x' y':Value),eqT P d t x y=some b->VR ρ x x'->VR ρ y y'->(Op.equalIn D t x' y').run P w=.ok b w:=fun t x y b x' y'=>eqT_sound d D t x y b x' y' (by omega)
   simp only [eqT] at h
   split at h
   · rename_i hu
     split at h
     · simp at h;subst h;cases hx;cases hy;simp [Op.equalIn,run_underlying' hu]
     · simp at h
   · rename_i k hu
     split at h
     · simp only [og_some] at h
       obtain ⟨hk,e⟩:=h
       simp at e hk;subst e;subst hk;cases hx;cases hy
       simp [Op.equalIn,run_underlying' hu,BEq.beq]
     · simp at h
   · rename_i hu
     split at h
     · rename_i a c
       simp at h;subst h
       cases hx with | s _ s hs=>cases hy with | s _ s2 hs2=>
       rw [run_equalIn_string w D t s s2 hu,<-hs,<-hs2,natsEq_bytes,ByteArray.toList_eq,ByteArray.toList_eq]
     · simp at h
   · rename_i e hu
     split at h
     · simp at h;subst h;cases hx;cases hy;simp [Op.equalIn,run_underlying' hu]
     · simp at h;subst h;cases hx;cases hy;simp [Op.equalIn,run_underlying' hu]
     · simp at h;subst h;cases hx;cases hy;simp [Op.equalIn,run_underlying' hu]
     · rename_i A o A' o'
       simp only [og_some,ob_some] at h
       obtain ⟨hA,n,hn,h0,e'⟩:=h
       simp at e';subst e'
       have hA':=Nat.eq_of_beq_eq_true hA
       subst hA'
       have h0':0<n:=by rw [Nat.blt_eq] at h0;exact h0
       cases hx with | p A o B dd N hr=>cases hy with | p A o' B' dd' N' hr'=>
       rw [hr] at hr';simp at hr';obtain ⟨rfl,rfl,rfl⟩:=hr'
       simp only [Op.equalIn,Sem.run_bind,run_underlying' hu,Result.andThen_ok,run_sizeOf' hn]
       rw [if_pos (by omega)]
       simp only [sameAddr,beq_self_eq_true,if_true,Sem.run_pure]
       congr 1
       rw [Bool.eq_iff_iff]
       simp only [beq_iff_eq,Addr.mk.injEq,true_and,and_true]
       constructor
       · intro q
         have e1:o=o':=by omega
         subst e1
         exact Nat.beq_refl o
       · intro q;have:=Nat.eq_of_beq_eq_true q;omega
     · simp at h
   · rename_i e hu
     split at h
     · simp at h;subst h;cases hx;cases hy;simp [Op.equalIn,run_underlying' hu]
     · simp at h;subst h;cases hx;cases hy;simp [Op.equalIn,run_underlying' hu]
     · simp at h;subst h;cases hx;cases hy;simp [Op.equalIn,run_underlying' hu]
     · simp at h;subst h;cases hx;cases hy;simp [Op.equalIn,run_underlying' hu]
     · simp at h;subst h;cases hx;cases hy;simp [Op.equalIn,run_underlying' hu]
     · simp at h
   · rename_i k e hu
     split at h
     · simp at h;subst h;cases hx;cases hy;simp [Op.equalIn,run_underlying' hu]
     · simp at h;subst h;cases hx;cases hy;simp [Op.equalIn,run_underlying' hu]
     · simp at h;subst h;cases hx;cases hy;simp [Op.equalIn,run_underlying' hu]
     · simp at h
   · rename_i ps rs v hu
     split at h
     · simp at h;subst h;cases hx;cases hy;simp [Op.equalIn,run_underlying' hu]
     · simp at h;subst h;cases hx;cases hy;simp [Op.equalIn,run_underlying' hu]
     · simp at h;subst h;cases hx;cases hy;simp [Op.equalIn,run_underlying' hu]
     · simp at h
   · rename_i ms hu
     split at h
     · simp at h;subst h;cases hx;cases hy;simp [Op.equalIn,run_underlying' hu]
     · simp at h;subst h;cases hx;cases hy;simp [Op.equalIn,run_underlying' hu]
     · simp at h;subst h;cases hx;cases hy;simp [Op.equalIn,run_underlying' hu]
     · rename_i tx vx ty vy
       cases hx with | ifc _ _ vx' hvx=>cases hy with | ifc _ _ vy' hvy=>
       split at h
       · rename_i hne
         simp at h;subst h
         have:=Nat.ne_of_beq_eq_false hne
         simp [Op.equalIn,run_underlying' hu,this]
       · rename_i he
         have:=Nat.eq_of_beq_eq_true he
         subst this
         simp only [og_some] at h
         obtain ⟨hc,h⟩:=h
         unfold isComparable at hc
         split at hc
         · rename_i i hi
           simp only [Op.equalIn,Sem.run_bind,run_underlying' hu,Result.andThen_ok,ne_eq,not_true_eq_false,if_false,run_typeInfo' hi,hc,Bool.not_true,Bool.false_eq_true]
           exact ih _ _ _ _ _ _ h hvx hvy
         · simp at hc
     · simp at h
   · rename_i fs hu
     split at h
     · rename_i xs ys
       simp only [og_some] at h
       obtain ⟨hp,h⟩:=h
       simp at hp
       cases hx with | agg _ xs' hxs=>cases hy with | agg _ ys' hys=>
       rw [run_equalIn_struct w D t _ _ (by rw [fieldsOf_eq hu];exact hu) hp,fieldsOf_eq hu]
       exact eqFs_sound (fun t x y b x' y'=>ih t x y b x' y') hxs hys _ _ h
     · simp at h
   · rename_i k e hu
     split at h
     · rename_i xs ys
       simp only [ob_some] at h
       obtain ⟨n,hn,h⟩:=h
       cases hx with | agg _ xs' hxs=>cases hy with | agg _ ys' hys=>
       simp only [Op.equalIn,Sem.run_bind,run_underlying' hu,Result.andThen_ok,run_sizeOf' hn,Std.Legacy.Range.forIn_eq_forIn_range']
       have hsz:(({ stop:=k,step_pos:=Nat.zero_lt_one}:Std.Legacy.Range)).size=k:=by simp [Std.Legacy.Range.size]
       rw [hsz]
       have key:=forIn_eq (D:=D) (fun x y b x' y'=>ih e x y b x' y') hxs hys k 0 b h
       simp only [key,Result.andThen_ok]
       cases b<;>simp
     · simp at h
   · simp at h
end Go.Sim
/- The operators, conversions, and all operations together. -/
namespace Go.Sim
open Go
noncomputable def isC:Operand->Bool
 | .const _=>true
 | _=>false
noncomputable def eqGuardOk (P:Program) (t:TypeId) (xo yo:Operand) (x y:AV):Bool:=
 match x,y with
 | .if0,.if0=>isC xo || isC yo
 | .agg _,.agg _=>!(P.eqGuardType P.depth t)
 | _,_=>true
theorem VR.sv_slice {ρ:Rho} {sz n:Nat} {f:Nat->Nat->CV} {v:Value} (h:VR ρ (.sv sz n f) v):∃a l c,v=.slice a l c:=by
 cases h with | sv _ _ _ _ h=>cases h<;>exact ⟨_,_,_,rfl⟩
theorem VR.opv_ptr {ρ:Rho} {b:Bool} {sz:Nat} {f:Nat->CV} {v:Value} (h:VR ρ (.opv b sz f) v):∃p,v=.pointer p:=by
 cases h with | opv _ _ _ _ h=>cases h<;>exact ⟨_,rfl⟩
theorem run_eqGuard {P:Program} {op:BinOp} {t:TypeId} {xo yo:Operand} {x y:AV} {x' y':Value} {ρ:Rho} {w:World} (h:eqGuardOk P t xo yo x y=true) (hx:VR ρ x x') (hy:VR ρ y y') :
 (eqGuard op t xo yo x' y').run P w=.ok () w:=by
 unfold eqGuardOk at h
 split at h
 · cases hx;cases hy
   cases op<;>cases xo<;>cases yo<;>simp_all [eqGuard,isC]
 · cases hx;cases hy
   simp at h
   cases op<;>simp [eqGuard,h]
 · rename_i h1 h2
   have hsl:∀z:AV,(∃sz n f,z=.sv sz n f)\/(∃q sz f,z=.opv q sz f)\/((∀sz n f,z≠.sv sz n f)/\∀q sz f,z≠.opv q sz f):=by
    intro z
    cases z<;>first | (exact .inl ⟨_,_,_,rfl⟩) | (exact .inr (.inl ⟨_,_,_,rfl⟩)) | (exact .inr (.inr ⟨fun _ _ _ e=>by simp at e,fun _ _ _ e=>by simp at e⟩))
   rcases hsl x with ⟨_,_,_,rfl⟩ | ⟨_,_,_,rfl⟩ | ⟨hn1,hm1⟩
   · obtain ⟨_,_,_,rfl⟩:=hx.sv_slice
     cases op<;>simp [eqGuard]
   · obtain ⟨_,rfl⟩:=hx.opv_ptr
     cases op<;>(try (simp [eqGuard];done))<;>cases y'<;>simp [eqGuard]
   · rcases hsl y with ⟨_,_,_,rfl⟩ | ⟨_,_,_,rfl⟩ | ⟨hn2,hm2⟩
     · obtain ⟨_,_,_,rfl⟩:=hy.sv_slice
       cases op<;>(try (simp [eqGuard];done))<;>cases x'<;>simp [eqGuard]
     · obtain ⟨_,rfl⟩:=hy.opv_ptr
       cases op<;>(try (simp [eqGuard];done))<;>cases x'<;>simp [eqGuard]
     · cases op<;>(try (simp [eqGuard];done))<;>(cases hx<;>first | (exact absurd rfl (hn1 _ _ _)) | (exact absurd rfl (hm1 _ _ _)) | (cases hy<;>first | (exact absurd rfl (hn2 _ _ _)) | (exact absurd rfl (hm2 _ _ _)) | (simp [eqGuard];done) | (exact absurd rfl (h1 rfl)) | (exact absurd rfl (h2 _ _ rfl))))
noncomputable def eqBin (P:Program) (op:BinOp) (t:TypeId) (xo yo:Operand) (x y:AV):Option AV:=
 match op with
 | .eql=>og (eqGuardOk P t xo yo x y) (ob (eqT P 20 t x y) fun r=>some (.b r))
 | .neq=>og (eqGuardOk P t xo yo x y) (ob (eqT P 20 t x y) fun r=>some (.b !r))
 | _=>none
noncomputable def isShift:BinOp->Bool
 | .shl | .shr=>true
 | _=>false
noncomputable def oBin (P:Program) (op:BinOp) (t:TypeId) (xo yo:Operand) (x y:AV):Option AV:=
 match isShift op with
 | true=>match x,y with
   | .i k a,.i _ b=>shiftA op k a b
   | _,_=>none
 | false=>match x with
   | .i k a=>match y with
     | .i k' b=>og (decide (k=k')) (intBin op k a b)
     | _=>none
   | .s a=>match y with
     | .s b=>strBin op a b
     | _=>none
   | x=>eqBin P op t xo yo x y
theorem intBin_sound {P:Program} {op:BinOp} {t:TypeId} {k:IntKind} {a b:Int} {r:AV} {ρ:Rho} {w:World} (hs:isShift op=false) (h:intBin op k a b=some r) :
 ∃v',(binOp op t (.int k a) (.int k b)).run P w=.ok v' w/\VR ρ r v':=by
 cases op<;>simp [isShift] at hs<;>simp only [intBin] at h
 all_goals first
  | (split at h
     · simp at h
     · rename_i hb
       simp at hb h;subst h
       refine ⟨_,?_,.i _ _⟩
       simp [binOp,Op.intDiv,hb,wrapA_eq])
  | (simp at h;subst h;refine ⟨_,?_,.i _ _⟩;simp [binOp,Op.intArith,Op.intBits,wrapA_eq];done)
  | (simp at h;subst h;refine ⟨_,?_,.b _⟩;simp [binOp,Op.intCmp];done)
  | (simp at h;subst h;refine ⟨_,?_,.b _⟩;simp only [binOp,Op.intCmp,Sem.run_pure,ne_eq,not_true_eq_false,if_false];congr 2;rw [Bool.eq_iff_iff];simp;done)
  | (simp only [Option.some.injEq] at h;subst h;refine ⟨_,rfl,?_⟩;simp only [ne_eq,not_true_eq_false,if_false,Op.intCmp];constructor)
  | (simp only [Option.some.injEq] at h;subst h;refine ⟨_,by simp only [binOp,ne_eq,not_true_eq_false,if_false,Op.intCmp,Sem.run_pure];rfl,?_⟩;exact VR.b (ρ:=ρ) _)
theorem shiftA_sound {P:Program} {op:BinOp} {t:TypeId} {k k':IntKind} {a b:Int} {r:AV} {ρ:Rho} {w:World} (hs:isShift op=true) (h:shiftA op k a b=some r) :
 ∃v',(binOp op t (.int k a) (.int k' b)).run P w=.ok v' w/\VR ρ r v':=by
 unfold shiftA at h
 split at h
 · simp at h
 · rename_i hb
   simp only [decide_eq_false_iff_not] at hb
   cases op<;>simp [isShift] at hs
   · simp only [Option.some.injEq] at h;subst h
     refine ⟨_,?_,.i _ _⟩
     simp only [binOp,Op.shift,hb,if_false,Sem.run_pure,wrapA_eq]
   · simp only [Option.some.injEq] at h;subst h
     refine ⟨_,?_,.i _ _⟩
     simp only [binOp,Op.shift,hb,if_false,Sem.run_pure]
theorem eqBin_sound {P:Program} {H:AH} {op:BinOp} {t:TypeId} {xo yo:Operand} {x y r:AV} {x' y':Value} {ρ:Rho} {w:World} (hs:isShift op=false) (h:eqBin P op t xo yo x y=some r) (hh:HR ρ H w) (hx:VR ρ x x') (hy:VR ρ y y')
 (hni:∀k n,x≠.i k n) (hns:∀l,x≠.s l) :
 GoesV P (do eqGuard op t xo yo x' y';binOp op t x' y') r H ρ H w:=by
 have hbin:∀q:Bool,op=.eql\/op=.neq->(Op.equal t x' y').run P w=.ok q w->(binOp op t x' y').run P w=.ok (.bool (if op=.eql then q else !q)) w:=by
  intro q ho hq
  rcases ho with rfl | rfl
  · have:binOp .eql t x' y'=(do pure (.bool (<-Op.equal t x' y'))):=by
     cases hx<;>first
      | (exact absurd rfl (hni _ _))
      | (exact absurd rfl (hns _))
      | (cases y'<;>rfl)
      | (rename_i q;cases q<;>cases y'<;>rfl)
    rw [this];simp [hq]
  · have:binOp .neq t x' y'=(do pure (.bool (!(<-Op.equal t x' y')))):=by
     cases hx<;>first
      | (exact absurd rfl (hni _ _))
      | (exact absurd rfl (hns _))
      | (cases y'<;>rfl)
      | (rename_i q;cases q<;>cases y'<;>rfl)
    rw [this];simp [hq]
 unfold eqBin at h
 split at h
 · simp only [og_some,ob_some] at h
   obtain ⟨hg,q,hq,e⟩:=h
   simp at e;subst e
   refine GoesV.pure hh (.b q) ?_
   have:=hbin q (.inl rfl) (eqT_sound 20 10000 t x y q x' y' (by omega) hq hx hy)
   simp only [Sem.run_bind,run_eqGuard hg hx hy,Result.andThen_ok,this,if_true]
 · simp only [og_some,ob_some] at h
   obtain ⟨hg,q,hq,e⟩:=h
   simp at e;subst e
   refine GoesV.pure hh (.b (!q)) ?_
   have:=hbin q (.inr rfl) (eqT_sound 20 10000 t x y q x' y' (by omega) hq hx hy)
   simp only [Sem.run_bind,run_eqGuard hg hx hy,Result.andThen_ok,this]
   simp
 · simp at h
theorem eqGuard_int {P:Program} {op:BinOp} {t:TypeId} {xo yo:Operand} {k k':IntKind} {a b:Int} {w:World}:(eqGuard op t xo yo (.int k a) (.int k' b)).run P w=.ok () w:=by
 cases op<;>simp [eqGuard]
theorem eqGuard_str {P:Program} {op:BinOp} {t:TypeId} {xo yo:Operand} {a b:ByteArray} {w:World}:(eqGuard op t xo yo (.string a) (.string b)).run P w=.ok () w:=by
 cases op<;>simp [eqGuard]
theorem oBin_sound {P:Program} {H:AH} {op:BinOp} {t:TypeId} {xo yo:Operand} {x y r:AV} {x' y':Value} {ρ:Rho} {w:World} (h:oBin P op t xo yo x y=some r) (hh:HR ρ H w) (hx:VR ρ x x') (hy:VR ρ y y') :
 GoesV P (do eqGuard op t xo yo x' y';binOp op t x' y') r H ρ H w:=by
 unfold oBin at h
 split at h
 · rename_i hs
   split at h
   · cases hx;cases hy
     obtain ⟨v',a,b⟩:=shiftA_sound (P:=P) (t:=t) (ρ:=ρ) (w:=w) hs h
     refine GoesV.pure hh b ?_
     simp only [Sem.run_bind,eqGuard_int,Result.andThen_ok]
     exact a
   · simp at h
 · rename_i hs
   split at h
   · split at h
     · simp only [og_some] at h
       obtain ⟨hk,h⟩:=h
       simp at hk;subst hk
       cases hx;cases hy
       obtain ⟨v',a,b⟩:=intBin_sound (P:=P) (t:=t) (ρ:=ρ) (w:=w) hs h
       refine GoesV.pure hh b ?_
       simp only [Sem.run_bind,eqGuard_int,Result.andThen_ok,a]
     · simp at h
   · split at h
     · cases hx with | s _ s1 h1=>cases hy with | s _ s2 h2=>
       obtain ⟨v',a,b⟩:=strBin_sound (P:=P) (ρ:=ρ) (w:=w) h h1 h2
       refine GoesV.pure hh b ?_
       have:binOp op t (.string s1) (.string s2)=Op.stringOp op s1 s2:=by cases op<;>rfl
       simp only [Sem.run_bind,eqGuard_str,Result.andThen_ok,this,a]
     · simp at h
   · rename_i h1 h2
     exact eqBin_sound hs h hh hx hy h1 h2
noncomputable def oUn (op:UnOp) (x:AV):Option AV:=
 match op with
 | .not=>match x with
   | .b b=>some (.b !b)
   | _=>none
 | .neg=>match x with
   | .i k n=>some (.i k (wrapA k (0-n)))
   | _=>none
 | .xor=>match x with
   | .i k n=>some (.i k (wrapA k ((BitVec.ofInt k.bits (if k.signed then -1 else k.max) ^^^ BitVec.ofInt k.bits n).toNat)))
   | _=>none
 | _=>none
theorem oUn_sound {P:Program} {H:AH} {op:UnOp} {x r:AV} {x':Value} {ρ:Rho} {w:World} (h:oUn op x=some r) (hh:HR ρ H w) (hx:VR ρ x x'):GoesV P (Op.unary op x') r H ρ H w:=by
 unfold oUn at h
 split at h
 · split at h
   · simp at h;subst h;cases hx;exact GoesV.pure hh (.b _) (by simp [Op.unary])
   · simp at h
 · split at h
   · simp only [Option.some.injEq] at h;subst h;cases hx;exact GoesV.pure hh (.i _ _) (by simp [Op.unary,Op.intArith,wrapA_eq])
   · simp at h
 · split at h
   · simp only [Option.some.injEq] at h;subst h;cases hx;exact GoesV.pure hh (.i _ _) (by simp [Op.unary,Op.intBits,wrapA_eq])
   · simp at h
 · simp at h
noncomputable def bytesOf:List AV->Option (List Nat)
 | []=>some []
 | .i .u8 (.ofNat n) :: r=>ob (bytesOf r) fun l=>some (n % 256 :: l)
 | _ :: _=>none
theorem bytesOf_VRs {ρ:Rho}:∀{l:List AV} {ns:List Nat} {vs:List Value},bytesOf l=some ns->VRs ρ l vs->∃zs:List Nat,vs=zs.map (fun n=>Value.int .u8 (Int.ofNat n))/\ns=zs.map (· % 256)
 | [],ns,vs,h,hv=>by simp [bytesOf] at h;subst h;cases hv;exact ⟨[],rfl,rfl⟩
 | a :: r,ns,vs,h,hv=>by
   unfold bytesOf at h
   split at h
   · rename_i e;simp at e
   · rename_i n r' e
     simp at e;obtain ⟨rfl,rfl⟩:=e
     simp only [ob_some] at h
     obtain ⟨l,hl,e⟩:=h
     simp at e;subst e
     cases hv with
     | cons _ v' _ vs' h1 h2=>
     cases h1
     obtain ⟨zs,e1,e2⟩:=bytesOf_VRs hl h2
     exact ⟨n :: zs,by rw [e1];rfl,by rw [e2];rfl⟩
   · simp at h
theorem foldl_push (zs:List Nat):∀(s:ByteArray),((zs.map Int.ofNat).foldl (fun r n=>r.push (UInt8.ofNat n.toNat)) s).data.toList.map UInt8.toNat=s.data.toList.map UInt8.toNat ++ zs.map (· % 256):=by
 induction zs with
 | nil=>intro s;simp
 | cons n r ih=>
   intro s
   simp only [List.map_cons,List.foldl_cons]
   rw [ih]
   simp [ByteArray.push]
noncomputable def isU8 (P:Program) (e:TypeId):Bool:=
 match P.underlying e with
 | some (.int .u8)=>true
 | _=>false
theorem isU8_run {P:Program} {e:TypeId} (h:isU8 P e=true):P.underlying e=some (.int .u8):=by
 unfold isU8 at h
 split at h
 · assumption
 · simp at h
noncomputable def oConvert (P:Program) (H:AH) (src dst:TypeId) (x:AV):Option (AV×AH):=
 match P.underlying src with
 | none=>none
 | some sd=>match P.underlying dst with
   | some (.int k)=>match x with
     | .i _ n=>some (.i k (wrapA k n),H)
     | _=>none
   | some .string=>match x with
     | .s l=>some (.s l,H)
     | .l0=>match sd with
       | .slice e=>og (isU8 P e) (some (.s [],H))
       | _=>none
     | .l A o len _ s _=>match sd with
       | .slice e=>og (isU8 P e) (match H.get A with
         | some (.cells _ size dflt cs)=>ob (readN size dflt cs o len) fun l=>ob (bytesOf l) fun ns=>some (.s ns,H)
         | _=>none)
       | _=>none
     | _=>none
   | some (.slice e)=>match x with
     | .s l=>og (isU8 P e) (some (.l H.next 0 l.length l.length 1 false,newList H e (bytesA l)))
     | .l A o len cap s ex=>match sd with
       | .slice _=>og (Nat.beq src dst) (og (isU8 P e) (match H.get A with
         | some (.cells e1 size dflt cs)=>some (.l A o len cap s ex,H.upd A (some (.cells e1 size dflt cs)))
         | _=>none))
       | _=>none
     | _=>none
   | _=>none
theorem convert_self {P:Program} {ρ:Rho} {H:AH} {w:World} {src e:TypeId} {A o len cap s cap':Nat} {ex:Bool} {e1:TypeId} {size:Nat} {dflt:List AV} {cs:T AV} {B d N:Nat} {e0:TypeId} (hh:HR ρ H w)
 (hs:P.underlying src=some (.slice e)) (he:P.underlying e=some (.int .u8)) (hA:H.get A=some (.cells e1 size dflt cs)) (hx:ρ A=some (B,d,N))
 (hv:VR ρ (.l A o len cap s ex) (.slice (some ⟨B,d+o,none⟩) len cap')):GoesV P (convert src src (.slice (some ⟨B,d+o,none⟩) len cap')) (.l A o len cap s ex) (H.upd A (some (.cells e1 size dflt cs))) ρ H w:=by
 obtain ⟨c,fr,h1,h2,h3,hsz,h4⟩:=hh.row hA hx
 have hB:=hh.range _ _ hx
 simp at hB
 have hsh:w.shape? B=some (e1,c.size):=by simp [World.shape?,h1]
 obtain ⟨lo,hi⟩:=fr
 let fr':Nat×Nat:=if lo == hi then (c.size,c.size+1) else (min lo c.size,max hi (c.size+1))
 have hw:w.freeze ⟨B,c.size,none⟩ 1=World.putRow w B (.cells c e1 fr'):=by
  simp only [World.freeze,World.putRow]
  rw [if_neg (by omega)]
  congr 1
  apply Array.ext_getElem?
  intro i
  rw [Array.getElem?_modify]
  by_cases hi:B=i
  · subst hi
    rw [if_pos rfl,h1]
    simp [Array.getElem?_setIfInBounds,hB,fr']
  · rw [if_neg hi]
    simp [Array.getElem?_setIfInBounds,hi]
 have hrun:(convert src src (.slice (some ⟨B,d+o,none⟩) len cap')).run P w=.ok (.slice (some ⟨B,d+o,none⟩) len cap') (World.putRow w B (.cells c e1 fr')):=by
  simp only [convert,Sem.run_bind,run_underlying' hs,run_underlying' he,Result.andThen_ok,beq_self_eq_true,markStringish,run_shape,hsh,run_freeze,hw,Sem.run_pure]
 obtain ⟨g1,g2⟩:=hh.upd hA hx (w':=World.putRow w B (.cells c e1 fr')) (o':=.cells e1 size dflt cs) ⟨c,fr',by rw [putRow_get hB];simp,by
  unfold FrOk at h2⊢
  simp only [fr']
  split
  · exact .inr (Nat.le_refl _)
  · rename_i q
    simp at q h2
    exact .inr (by simp;omega),h3,hsz,h4⟩
  (fun C hC=>by rw [putRow_get hB,if_neg hC]) (by simp [World.putRow]) rfl rfl rfl
 exact ⟨_,ρ,_,hrun,hv,g1,g2⟩
theorem oConvert_sound {P:Program} {H H':AH} {src dst:TypeId} {x r:AV} {x':Value} {ρ:Rho} {w:World} (h:oConvert P H src dst x=some (r,H')) (hh:HR ρ H w) (hf:Fresh ρ H H'.next) (hx:VR ρ x x') :
 GoesV P (convert src dst x') r H' ρ H w:=by
 unfold oConvert at h
 split at h
 · simp at h
 · rename_i sd hsd
   split at h
   · rename_i k hu
     split at h
     · simp at h;obtain ⟨rfl,rfl⟩:=h
       cases hx
       refine GoesV.pure hh (.i _ _) ?_
       simp [convert,run_underlying' hsd,run_underlying' hu,Conv.intToInt,wrapA_eq]
     · simp at h
   · rename_i hu
     split at h
     · simp at h;obtain ⟨rfl,rfl⟩:=h
       cases hx with | s _ s hs=>
       refine GoesV.pure hh (.s _ _ hs) ?_
       simp [convert,run_underlying' hsd,run_underlying' hu]
     · split at h
       · rename_i e
         simp only [og_some] at h
         obtain ⟨he,e'⟩:=h
         simp at e';obtain ⟨rfl,rfl⟩:=e'
         cases hx
         refine GoesV.pure hh (.s [] ByteArray.empty rfl) ?_
         rw [run_convert_bytes_string w src dst e none 0 0 hsd (isU8_run he) hu]
         simp [Conv.bytesToString]
       · simp at h
     · split at h
       · rename_i e
         simp only [og_some] at h
         obtain ⟨he,h⟩:=h
         split at h
         · rename_i e2 size dflt cs hA
           simp only [ob_some] at h
           obtain ⟨l,hl,ns,hns,e'⟩:=h
           simp at e';obtain ⟨rfl,rfl⟩:=e'
           cases hx with | l A o len cap s ex B d N cap' hr=>
           obtain ⟨vs,g1,g2,g3⟩:=hh.readN (P:=P) hA hr hl
           obtain ⟨zs,e1,e2⟩:=bytesOf_VRs hns g1
           refine GoesV.pure hh (.s ns ((zs.map Int.ofNat).foldl (fun r n=>r.push (UInt8.ofNat n.toNat)) ByteArray.empty) ?_) ?_
           · rw [foldl_push,e2];simp
           · rw [run_convert_bytes_string w src dst e _ _ _ hsd (isU8_run he) hu]
             exact run_bytesToString w _ _ cap' (zs.map Int.ofNat) (by rw [g3,e1];simp)
         · simp at h
       · simp at h
     · simp at h
   · rename_i e hu
     split at h
     · rename_i l
       simp only [og_some] at h
       obtain ⟨he,e'⟩:=h
       simp at e';obtain ⟨rfl,rfl⟩:=e'
       cases hx with | s _ s hs=>
       have hsz:s.size=l.length:=by rw [<-hs];simp
       have hfr:ρ H.next=none:=hf _ (Nat.le_refl _) (Nat.lt_succ_self _)
       generalize hcap:(Question.appendCap s.size 0 e).cut (w.tape w.drawn (.appendCap s.size 0 e))=newCap
       have hge:s.size<=newCap:=by rw [<-hcap];simp [Question.cut]
       have hnf:(Question.appendCap s.size 0 e).forced=false:=rfl
       generalize hc:(s.data.map fun b=>Value.int .u8 b.toNat) ++ Array.replicate (newCap-s.size) (Value.int .u8 0)=c
       have hcs:c.size=newCap:=by
        rw [<-hc];simp only [Array.size_append,Array.size_map,Array.size_replicate]
        have:s.data.size=s.size:=rfl
        omega
       let w':World:={ w with drawn:=w.drawn+1,heap:=w.heap.push (.cells c e (newCap,newCap+1))}
       have hget:w'.heap[w.heap.size]? =some (.cells c e (newCap,newCap+1)):=by simp [w']
       obtain ⟨g1,g2⟩:=HR.new (w':=w') (o':=.cells e (bytesA l).length [] (setAll .e 0 (bytesA l))) (N:=newCap) hh.drew hfr
        ⟨c,(newCap,newCap+1),hget,.inr (by rw [hcs];exact Nat.le_refl _),hcs,by simp [bytesA_length];omega,fun i v hi=>by
          have hg:=cellAt_list hi
          have hv:VRs ρ (bytesA l) (s.data.toList.map fun b=>Value.int .u8 b.toNat):=by rw [<-hs];exact bytesA_VRs _
          obtain ⟨v',b1,b2⟩:=hv.get? _ _ hg
          refine ⟨v',?_,b2.mono (Rho.add_le hfr),allOne_mem (bytesA_one l) v (List.mem_of_getElem? hg)⟩
          have hlt:i<s.data.size:=by
           have:=(List.getElem?_eq_some_iff.1 b1).1
           simpa using this
          rw [<-hc]
          show ((s.data.map fun b=>Value.int .u8 b.toNat) ++ Array.replicate (newCap-s.size) (Value.int .u8 0))[0+i]? =some v'
          rw [Nat.zero_add,Array.getElem?_append_left (by simpa using hlt)]
          simpa using b1⟩
        (fun B hB=>by simp [w',Array.getElem?_push,Nat.ne_of_lt hB]) (by simp [w']) rfl rfl rfl
       refine ⟨.slice (some ⟨w.heap.size,0,none⟩) s.size newCap,_,w',?_,?_,g1,Ext.drew.trans g2⟩
       · have hrun:(Conv.stringToBytes e s).run P w=.ok (.slice (some ⟨w.heap.size,0,none⟩) s.size newCap) w':=by
          simp only [Conv.stringToBytes,Sem.run_bind,run_choose,hnf,Bool.false_eq_true,if_false,Result.andThen_ok,hcap,hc,newRow,run_newObj,Sem.run_pure,markStringish,run_shape]
          generalize hw2:({ { w with drawn:=w.drawn+1} with heap:=w.heap.push (.cells c e)}:World)=w2
          have hg2:w2.heap[w.heap.size]? =some (.cells c e):=by rw [<-hw2];simp
          have hsh:w2.shape? w.heap.size=some (e,c.size):=by simp [World.shape?,hg2]
          have hfz:w2.freeze ⟨w.heap.size,c.size,none⟩ 1=w':=by
           rw [<-hw2]
           simp only [World.freeze,w']
           rw [if_neg (by omega)]
           congr 1
           apply Array.ext_getElem?
           intro i
           rw [Array.getElem?_modify]
           by_cases hi:w.heap.size=i
           · subst hi;simp [hcs]
           · rw [if_neg hi]
             simp only [Array.getElem?_push]
             rw [if_neg (fun q=>hi q.symm),if_neg (fun q=>hi q.symm)]
          have hsh':w2.shape? (({ w with drawn:=w.drawn+1}:World).heap.size)=some (e,c.size):=hsh
          simp only [hsh']
          simp only [run_freeze,Result.andThen_ok]
          exact congrArg (fun x=>Result.ok (Value.slice (some ⟨w.heap.size,0,none⟩) s.size newCap) x) hfz
         simp only [convert,Sem.run_bind,run_underlying' hsd,run_underlying' hu,Result.andThen_ok,run_underlying' (isU8_run he)]
         cases sd<;>exact hrun
       · have:=VR.l (ρ:=ρ.add H.next (w.heap.size,0,newCap)) H.next 0 l.length l.length 1 false w.heap.size 0 newCap newCap (Rho.add_same _ _ _) (by omega) (fun q=>by simp at q) (by omega) (Nat.le_refl _)
         rw [hsz]
         simpa using this
     · split at h
       · rename_i A o len cap s ex _ e0
         simp only [og_some] at h
         obtain ⟨h0,he,h⟩:=h
         split at h
         · rename_i e1 size dflt cs hA
           simp at h;obtain ⟨rfl,rfl⟩:=h
           have h0':=Nat.eq_of_beq_eq_true h0
           subst h0'
           have hu':=hu
           rw [hsd] at hu'
           simp at hu'
           cases hx with | l _ _ _ _ _ _ B d N cap' k1 k2 k3 k4 k5=>
           exact convert_self (e0:=e0) hh hu (isU8_run he) hA k1 (.l _ _ _ _ _ _ B d N cap' k1 k2 k3 k4 k5)
         · simp at h
       · simp at h
     · simp at h
   · simp at h
end Go.Sim
/- All operations together. -/
namespace Go.Sim
open Go
inductive OR where
 | val (v:AV) (H:AH)
 | enter (g:FuncId) (args:List AV)
noncomputable def OR.next (H:AH):OR->Nat
 | .val _ H'=>H'.next
 | .enter _ _=>H.next
noncomputable def toOR:Option (AV×AH)->Option OR
 | some (v,H)=>some (.val v H)
 | none=>none
noncomputable def toORv (H:AH):Option AV->Option OR
 | some v=>some (.val v H)
 | none=>none
noncomputable def okFn (P:Program) (g:FuncId):Bool:=
 match P.funcs[g]? with
 | some fn=>match fn.name == "runtime.NumGoroutine" with
   | true=>false
   | false=>match fn.body with
     | some _=>true
     | none=>false
 | none=>false
noncomputable def maxA:AV->AV->Option AV
 | .i k a,.i k' b=>og (decide (k=k')) (some (.i k (if b>a then b else a)))
 | _,_=>none
noncomputable def minA:AV->AV->Option AV
 | .i k a,.i k' b=>og (decide (k=k')) (some (.i k (if b<a then b else a)))
 | _,_=>none
noncomputable def foldA (f:AV->AV->Option AV):AV->List AV->Option AV
 | x,[]=>some x
 | x,y :: r=>ob (f x y) fun z=>foldA f z r
noncomputable def oBuiltin (P:Program) (H:AH) (b:Builtin) (ats:Array TypeId) (args:List AV):Option OR:=
 match b with
 | .append=>match ats[0]?,ats[1]?,args with
   | some t,some u,[x,y]=>toOR (oAppend P H t u x y)
   | _,_,_=>none
 | .copy=>match ats[0]?,args with
   | some t,[x,y]=>toOR (oCopy P H t x y)
   | _,_=>none
 | .len=>match ats[0]?,args with
   | some t,[x]=>toORv H (oLen P H t x)
   | _,_=>none
 | .cap=>match ats[0]?,args with
   | some t,[x]=>toORv H (oCap P t x)
   | _,_=>none
 | .max=>match args with
   | x :: r=>toORv H (foldA maxA x r)
   | _=>none
 | .min=>match args with
   | x :: r=>toORv H (foldA minA x r)
   | _=>none
 | _=>none
noncomputable def oCall (P:Program) (tm:T AV) (H:AH) (c:Call):Option OR:=
 match c.callee with
 | .value f=>ob (evalO tm f) fun fv=>ob (evalOs tm c.args.toList) fun args=>match fv with
   | .fn (.func g) first cap=>og (okFn P g) (some (.enter g (first ++ args ++ cap)))
   | _=>none
 | .builtin b=>ob (evalOs tm c.args.toList) fun args=>oBuiltin P H b c.argTypes args
 | _=>none
noncomputable def optE (tm:T AV):Option Operand->Option (Option AV)
 | none=>some none
 | some x=>ob (evalO tm x) fun v=>some (some v)
noncomputable def oPick (tm:T AV) (H:AH) (c x y:Operand):Option OR:=
 ob (evalO tm c) fun v=>match v with
 | .b true=>toORv H (evalO tm x)
 | .b false=>toORv H (evalO tm y)
 | _=>none
noncomputable def oNil (tm:T AV) (H:AH) (x:Operand):Option OR:=
 ob (evalO tm x) fun v=>match v with
 | .p A o=>some (.val (.p A o) H)
 | .fn (.func g) f c=>some (.val (.fn (.func g) f c) H)
 | _=>none
noncomputable def oMakeFunc (tm:T AV) (H:AH) (fn:Fn) (first captured:Array Operand):Option OR:=
 ob (evalOs tm first.toList) fun f=>ob (evalOs tm captured.toList) fun c=>some (.val (.fn fn f c) H)
noncomputable def oBoxX (tm:T AV) (H:AH) (t:TypeId) (x:Operand):Option OR:=ob (evalO tm x) fun v=>toOR (oBox H t v)
noncomputable def oLoadX (P:Program) (tm:T AV) (H:AH) (t:TypeId) (x:Operand):Option OR:=ob (evalO tm x) fun v=>toORv H (oLoad P H t v)
noncomputable def oStoreX (P:Program) (tm:T AV) (H:AH) (t:TypeId) (x y:Operand):Option OR:=ob (evalO tm x) fun v=>ob (evalO tm y) fun u=>ob (oStore P H t v u) fun H'=>some (.val undefV H')
noncomputable def oBinX (P:Program) (tm:T AV) (H:AH) (op:BinOp) (t:TypeId) (x y:Operand):Option OR:=ob (evalO tm x) fun v=>ob (evalO tm y) fun u=>toORv H (oBin P op t x y v u)
noncomputable def oUnX (tm:T AV) (H:AH) (op:UnOp) (x:Operand):Option OR:=ob (evalO tm x) fun v=>toORv H (oUn op v)
noncomputable def oConvertX (P:Program) (tm:T AV) (H:AH) (s d:TypeId) (x:Operand):Option OR:=ob (evalO tm x) fun v=>toOR (oConvert P H s d v)
noncomputable def oMakeInterfaceX (P:Program) (tm:T AV) (H:AH) (t:TypeId) (x:Operand):Option OR:=ob (evalO tm x) fun v=>toORv H (oMakeInterface P t v)
noncomputable def oMakeSliceX (P:Program) (tm:T AV) (H:AH) (t:TypeId) (l c:Operand):Option OR:=ob (evalO tm l) fun v=>ob (evalO tm c) fun u=>toOR (oMakeSlice P H t v u)
noncomputable def oSliceX (P:Program) (tm:T AV) (H:AH) (t:TypeId) (x:Operand) (lo hi mx:Option Operand):Option OR:=
 ob (evalO tm x) fun v=>ob (optE tm lo) fun l=>ob (optE tm hi) fun h=>ob (optE tm mx) fun m=>toORv H (oSlice P H t v l h m)
noncomputable def oArrAt (P:Program) (t:TypeId) (x:AV):Option AV:=
 match P.underlying t with
 | some (.array n _)=>match x with
   | .l A o len _ _ _=>og (Nat.ble n len) (some (.p A o))
   | _=>none
 | _=>none
theorem oArrAt_sound {P:Program} {H:AH} {t:TypeId} {x r:AV} {x':Value} {ρ:Rho} {w:World} (h:oArrAt P t x=some r) (hh:HR ρ H w) (hx:VR ρ x x'):GoesV P (Instr.arrayAt t x') r H ρ H w:=by
 unfold oArrAt at h
 split at h
 · rename_i n e hu
   split at h
   · rename_i A o len cap sz ex
     simp only [og_some] at h
     obtain ⟨h1,e'⟩:=h
     simp at e';subst e'
     have h1':=Nat.le_of_ble_eq_true h1
     cases hx with
     | l A o len cap sz ex B d N cap' hr=>
     refine GoesV.pure hh (.p A o B d N hr) ?_
     simp only [Instr.arrayAt,Sem.run_bind,run_underlying' hu,Result.andThen_ok]
     rw [if_neg (by omega)]
     rfl
   · simp at h
 · simp at h
noncomputable def oArrAtX (P:Program) (tm:T AV) (H:AH) (t:TypeId) (x:Operand):Option OR:=ob (evalO tm x) fun v=>toORv H (oArrAt P t v)
noncomputable def oFieldAddrX (P:Program) (tm:T AV) (H:AH) (t:TypeId) (x:Operand) (f:Nat):Option OR:=ob (evalO tm x) fun v=>toORv H (oFieldAddr P t v f)
noncomputable def oFieldX (P:Program) (tm:T AV) (H:AH) (t:TypeId) (x:Operand) (f:Nat):Option OR:=ob (evalO tm x) fun v=>toORv H (oField P t v f)
noncomputable def oIndexAddrX (P:Program) (tm:T AV) (H:AH) (t:TypeId) (x i:Operand):Option OR:=ob (evalO tm x) fun v=>ob (evalO tm i) fun u=>toORv H (oIndexAddr P t v u)
noncomputable def oIndexX (P:Program) (tm:T AV) (H:AH) (t:TypeId) (x i:Operand):Option OR:=ob (evalO tm x) fun v=>ob (evalO tm i) fun u=>toORv H (oIndex P t v u)
noncomputable def oExtractX (tm:T AV) (H:AH) (x:Operand) (i:Nat):Option OR:=ob (evalO tm x) fun v=>toORv H (oExtract v i)
noncomputable def isIntT (P:Program) (t:TypeId):Bool:=
 match P.underlying t with
 | some (.int _)=>true
 | _=>false
noncomputable def mapKey (P:Program) (t:TypeId):Bool:=
 match P.underlying t with
 | some (.map k _)=>isIntT P k
 | _=>false
theorem mapKey_run {P:Program} {t:TypeId} (h:mapKey P t=true):∃k e d,P.underlying t=some (.map k e)/\P.underlying k=some (.int d):=by
 unfold mapKey at h
 split at h
 · rename_i k e hu
   unfold isIntT at h
   split at h
   · rename_i d hk;exact ⟨k,e,d,hu,hk⟩
   · simp at h
 · simp at h
noncomputable def findA (k:IntKind) (n:Int) (es:List (AV×AV×Nat)):Option (Option AV):=
 List.rec (motive:=fun _=>Option (Option AV)) (some none) (fun e _ ih=>match e.1 with
  | .i k' n'=>og (decide (k=k')) (match decide (n=n') with
    | true=>some (some e.2.1)
    | false=>ih)
  | _=>none) es
def FindsA (ρ:Rho) (r:Option AV) (x:Option (Option (Nat×Value))):Prop:=match r with
 | none=>x=some none
 | some v=>∃i v',x=some (some (i,v'))/\VR ρ v v'
theorem findA_sound {ρ:Rho} {k:IntKind} {n:Int} {d:IntKind}:∀{es:List (AV×AV×Nat)} {es':List MapEntry} {r:Option AV} (j:Nat),findA k n es=some r->es.length=es'.length->
 (∀(i:Nat) (q v:AV) (m:Nat),es[i]? =some (q,v,m)->∃e':MapEntry,es'[i]? =some e'/\VR ρ q e'.key/\VR ρ v e'.val/\e'.born=m)->FindsA ρ r (Instr.findNow (.int d) (.int k n) es' j)
 | [],[],r,j,h,hl,hv=>by
   simp [findA] at h;subst h;simp [FindsA,Instr.findNow]
 | [],_ :: _,r,j,h,hl,hv=>by simp at hl
 | _ :: _,[],r,j,h,hl,hv=>by simp at hl
 | (q,v,m) :: es,e' :: es',r,j,h,hl,hv=>by
   have h0:=hv 0 q v m (by simp)
   obtain ⟨e1,he1,hk,hval,hb⟩:=h0
   simp at he1;subst he1
   unfold findA at h
   dsimp only at h
   cases q with
   | i k' n'=>
     simp only [og_some,decide_eq_true_eq] at h
     obtain ⟨rfl,h⟩:=h
     generalize hkk:e'.key=kk at hk
     cases hk
     cases hd:decide (n=n') with
     | true=>
       rw [hd] at h
       simp at h;subst h
       have hn:n=n':=by simpa using hd
       exact ⟨j,e'.val,by simp [Instr.findNow,hkk,Instr.sameNow,hn],hval⟩
     | false=>
       rw [hd] at h
       have hn:n≠n':=by simpa using hd
       have ih:=findA_sound (d:=d) (j+1) (es:=es) (es':=es') (r:=r) h (by simpa using hl) (fun i q v m hi=>by
        have:=hv (i+1) q v m (by simpa using hi)
        simpa using this)
       have hstep:Instr.findNow (.int d) (.int k n) (e' :: es') j=Instr.findNow (.int d) (.int k n) es' (j+1):=by
        have:(n == n')=false:=by simpa using hn
        simp [Instr.findNow,hkk,Instr.sameNow,this]
       rw [hstep]
       exact ih
   | _=>simp at h
theorem run_checkKeyI {P:Program} {b:Bool} {m:Nat} {t:TypeId} {d k:IntKind} {n:Int} {w:World} (h:P.underlying t=some (.int d)):(Instr.checkKey b (m+1) t (.int k n)).run P w=.ok () w:=by
 unfold Instr.checkKey
 simp only [Sem.run_bind,run_underlying' h,Result.andThen_ok,Sem.run_pure]
theorem run_checkKeyI' {P:Program} {b:Bool} {t:TypeId} {d k:IntKind} {n:Int} {w:World} (h:P.underlying t=some (.int d)):(Instr.checkKey b 10000 t (.int k n)).run P w=.ok () w:=run_checkKeyI (m:=9999) h
theorem run_getMap {P:Program} {r c:Nat} {es:Array MapEntry} {w:World} (h:w.heap[r]? =some (.map es c)):(getObj r).run P w=.ok (.map es c) w:=by
 simp [getObj,Sem.run,h]
theorem run_setMap {P:Program} {r c:Nat} {es:Array MapEntry} {o:Obj} {w:World} (h:w.heap[r]? =some (.map es c)):(setObj r o).run P w=.ok () { w with heap:=w.heap.setIfInBounds r o}:=by
 simp [setObj,Sem.run,h]
theorem run_findKeyI {P:Program} {t:TypeId} {d k:IntKind} {n:Int} {es:List MapEntry} {r:Option (Nat×Value)} {w:World} (h:P.underlying t=some (.int d)) (hn:Instr.findNow (.int d) (.int k n) es 0=some r) :
 (Instr.findKey t (.int k n) es).run P w=.ok r w:=by
 simp only [Instr.findKey,Sem.run_bind,run_underlying' h,Result.andThen_ok,hn,Sem.run_pure]
noncomputable def oMakeMap (H:AH) (r:Option Operand):Option OR:=
 match r with
 | none=>some (.val (.m H.next) (H.new (.map [] 0)))
 | some _=>none
theorem oMakeMap_sound {P:Program} {H:AH} {t:TypeId} {ρ:Rho} {w:World} (hh:HR ρ H w) (hf:ρ H.next=none) :
 GoesV P (Instr.makeMap t none) (.m H.next) (H.new (.map [] 0)) ρ H w:=by
 obtain ⟨g1,g2⟩:=hh.new (o':=.map [] 0) (N:=0) (w':={ w with heap:=w.heap.push (.map #[] 0)}) hf
  ⟨#[],by simp,rfl,rfl,fun i k v n hi=>by simp at hi⟩
  (fun B hB=>by simp [Array.getElem?_push,Nat.ne_of_lt hB]) (by simp) rfl rfl rfl
 refine ⟨.map (some w.heap.size),_,_,?_,.m _ _ 0 (Rho.add_same _ _ _),g1,g2⟩
 simp [Instr.makeMap,newObj,Sem.run]
noncomputable def oInsert (P:Program) (H:AH) (t:TypeId) (m k x:AV):Option AH:=
 og (mapKey P t) (match m with
  | .m A=>match H.get A with
    | some (.map es clock)=>match k with
      | .i kk n=>ob (findA kk n es) fun r=>match r with
        | none=>some (H.upd A (some (.map (es ++ [(.i kk n,x,clock)]) (clock+1))))
        | some _=>none
      | _=>none
    | _=>none
  | _=>none)
theorem HR.mapRow {ρ:Rho} {H:AH} {w:World} {A B N clock:Nat} {es:List (AV×AV×Nat)} (hh:HR ρ H w) (hA:H.get A=some (.map es clock)) (hr:ρ A=some (B,0,N)) :
 ∃es':Array MapEntry,w.heap[B]? =some (.map es' clock)/\es.length=es'.size/\
  ∀(i:Nat) (k v:AV) (n:Nat),es[i]? =some (k,v,n)->∃e':MapEntry,es'[i]? =some e'/\VR ρ k e'.key/\VR ρ v e'.val/\e'.born=n:=by
 have hb:BR ρ (.map es clock) (B,0,N) w:=by
  rcases hh.live _ _ hA with ⟨x,hx,hb⟩ | hv
  · rw [hr] at hx;simp at hx;subst hx;exact hb
  · exact hv.1.elim
 obtain ⟨es',b1,b2,b3,b4⟩:=hb
 exact ⟨es',b1,b2,b4⟩
theorem oInsert_sound {P:Program} {H H':AH} {t:TypeId} {m k x:AV} {m' k' x':Value} {ρ:Rho} {w:World} (h:oInsert P H t m k x=some H') (hh:HR ρ H w) (hm:VR ρ m m') (hk:VR ρ k k') (hx:VR ρ x x') :
 GoesU P (Instr.mapUpdate t m' k' x') H' ρ H w:=by
 simp only [oInsert,og_some] at h
 obtain ⟨hmk,h⟩:=h
 obtain ⟨kt,et,d,hu,hku⟩:=mapKey_run hmk
 split at h
 · rename_i A
   split at h
   · rename_i es clock hA
     split at h
     · rename_i kk n
       simp only [ob_some] at h
       obtain ⟨r,hfnd,h⟩:=h
       split at h
       · simp only [Option.some.injEq] at h;subst h
         cases hk
         cases hm with
         | m _ B N hr=>
         obtain ⟨es',b1,b2,b4⟩:=hh.mapRow hA hr
         have hlt:B<w.heap.size:=by have:=hh.range _ _ hr;simpa using this
         have hnow:=findA_sound (d:=d) (es':=es'.toList) 0 hfnd (by simpa using b2) (fun i q v m hi=>by
          obtain ⟨e',h1,h2⟩:=b4 i q v m hi
          exact ⟨e',by simpa using h1,h2⟩)
         have hnow:_=some none:=hnow
         obtain ⟨g1,g2⟩:=hh.upd hA hr (w':={ w with heap:=w.heap.setIfInBounds B (.map (es'.push { key:=.int kk n,val:=x',born:=clock}) (clock+1))})
          (o':=.map (es ++ [(.i kk n,x,clock)]) (clock+1))
          ⟨es'.push { key:=.int kk n,val:=x',born:=clock},by simp [Array.getElem?_setIfInBounds,hlt],by simp [b2],rfl,fun i q v m hi=>by
            rw [List.getElem?_append] at hi
            split at hi
            · rename_i hlt'
              obtain ⟨e',h1,h2,h3,h4⟩:=b4 i q v m hi
              refine ⟨e',?_,h2,h3,h4⟩
              rw [Array.getElem?_push,if_neg (by omega)];exact h1
            · rename_i hge
              have hi0:i-es.length=0:=by
               by_cases hz:i-es.length=0
               · exact hz
               · rw [List.getElem?_eq_none (by simp;omega)] at hi;simp at hi
              have hi1:i=es'.size:=by omega
              rw [hi0] at hi
              simp at hi
              obtain ⟨rfl,rfl,rfl⟩:=hi
              exact ⟨{ key:=.int kk n,val:=x',born:=clock},by rw [Array.getElem?_push,if_pos hi1],.i _ _,hx,rfl⟩⟩
          (fun C hC=>by simp at hC;simp [Array.getElem?_setIfInBounds,Ne.symm hC]) (by simp) rfl rfl rfl
         refine ⟨ρ,_,?_,g1,g2⟩
         simp only [Instr.mapUpdate,Sem.run_bind,run_underlying' hu,Result.andThen_ok,run_getMap b1,run_checkKeyI' hku,run_findKeyI hku hnow,run_setMap b1]
       · simp at h
     · simp at h
   · simp at h
 · simp at h
noncomputable def oLookup (P:Program) (H:AH) (t:TypeId) (m k:AV):Option AV:=
 og (mapKey P t) (match m with
  | .m A=>match H.get A with
    | some (.map es _)=>match k with
      | .i kk n=>ob (findA kk n es) fun r=>r
      | _=>none
    | _=>none
  | _=>none)
theorem oLookup_sound {P:Program} {H:AH} {t:TypeId} {m k r:AV} {m' k':Value} {ρ:Rho} {w:World} (h:oLookup P H t m k=some r) (hh:HR ρ H w) (hm:VR ρ m m') (hk:VR ρ k k') :
 GoesV P (Instr.lookup t m' k' false) r H ρ H w:=by
 simp only [oLookup,og_some] at h
 obtain ⟨hmk,h⟩:=h
 obtain ⟨kt,et,d,hu,hku⟩:=mapKey_run hmk
 split at h
 · rename_i A
   split at h
   · rename_i es clock hA
     split at h
     · rename_i kk n
       simp only [ob_some] at h
       obtain ⟨r',hfnd,h⟩:=h
       subst h
       cases hk
       cases hm with
       | m _ B N hr=>
       obtain ⟨es',b1,b2,b4⟩:=hh.mapRow hA hr
       have hnow:=findA_sound (d:=d) (es':=es'.toList) 0 hfnd (by simpa using b2) (fun i q v m hi=>by
        obtain ⟨e',h1,h2⟩:=b4 i q v m hi
        exact ⟨e',by simpa using h1,h2⟩)
       obtain ⟨i,v',hnow,hv⟩:∃i v',_=some (some (i,v'))/\VR ρ _ v':=hnow
       refine GoesV.pure hh hv ?_
       simp only [Instr.lookup,Sem.run_bind,run_underlying' hu,Result.andThen_ok,run_getMap b1,Sem.run_pure,run_checkKeyI' hku,run_findKeyI hku hnow,Bool.false_eq_true,if_false]
     · simp at h
   · simp at h
 · simp at h
noncomputable def oInsertX (P:Program) (tm:T AV) (H:AH) (t:TypeId) (m k x:Operand):Option OR:=
 ob (evalO tm m) fun a=>ob (evalO tm k) fun b=>ob (evalO tm x) fun c=>ob (oInsert P H t a b c) fun H'=>some (.val undefV H')
noncomputable def oLookupX (P:Program) (tm:T AV) (H:AH) (t:TypeId) (m k:Operand) (ok:Bool):Option OR:=
 match ok with
 | false=>ob (evalO tm m) fun a=>ob (evalO tm k) fun b=>toORv H (oLookup P H t a b)
 | true=>none
noncomputable def xop (P:Program) (tm:T AV) (H:AH) (o:Op):Option OR:=
 match o with
 | .move x=>toORv H (evalO tm x)
 | .assign x=>toORv H (evalO tm x)
 | .pick c x y=>oPick tm H c x y
 | .alloc t=>toOR (oAlloc P H t)
 | .box t x=>oBoxX tm H t x
 | .build t ps=>toORv H (oBuild P tm t ps)
 | .buildSlice t n ps=>toOR (oBuildSlice P H tm t n ps)
 | .load t x=>oLoadX P tm H t x
 | .store t x y=>oStoreX P tm H t x y
 | .nilCheck x=>oNil tm H x
 | .binOp op t x y _=>oBinX P tm H op t x y
 | .unOp op _ x=>oUnX tm H op x
 | .convert s d x=>oConvertX P tm H s d x
 | .makeInterface t x=>oMakeInterfaceX P tm H t x
 | .makeFunc fn f c=>oMakeFunc tm H fn f c
 | .makeSlice t l c=>oMakeSliceX P tm H t l c
 | .slice t x lo hi mx=>oSliceX P tm H t x lo hi mx
 | .fieldAddr t x f=>oFieldAddrX P tm H t x f
 | .field t x f=>oFieldX P tm H t x f
 | .indexAddr t x i=>oIndexAddrX P tm H t x i
 | .index t x i=>oIndexX P tm H t x i
 | .extract x i=>oExtractX tm H x i
 | .sliceToArrayPointer t x=>oArrAtX P tm H t x
 | .call c=>oCall P tm H c
 | .makeMap _ r=>oMakeMap H r
 | .insert t m k x=>oInsertX P tm H t m k x
 | .mapUpdate t m k x=>oInsertX P tm H t m k x
 | .lookup t m k ok=>oLookupX P tm H t m k ok
 | _=>none
noncomputable def Goes (P:Program) (s:Sem Next) (ρ:Rho) (H:AH) (w:World):OR->Prop
 | .val v H'=>∃v' ρ' w',(s.run P w=.ok (.value v') w'\/(s.run P w=.ok .skip w'/\v'=undef))/\VR ρ' v v'/\HR ρ' H' w'/\Ext ρ H w ρ' H' w'
 | .enter g args=>∃args':List Value,s.run P w=.ok (.enter g args'.toArray) w/\VRs ρ args args'/\∃fn,P.funcs[g]? =some fn
theorem GoesV.goes {P:Program} {s:Sem Value} {v:AV} {H':AH} {ρ:Rho} {H:AH} {w:World} (h:GoesV P s v H' ρ H w):Goes P (s >>= fun v=>Pure.pure (Next.value v)) ρ H w (.val v H'):=by
 obtain ⟨v',ρ',w',h1,h2,h3,h4⟩:=h
 exact ⟨v',ρ',w',.inl (by simp [h1]),h2,h3,h4⟩
theorem GoesU.goes {P:Program} {s:Sem Unit} {H':AH} {ρ:Rho} {H:AH} {w:World} (h:GoesU P s H' ρ H w):Goes P (s >>= fun _=>Pure.pure Next.skip) ρ H w (.val undefV H'):=by
 obtain ⟨ρ',w',h1,h3,h4⟩:=h
 exact ⟨undef,ρ',w',.inr ⟨by simp [h1],rfl⟩,undef_VR _,h3,h4⟩
theorem toOR_some {x:Option (AV×AH)} {r:OR}:toOR x=some r↔∃v H',x=some (v,H')/\r=.val v H':=by
 cases x with
 | none=>simp [toOR]
 | some p=>
   obtain ⟨v,H'⟩:=p
   simp only [toOR,Option.some.injEq,Prod.mk.injEq]
   constructor
   · intro h;exact ⟨v,H',⟨rfl,rfl⟩,h.symm⟩
   · rintro ⟨v1,H1,⟨rfl,rfl⟩,h⟩;exact h.symm
theorem toORv_some {H:AH} {x:Option AV} {r:OR}:toORv H x=some r↔∃v,x=some v/\r=.val v H:=by
 cases x with
 | none=>simp [toORv]
 | some p=>simp [toORv];exact eq_comm
theorem Goes.value {P:Program} {s:Sem Next} {v:AV} {v':Value} {ρ:Rho} {H:AH} {w:World} (hh:HR ρ H w) (hv:VR ρ v v') (hr:s.run P w=.ok (.value v') w):Goes P s ρ H w (.val v H):=
 ⟨v',ρ,w,.inl hr,hv,hh,Ext.refl _ _ _⟩
theorem optE_VRo {ρ:Rho} {tm:T AV} {n:Nat} {a:Act} (ht:TR ρ tm n a.tmps) {x:Option Operand} {v:Option AV} (h:optE tm x=some v):VRo ρ v (x.map a.eval):=by
 cases x with
 | none=>simp [optE] at h;subst h;exact .none
 | some x=>
   simp only [optE,ob_some] at h
   obtain ⟨u,hu,e⟩:=h
   simp at e;subst e
   exact .some _ _ (evalO_VR ht hu)
theorem VRs.two {ρ:Rho} {x y:AV} {l:List Value} (h:VRs ρ [x,y] l):∃x' y',l=[x',y']/\VR ρ x x'/\VR ρ y y':=by
 cases h with | cons _ x' _ r hx hr=>cases hr with | cons _ y' _ r hy hr=>cases hr;exact ⟨x',y',rfl,hx,hy⟩
theorem VRs.one {ρ:Rho} {x:AV} {l:List Value} (h:VRs ρ [x] l):∃x',l=[x']/\VR ρ x x':=by
 cases h with | cons _ x' _ r hx hr=>cases hr;exact ⟨x',rfl,hx⟩
theorem foldA_max {P:Program} {ρ:Rho} {w:World}:∀(l:List AV) (x r:AV) (x':Value) (l':List Value),foldA maxA x l=some r->VR ρ x x'->VRs ρ l l'->∃v',(l'.foldlM Builtin.max2 x').run P w=.ok v' w/\VR ρ r v'
 | [],x,r,x',l',h,hx,hl=>by simp [foldA] at h;subst h;cases hl;exact ⟨x',by simp,hx⟩
 | y :: l,x,r,x',l',h,hx,hl=>by
   simp only [foldA,ob_some] at h
   obtain ⟨z,hz,h⟩:=h
   cases hl with | cons _ y' _ l' hy hl=>
   unfold maxA at hz
   split at hz
   · simp only [og_some] at hz
     obtain ⟨hk,e⟩:=hz
     simp at hk e;subst hk
     cases hx;cases hy
     rename_i k a b
     obtain ⟨v',h1,h2⟩:=foldA_max l z r (.int k (if b>a then b else a)) l' h (by rw [<-e];exact .i _ _) hl
     refine ⟨v',?_,h2⟩
     simp only [List.foldlM_cons,Sem.run_bind,Builtin.max2,Sem.run_pure,Result.andThen_ok]
     exact h1
   · simp at hz
theorem foldA_min {P:Program} {ρ:Rho} {w:World}:∀(l:List AV) (x r:AV) (x':Value) (l':List Value),foldA minA x l=some r->VR ρ x x'->VRs ρ l l'->∃v',(l'.foldlM Builtin.min2 x').run P w=.ok v' w/\VR ρ r v'
 | [],x,r,x',l',h,hx,hl=>by simp [foldA] at h;subst h;cases hl;exact ⟨x',by simp,hx⟩
 | y :: l,x,r,x',l',h,hx,hl=>by
   simp only [foldA,ob_some] at h
   obtain ⟨z,hz,h⟩:=h
   cases hl with | cons _ y' _ l' hy hl=>
   unfold minA at hz
   split at hz
   · simp only [og_some] at hz
     obtain ⟨hk,e⟩:=hz
     simp at hk e;subst hk
     cases hx;cases hy
     rename_i k a b
     obtain ⟨v',h1,h2⟩:=foldA_min l z r (.int k (if b<a then b else a)) l' h (by rw [<-e];exact .i _ _) hl
     refine ⟨v',?_,h2⟩
     simp only [List.foldlM_cons,Sem.run_bind,Builtin.min2,Sem.run_pure,Result.andThen_ok]
     exact h1
   · simp at hz
theorem oBuiltin_sound {P:Program} {H:AH} {b:Builtin} {ats:Array TypeId} {args:List AV} {args':List Value} {ty:TypeId} {cs:Array Bool} {r:OR} {ρ:Rho} {w:World} (h:oBuiltin P H b ats args=some r)
 (hh:HR ρ H w) (hf:Fresh ρ H (r.next H)) (ha:VRs ρ args args'):Goes P (builtin b ats ty cs args'.toArray) ρ H w r:=by
 unfold oBuiltin at h
 split at h
 · split at h
   · rename_i t u x y h0 h1
     rw [toOR_some] at h
     obtain ⟨v,H',h,rfl⟩:=h
     obtain ⟨x',y',rfl,hx,hy⟩:=ha.two
     exact (oAppend_sound (ty:=ty) h hh hf h0 h1 hx hy).goes
   · simp at h
 · split at h
   · rename_i t x y h0
     rw [toOR_some] at h
     obtain ⟨v,H',h,rfl⟩:=h
     obtain ⟨x',y',rfl,hx,hy⟩:=ha.two
     exact (oCopy_sound (ty:=ty) h hh h0 hx hy).goes
   · simp at h
 · split at h
   · rename_i t x h0
     rw [toORv_some] at h
     obtain ⟨v,h,rfl⟩:=h
     obtain ⟨x',rfl,hx⟩:=ha.one
     exact (oLen_sound (ty:=ty) h hh h0 hx).goes
   · simp at h
 · split at h
   · rename_i t x h0
     rw [toORv_some] at h
     obtain ⟨v,h,rfl⟩:=h
     obtain ⟨x',rfl,hx⟩:=ha.one
     exact (oCap_sound (ty:=ty) h hh h0 hx).goes
   · simp at h
 · split at h
   · rename_i x l
     rw [toORv_some] at h
     obtain ⟨v,h,rfl⟩:=h
     cases ha with | cons _ x' _ l' hx hl=>
     obtain ⟨v',h1,h2⟩:=foldA_max (P:=P) (w:=w) l x v x' l' h hx hl
     exact (GoesV.pure hh h2 (by simpa [Builtin.max_] using h1)).goes
   · simp at h
 · split at h
   · rename_i x l
     rw [toORv_some] at h
     obtain ⟨v,h,rfl⟩:=h
     cases ha with | cons _ x' _ l' hx hl=>
     obtain ⟨v',h1,h2⟩:=foldA_min (P:=P) (w:=w) l x v x' l' h hx hl
     exact (GoesV.pure hh h2 (by simpa [Builtin.min_] using h1)).goes
   · simp at h
 · simp at h
theorem run_callFunc {P:Program} {g:FuncId} {args:Array Value} {w:World} (h:okFn P g=true):(callFunc g args).run P w=.ok (.enter g args) w/\∃fn,P.funcs[g]? =some fn:=by
 unfold okFn at h
 split at h
 · rename_i fn hfn
   split at h
   · simp at h
   · rename_i hn
     split at h
     · rename_i c hc
       refine ⟨?_,fn,hfn⟩
       simp only [callFunc,Sem.run_bind,run_program,Result.andThen_ok,hfn,hn,Bool.false_eq_true,if_false,hc,Option.isNone_some,Sem.run_pure]
     · simp at h
 · simp at h
theorem oCall_sound {P:Program} {H:AH} {tm:T AV} {n:Nat} {a:Act} {c:Call} {ty:TypeId} {r:OR} {ρ:Rho} {w:World} (ht:TR ρ tm n a.tmps) (h:oCall P tm H c=some r)
 (hh:HR ρ H w) (hf:Fresh ρ H (r.next H)):Goes P (do let d <-resolve a.eval c ty;invoke d.target d.args) ρ H w r:=by
 unfold oCall at h
 split at h
 · rename_i f hcal
   simp only [ob_some] at h
   obtain ⟨fv,hfv,args,hargs,h⟩:=h
   have hf':=evalO_VR ht hfv
   have ha':=evalOs_VR ht hargs
   split at h
   · rename_i g first cap
     simp only [og_some] at h
     obtain ⟨hok,e⟩:=h
     simp only [Option.some.injEq] at e;subst e
     generalize hfx:a.eval f=fx at hf'
     cases hf' with | fn _ _ _ fs' cs' hfs hcs=>
     obtain ⟨k1,k2⟩:=run_callFunc (P:=P) (g:=g) (args:=(fs' ++ c.args.toList.map a.eval ++ cs').toArray) (w:=w) hok
     refine ⟨fs' ++ c.args.toList.map a.eval ++ cs',?_,VRs.append (VRs.append hfs ha') hcs,k2⟩
     have he:fs'.toArray ++ Array.map a.eval c.args ++ cs'.toArray=(fs' ++ c.args.toList.map a.eval ++ cs').toArray:=by
      apply Array.ext';simp
     simp only [resolve,hcal,hfx,Deferred.ofValue,Sem.run_bind,Sem.run_pure,Result.andThen_ok,invoke,he,k1]
   · simp at h
 · rename_i b hcal
   simp only [ob_some] at h
   obtain ⟨args,hargs,h⟩:=h
   have ha':=evalOs_VR ht hargs
   have:=oBuiltin_sound (ty:=ty) (cs:=c.args.map fun | .const _=>true | _=>false) h hh hf ha'
   have he:(c.args.toList.map a.eval).toArray=c.args.map a.eval:=by apply Array.ext';simp
   rw [he] at this
   have hr:(do let d <-resolve a.eval c ty;invoke d.target d.args)=builtin b c.argTypes ty (c.args.map fun | .const _=>true | _=>false) (c.args.map a.eval):=by
    simp only [resolve,hcal];rfl
   rw [hr];exact this
 · simp at h
theorem xop_sound {P:Program} {H:AH} {tm:T AV} {n:Nat} {a:Act} {o:Oper} {r:OR} {ρ:Rho} {w:World} (ht:TR ρ tm n a.tmps) (h:xop P tm H o.op=some r) (hh:HR ρ H w) (hf:Fresh ρ H (r.next H)) :
 Goes P (execOp a.eval o) ρ H w r:=by
 unfold xop at h
 unfold execOp
 split at h<;>rename_i hop<;>simp only [hop]
 · rw [toORv_some] at h;obtain ⟨v,h,rfl⟩:=h;exact Goes.value hh (evalO_VR ht h) rfl
 · rw [toORv_some] at h;obtain ⟨v,h,rfl⟩:=h;exact Goes.value hh (evalO_VR ht h) rfl
 · simp only [oPick,ob_some] at h
   obtain ⟨v,hv,h⟩:=h
   have hv':=evalO_VR ht hv
   split at h
   · rw [toORv_some] at h;obtain ⟨u,h,rfl⟩:=h
     refine Goes.value hh (evalO_VR ht h) ?_
     generalize a.eval _=cv at hv'
     cases hv';simp [asBool]
   · rw [toORv_some] at h;obtain ⟨u,h,rfl⟩:=h
     refine Goes.value hh (evalO_VR ht h) ?_
     generalize hq:a.eval _=cv at hv'
     cases hv';simp [asBool]
   · simp at h
 · rw [toOR_some] at h;obtain ⟨v,H',h,rfl⟩:=h;exact (oAlloc_sound h hh hf).goes
 · simp only [oBoxX,ob_some] at h;obtain ⟨v,hv,h⟩:=h
   rw [toOR_some] at h;obtain ⟨u,H',h,rfl⟩:=h;exact (oBox_sound h hh hf (evalO_VR ht hv)).goes
 · rw [toORv_some] at h;obtain ⟨v,h,rfl⟩:=h;exact (oBuild_sound ht h hh).goes
 · rw [toOR_some] at h;obtain ⟨v,H',h,rfl⟩:=h;exact (oBuildSlice_sound ht h hh hf).goes
 · simp only [oLoadX,ob_some] at h;obtain ⟨v,hv,h⟩:=h
   rw [toORv_some] at h;obtain ⟨u,h,rfl⟩:=h;exact (oLoad_sound h hh (evalO_VR ht hv)).goes
 · simp only [oStoreX,ob_some] at h;obtain ⟨v,hv,u,hu,H',h,e⟩:=h
   simp at e;subst e;exact (oStore_sound h hh (evalO_VR ht hv) (evalO_VR ht hu)).goes
 · simp only [oNil,ob_some] at h;obtain ⟨v,hv,h⟩:=h
   have hv':=evalO_VR ht hv
   split at h
   · simp at h;subst h
     generalize a.eval _=cv at hv'
     cases hv' with | p _ _ B d N hr=>exact Goes.value hh (.p _ _ B d N hr) rfl
   · simp at h;subst h
     generalize a.eval _=cv at hv'
     cases hv' with | fn g f c f' c' h1 h2=>exact Goes.value hh (.fn _ _ _ _ _ h1 h2) rfl
   · simp at h
 · simp only [oBinX,ob_some] at h;obtain ⟨v,hv,u,hu,h⟩:=h
   rw [toORv_some] at h;obtain ⟨q,h,rfl⟩:=h;exact (oBin_sound h hh (evalO_VR ht hv) (evalO_VR ht hu)).goes
 · simp only [oUnX,ob_some] at h;obtain ⟨v,hv,h⟩:=h
   rw [toORv_some] at h;obtain ⟨q,h,rfl⟩:=h;exact (oUn_sound h hh (evalO_VR ht hv)).goes
 · simp only [oConvertX,ob_some] at h;obtain ⟨v,hv,h⟩:=h
   rw [toOR_some] at h;obtain ⟨u,H',h,rfl⟩:=h;exact (oConvert_sound h hh hf (evalO_VR ht hv)).goes
 · simp only [oMakeInterfaceX,ob_some] at h;obtain ⟨v,hv,h⟩:=h
   rw [toORv_some] at h;obtain ⟨q,h,rfl⟩:=h;exact (oMakeInterface_sound h hh (evalO_VR ht hv)).goes
 · simp only [oMakeFunc,ob_some] at h;obtain ⟨f,hf',c,hc,e⟩:=h
   simp at e;subst e
   refine Goes.value hh (.fn _ _ _ _ _ (evalOs_VR ht hf') (evalOs_VR ht hc)) ?_
   simp [Instr.makeFunc]
   constructor<;>(apply Array.ext';simp)
 · simp only [oMakeSliceX,ob_some] at h;obtain ⟨v,hv,u,hu,h⟩:=h
   rw [toOR_some] at h;obtain ⟨q,H',h,rfl⟩:=h;exact (oMakeSlice_sound h hh hf (evalO_VR ht hv) (evalO_VR ht hu)).goes
 · simp only [oSliceX,ob_some] at h;obtain ⟨v,hv,l,hl,h',hh',m,hm,h⟩:=h
   rw [toORv_some] at h;obtain ⟨q,h,rfl⟩:=h;exact (oSlice_sound h hh (evalO_VR ht hv) (optE_VRo ht hl) (optE_VRo ht hh') (optE_VRo ht hm)).goes
 · simp only [oFieldAddrX,ob_some] at h;obtain ⟨v,hv,h⟩:=h
   rw [toORv_some] at h;obtain ⟨q,h,rfl⟩:=h;exact (oFieldAddr_sound h hh (evalO_VR ht hv)).goes
 · simp only [oFieldX,ob_some] at h;obtain ⟨v,hv,h⟩:=h
   rw [toORv_some] at h;obtain ⟨q,h,rfl⟩:=h;exact (oField_sound h hh (evalO_VR ht hv)).goes
 · simp only [oIndexAddrX,ob_some] at h;obtain ⟨v,hv,u,hu,h⟩:=h
   rw [toORv_some] at h;obtain ⟨q,h,rfl⟩:=h;exact (oIndexAddr_sound h hh (evalO_VR ht hv) (evalO_VR ht hu)).goes
 · simp only [oIndexX,ob_some] at h;obtain ⟨v,hv,u,hu,h⟩:=h
   rw [toORv_some] at h;obtain ⟨q,h,rfl⟩:=h;exact (oIndex_sound h hh (evalO_VR ht hv) (evalO_VR ht hu)).goes
 · simp only [oExtractX,ob_some] at h;obtain ⟨v,hv,h⟩:=h
   rw [toORv_some] at h;obtain ⟨q,h,rfl⟩:=h;exact (oExtract_sound h hh (evalO_VR ht hv)).goes
 · simp only [oArrAtX,ob_some] at h;obtain ⟨v,hv,h⟩:=h
   rw [toORv_some] at h;obtain ⟨q,h,rfl⟩:=h;exact (oArrAt_sound h hh (evalO_VR ht hv)).goes
 · exact oCall_sound ht h hh hf
 · rename_i t q
   unfold oMakeMap at h
   split at h
   · simp at h;subst h
     exact (oMakeMap_sound hh (hf _ (Nat.le_refl _) (Nat.lt_succ_self _))).goes
   · simp at h
 · simp only [oInsertX,ob_some] at h;obtain ⟨m,hm,k,hk,x,hx,H',h,e⟩:=h
   simp at e;subst e;exact (oInsert_sound h hh (evalO_VR ht hm) (evalO_VR ht hk) (evalO_VR ht hx)).goes
 · simp only [oInsertX,ob_some] at h;obtain ⟨m,hm,k,hk,x,hx,H',h,e⟩:=h
   simp at e;subst e;exact (oInsert_sound h hh (evalO_VR ht hm) (evalO_VR ht hk) (evalO_VR ht hx)).goes
 · rename_i ok
   cases ok with
   | true=>simp [oLookupX] at h
   | false=>
     simp only [oLookupX,ob_some] at h;obtain ⟨m,hm,k,hk,h⟩:=h
     rw [toORv_some] at h;obtain ⟨q,h,rfl⟩:=h;exact (oLookup_sound h hh (evalO_VR ht hm) (evalO_VR ht hk)).goes
 · simp at h
end Go.Sim
