/- Runs over unknown values, told by the kernel: part SymF. -/
import Derived.Test.YtgoppmcfidmgfaaSymE
import Derived.Tactics
import Derived.Orders
import Derived.OrdersIn
import Derived.TacticsIn
import Derived.RangeFuncRecord
set_option linter.unusedSimpArgs false
set_option linter.unusedVariables false
/- Runs: a call, a piece of code, the operations of a region, in one function with fuel. -/
namespace Go.Sim
open Go
inductive XO where
 | nrm
 | exit (id:Nat)
 | ret
structure DRec where
 i:Nat
 H:AH
 ids:List Nat
 H':AH
 v:AV
inductive Task where
 | code (c:Code) (n:Nat) (tm:T AV) (H:AH)
 | loop (c:Code) (n:Nat) (tm:T AV) (H:AH)
 | ops (all:Array Oper) (l:List Oper) (n:Nat) (tm:T AV) (H:AH)
 | draw (all:Array Oper) (l:List (Oper×Nat)) (i n:Nat) (tm:T AV) (H0:AH) (nx:Nat) (recs:List DRec)
 | call (g:FuncId) (args:List AV) (H:AH)
inductive Res where
 | st (x:XO) (tm:T AV) (H:AH)
 | rv (v:AV) (H:AH)
abbrev Rec:=Task->Option Res
noncomputable def svIdx (v u:AV):Bool:=
 match v with
 | .sv _ n _=>match u with
   | .i _ (.ofNat j)=>Nat.blt j n
   | _=>false
 | _=>false
noncomputable def isPv:AV->Bool
 | .pv _ _=>true
 | _=>false
noncomputable def bdN (x:Option AV) (d:Nat):Option Nat:=
 match x with
 | none=>some d
 | some (.i _ (.ofNat j))=>some j
 | _=>none
noncomputable def svCut (P:Program) (H:AH) (t:TypeId) (v:AV) (l h:Option AV):Option OR:=
 match v with
 | .sv _ n _=>ob (bdN l 0) fun a=>ob (bdN h n) fun b=>og (Nat.ble a b) (og (Nat.ble b n) (ob (oSliceS P t v l h) fun r=>some (.val r.1 H)))
 | _=>none
noncomputable def opS (P:Program) (tm:T AV) (H:AH) (o:Op):Option OR:=
 match o with
 | .indexAddr t x i=>ob (evalO tm x) fun v=>ob (evalO tm i) fun u=>og (svIdx v u) (ob (oIndexAddrS P t v u) fun r=>some (.val r.1 H))
 | .load t x=>ob (evalO tm x) fun v=>og (isPv v) (ob (oLoadS P H t v) fun r=>some (.val r.1 H))
 | .slice t x lo hi none=>ob (evalO tm x) fun v=>ob (optE tm lo) fun l=>ob (optE tm hi) fun h=>svCut P H t v l h
 | _=>none
noncomputable def opStep (P:Program) (rec:Rec) (tm:T AV) (H:AH) (o:Op):Option (AV×AH):=
 match xop P tm H o with
 | some (.val v H')=>some (v,H')
 | some (.enter g args)=>match rec (.call g args H) with
   | some (.rv v H')=>some (v,H')
   | _=>none
 | none=>match opS P tm H o with
   | some (.val v H')=>some (v,H')
   | _=>none
noncomputable def wantedA (ops:Array Oper) (tm:T AV) (g:Option (Nat×Bool)):Option Bool:=
 match g with
 | none=>some true
 | some (j,want)=>match (ops[j]?).bind (·.dst) with
   | some d=>match tm.get d with
     | some (.b x)=>some (x == want)
     | some _=>some false
     | none=>none
   | none=>some false
noncomputable def putD (tm:T AV) (n:Nat) (d:Option Tmp) (v:AV):Option (T AV):=
 match d with
 | none=>some tm
 | some d=>match Nat.blt d n with
   | true=>some (tm.set d (some v))
   | false=>none
noncomputable def stepOps (P:Program) (rec:Rec) (all:Array Oper) (n:Nat) (tm:T AV) (H:AH):List Oper->Option Res
 | []=>some (.st .nrm tm H)
 | o :: r=>match wantedA all tm o.guard with
   | some true=>ob (opStep P rec tm H o.op) fun p=>match p with
     | (v,H')=>ob (putD tm n o.dst v) fun tm'=>rec (.ops all r n tm' H')
   | some false=>ob (putD tm n o.dst undefV) fun tm'=>rec (.ops all r n tm' H)
   | none=>none
noncomputable def putIds (src:T AObj):List Nat->T AObj->T AObj
 | [],t=>t
 | A :: r,t=>putIds src r (t.set A (src.get A))
noncomputable def appSel (p:Nat->Bool):List DRec->T AObj->T AObj
 | [],t=>t
 | r :: rs,t=>match p r.i with
   | true=>putIds r.H'.tree r.ids (appSel p rs t)
   | false=>appSel p rs t
noncomputable def memN (A:Nat):List Nat->Bool
 | []=>false
 | B :: r=>match Nat.beq A B with
   | true=>true
   | false=>memN A r
noncomputable def disj:List Nat->List Nat->Bool
 | [],_=>true
 | A :: r,l=>match memN A l with
   | true=>false
   | false=>disj r l
noncomputable def allNone (t:T AObj):List Nat->Bool
 | []=>true
 | A :: r=>match t.get A with
   | some _=>false
   | none=>allNone t r
noncomputable def restrT (tm:T AV) (acc:T AV):List Operand->T AV
 | []=>acc
 | .tmp t :: r=>restrT tm (acc.set t (tm.get t)) r
 | _ :: r=>restrT tm acc r
noncomputable def nameD:Option AV->Option Nat
 | some (.p A _)=>some A
 | _=>none
noncomputable def seeD (tm:T AV) (o:Op) (t:T AObj):T AObj:=
 match o with
 | .load _ x=>match nameD (evalO tm x) with
   | some A=>T.e.set A (t.get A)
   | none=>t
 | _=>t
noncomputable def allIds:List DRec->List Nat->List Nat
 | [],l=>l
 | r :: rs,l=>r.ids ++ allIds rs l
noncomputable def maskOf (prev:List Nat) (o:Oper):Nat:=
 o.after.toList.foldl (fun s e=>bif Region.binds .any e then s ||| (2 ^ e.on ||| prev[e.on]?.getD 0) else s) 0
noncomputable def masks:List Oper->List Nat->List Nat
 | [],prev=>prev
 | o :: r,prev=>masks r (prev ++ [maskOf prev o])
noncomputable def edgesBack:List Oper->Nat->Bool
 | [],_=>true
 | o :: r,i=>match o.after.all (fun e=>!Region.binds .any e || decide (e.on<i)) with
   | true=>edgesBack r (i+1)
   | false=>false
noncomputable def tmpRead (ops:Array Oper) (ms:List Nat) (deps i t:Nat):List Oper->Nat->Bool
 | [],_=>true
 | o :: r,j=>match o.dst with
   | some d=>match Nat.beq d t with
     | true=>match (Nat.blt j i && Nat.testBit deps j) with
       | true=>tmpRead ops ms deps i t r (j+1)
       | false=>match (Nat.beq j i || (Nat.blt i j && Nat.testBit (ms[j]?.getD 0) i)) with
         | true=>tmpRead ops ms deps i t r (j+1)
         | false=>false
     | false=>tmpRead ops ms deps i t r (j+1)
   | none=>tmpRead ops ms deps i t r (j+1)
noncomputable def tmpsRead (ops:Array Oper) (ms:List Nat) (deps i:Nat):List Tmp->Bool
 | []=>true
 | t :: r=>match tmpRead ops ms deps i t ops.toList 0 with
   | true=>tmpsRead ops ms deps i r
   | false=>false
noncomputable def readsOk (ops:Array Oper) (ms:List Nat):List Oper->Nat->Bool
 | [],_=>true
 | o :: r,i=>match tmpsRead ops ms (ms[i]?.getD 0) i (o.looksAt ops) with
   | true=>readsOk ops ms r (i+1)
   | false=>false
noncomputable def dstsOk:List Oper->Bool
 | []=>true
 | o :: r=>match o.dst with
   | some d=>match r.all (fun q=>q.dst != some d) with
     | true=>dstsOk r
     | false=>false
   | none=>dstsOk r
noncomputable def regOk (P:Program) (ops:Array Oper):Bool:=
 P.follows .mixedOrders && (edgesBack ops.toList 0 && (readsOk ops (masks ops.toList []) ops.toList 0 && (dstsOk ops.toList && Region.noSelect ops)))
noncomputable def stepCode (P:Program) (rec:Rec) (n:Nat) (tm:T AV) (H:AH) (c:Code):Option Res:=
 match c with
 | .skip=>some (.st .nrm tm H)
 | .label _=>some (.st .nrm tm H)
 | .region _ ops false=>rec (.ops ops ops.toList n tm H)
 | .region _ ops true=>og (regOk P ops) (rec (.draw ops (ops.toList.zip (masks ops.toList [])) 0 n tm H H.next []))
 | .seq a b=>match rec (.code a n tm H) with
   | some (.st .nrm tm' H')=>rec (.code b n tm' H')
   | r=>r
 | .cond x a b=>ob (evalO tm x) fun v=>match v with
   | .b true=>rec (.code a n tm H)
   | .b false=>rec (.code b n tm H)
   | _=>none
 | .block id c=>match rec (.code c n tm H) with
   | some (.st (.exit k) tm' H')=>match Nat.beq k id with
     | true=>some (.st .nrm tm' H')
     | false=>some (.st (.exit k) tm' H')
   | r=>r
 | .loop c=>rec (.loop c n tm H)
 | .exit id=>some (.st (.exit id) tm H)
 | .ret=>some (.st .ret tm H)
 | _=>none
noncomputable def resOf (P:Program) (tm:T AV) (H:AH):List ResultVar->Option (List AV)
 | []=>some []
 | .tmp t :: r=>ob (evalO tm (.tmp t)) fun v=>ob (resOf P tm H r) fun l=>some (v :: l)
 | .cell a t :: r=>ob (evalO tm (.tmp a)) fun p=>ob (oLoad P H t p) fun v=>ob (resOf P tm H r) fun l=>some (v :: l)
noncomputable def oneRes:List AV->AV
 | [v]=>v
 | l=>.tup l
noncomputable def initT (t:T AV) (k:Nat) (l:List AV):T AV:=setAll t k l
noncomputable def finish (P:Program) (fn:Func):Option Res->Option Res
 | some (.st .nrm tm H)=>ob (resOf P tm H fn.results.toList) fun l=>some (.rv (oneRes l) H)
 | some (.st .ret tm H)=>ob (resOf P tm H fn.results.toList) fun l=>some (.rv (oneRes l) H)
 | _=>none
end Go.Sim
/- What a run leaves alone, and that operations go as they should in a frame. -/
namespace Go.Sim
open Go
structure Lg (H H':AH):Prop where
 next:H.next<=H'.next
 log:∃l,H'.log=l ++ H.log/\(∀A,A∉l->H'.get A=H.get A)/\(∀A,H.next<=A->A<H'.next->A∈l)
theorem Lg.refl (H:AH):Lg H H:=⟨Nat.le_refl _,[],rfl,fun _ _=>rfl,fun _ a b=>by omega⟩
theorem Lg.trans {H H1 H2:AH} (a:Lg H H1) (b:Lg H1 H2):Lg H H2:=by
 obtain ⟨n1,l1,e1,g1,m1⟩:=a
 obtain ⟨n2,l2,e2,g2,m2⟩:=b
 refine ⟨Nat.le_trans n1 n2,l2 ++ l1,by rw [e2,e1,List.append_assoc],?_,fun A q1 q2=>by
  rw [List.mem_append]
  rcases Nat.lt_or_ge A H1.next with h | h
  · exact .inr (m1 A q1 h)
  · exact .inl (m2 A h q2)⟩
 intro A hA
 simp only [List.mem_append,not_or] at hA
 rw [g2 A hA.1,g1 A hA.2]
theorem Lg.upd (H:AH) (A:Nat) (o:Option AObj):Lg H (H.upd A o):=
 ⟨Nat.le_refl _,[A],rfl,fun B hB=>by rw [AH.get_upd,if_neg (by simpa using hB)],fun B a b=>by have:(H.upd A o).next=H.next:=rfl;omega⟩
theorem Lg.new (H:AH) (o:AObj):Lg H (H.new o):=
 ⟨Nat.le_succ _,[H.next],rfl,fun B hB=>by rw [AH.get_new,if_neg (by simpa using hB)],fun B a b=>by have:(H.new o).next=H.next+1:=rfl;simp;omega⟩
theorem appendA_lg {H H':AH} {e:TypeId} {sz n:Nat} {x r:AV} {cs:List AV} (h:appendA H e sz x cs n=some (r,H')):Lg H H':=by
 unfold appendA at h
 split at h
 · split at h
   · simp at h;obtain ⟨_,rfl⟩:=h;exact .refl _
   · simp at h
 · split at h
   · simp at h;obtain ⟨_,rfl⟩:=h;exact .refl _
   · simp only [og_some] at h;obtain ⟨_,h⟩:=h;simp at h;obtain ⟨_,rfl⟩:=h;exact .new _ _
 · simp only [og_some] at h
   obtain ⟨_,_,h⟩:=h
   split at h
   · split at h
     · simp only [og_some] at h;obtain ⟨_,h⟩:=h;simp at h;obtain ⟨_,rfl⟩:=h;exact .upd _ _ _
     · simp only [ob_some] at h
       obtain ⟨obj,_,h⟩:=h
       split at h
       · simp at h;obtain ⟨_,rfl⟩:=h;exact .new _ _
       · simp only [og_some] at h;obtain ⟨_,h⟩:=h;simp at h;obtain ⟨_,rfl⟩:=h;exact (Lg.upd _ _ _).trans (.new _ _)
   · simp at h
 · simp at h
theorem xop_lg {P:Program} {tm:T AV} {H H':AH} {o:Op} {v:AV} (h:xop P tm H o=some (.val v H')):Lg H H':=by
 have keep:∀{x:Option AV},toORv H x=some (.val v H')->Lg H H':=by
  intro x hx
  rw [toORv_some] at hx
  obtain ⟨u,_,e⟩:=hx
  simp at e;obtain ⟨_,rfl⟩:=e;exact .refl _
 have ins:∀{t:TypeId} {a b c:Operand},oInsertX P tm H t a b c=some (.val v H')->Lg H H':=by
  intro t a b c q
  simp only [oInsertX,ob_some] at q;obtain ⟨_,_,_,_,_,_,H1,q,e⟩:=q
  simp at e;obtain ⟨_,e⟩:=e;rw [e] at q
  simp only [oInsert,og_some] at q
  obtain ⟨_,q⟩:=q
  split at q
  · split at q
    · split at q
      · simp only [ob_some] at q
        obtain ⟨_,_,q⟩:=q
        split at q
        · simp only [Option.some.injEq] at q;rw [<-q];exact .upd _ _ _
        · simp at q
      · simp at q
    · simp at q
  · simp at q
 unfold xop at h
 split at h
 · exact keep h
 · exact keep h
 · simp only [oPick,ob_some] at h;obtain ⟨c,_,h⟩:=h
   split at h
   · exact keep h
   · exact keep h
   · simp at h
 · rw [toOR_some] at h;obtain ⟨u,H1,h,e⟩:=h;simp at e;obtain ⟨rfl,rfl⟩:=e
   simp only [oAlloc,ob_some] at h;obtain ⟨z,_,h⟩:=h;simp at h;obtain ⟨_,rfl⟩:=h;exact .new _ _
 · simp only [oBoxX,ob_some] at h;obtain ⟨c,_,h⟩:=h
   rw [toOR_some] at h;obtain ⟨u,H1,h,e⟩:=h;simp at e;obtain ⟨rfl,rfl⟩:=e
   simp only [oBox,og_some] at h;obtain ⟨_,h⟩:=h;simp at h;obtain ⟨_,rfl⟩:=h;exact .new _ _
 · exact keep h
 · rw [toOR_some] at h;obtain ⟨u,H1,h,e⟩:=h;simp at e;obtain ⟨rfl,rfl⟩:=e
   unfold oBuildSlice at h
   split at h
   · simp only [ob_some,og_some] at h
     obtain ⟨_,_,_,_,_,_,_,_,_,h⟩:=h;simp at h;obtain ⟨_,rfl⟩:=h;exact .new _ _
   · simp at h
 · simp only [oLoadX,ob_some] at h;obtain ⟨c,_,h⟩:=h;exact keep h
 · simp only [oStoreX,ob_some] at h;obtain ⟨c,_,d,_,H1,h,e⟩:=h
   simp at e;obtain ⟨_,rfl⟩:=e
   unfold oStore at h
   split at h
   · split at h
     · simp only [ob_some,og_some] at h
       obtain ⟨_,_,_,_,_,h⟩:=h;simp at h;subst h;exact .upd _ _ _
     · simp at h
   · simp at h
 · simp only [oNil,ob_some] at h;obtain ⟨c,_,h⟩:=h
   split at h<;>simp at h<;>(obtain ⟨_,rfl⟩:=h;exact .refl _)
 · simp only [oBinX,ob_some] at h;obtain ⟨c,_,d,_,h⟩:=h;exact keep h
 · simp only [oUnX,ob_some] at h;obtain ⟨c,_,h⟩:=h;exact keep h
 · simp only [oConvertX,ob_some] at h;obtain ⟨c,_,h⟩:=h
   rw [toOR_some] at h;obtain ⟨u,H1,h,e⟩:=h;simp at e;obtain ⟨rfl,rfl⟩:=e
   unfold oConvert at h
   split at h
   · simp at h
   · split at h
     · split at h
       · simp at h;obtain ⟨_,rfl⟩:=h;exact .refl _
       · simp at h
     · split at h
       · simp at h;obtain ⟨_,rfl⟩:=h;exact .refl _
       · split at h
         · simp only [og_some] at h;obtain ⟨_,h⟩:=h;simp at h;obtain ⟨_,rfl⟩:=h;exact .refl _
         · simp at h
       · split at h
         · simp only [og_some] at h;obtain ⟨_,h⟩:=h
           split at h
           · simp only [ob_some] at h;obtain ⟨_,_,_,_,h⟩:=h;simp at h;obtain ⟨_,rfl⟩:=h;exact .refl _
           · simp at h
         · simp at h
       · simp at h
     · split at h
       · simp only [og_some] at h;obtain ⟨_,h⟩:=h;simp at h;obtain ⟨_,rfl⟩:=h;exact .new _ _
       · split at h
         · simp only [og_some] at h;obtain ⟨_,_,h⟩:=h
           split at h
           · simp at h;obtain ⟨_,rfl⟩:=h;exact .upd _ _ _
           · simp at h
         · simp at h
       · simp at h
     · simp at h
 · simp only [oMakeInterfaceX,ob_some] at h;obtain ⟨c,_,h⟩:=h;exact keep h
 · simp only [oMakeFunc,ob_some] at h;obtain ⟨_,_,_,_,h⟩:=h;simp at h;obtain ⟨_,rfl⟩:=h;exact .refl _
 · simp only [oMakeSliceX,ob_some] at h;obtain ⟨c,_,d,_,h⟩:=h
   rw [toOR_some] at h;obtain ⟨u,H1,h,e⟩:=h;simp at e;obtain ⟨rfl,rfl⟩:=e
   unfold oMakeSlice at h
   split at h
   · split at h
     · simp only [ob_some,og_some] at h
       obtain ⟨_,_,_,_,_,_,_,_,_,_,_,h⟩:=h;simp at h;obtain ⟨_,rfl⟩:=h;exact .new _ _
     · simp at h
   · simp at h
 · simp only [oSliceX,ob_some] at h;obtain ⟨c,_,_,_,_,_,_,_,h⟩:=h;exact keep h
 · simp only [oFieldAddrX,ob_some] at h;obtain ⟨c,_,h⟩:=h;exact keep h
 · simp only [oFieldX,ob_some] at h;obtain ⟨c,_,h⟩:=h;exact keep h
 · simp only [oIndexAddrX,ob_some] at h;obtain ⟨c,_,d,_,h⟩:=h;exact keep h
 · simp only [oIndexX,ob_some] at h;obtain ⟨c,_,d,_,h⟩:=h;exact keep h
 · simp only [oExtractX,ob_some] at h;obtain ⟨c,_,h⟩:=h;exact keep h
 · simp only [oArrAtX,ob_some] at h;obtain ⟨c,_,h⟩:=h;exact keep h
 · unfold oCall at h
   split at h
   · simp only [ob_some] at h;obtain ⟨_,_,_,_,h⟩:=h
     split at h
     · simp only [og_some] at h;obtain ⟨_,h⟩:=h;simp at h
     · simp at h
   · simp only [ob_some] at h;obtain ⟨args,_,h⟩:=h
     unfold oBuiltin at h
     split at h
     · split at h
       · rw [toOR_some] at h;obtain ⟨u,H1,h,e⟩:=h;simp at e;obtain ⟨rfl,rfl⟩:=e
         unfold oAppend at h
         split at h
         · split at h
           · simp only [ob_some,og_some] at h
             obtain ⟨_,_,_,_,_,_,_,_,_,h⟩:=h;exact appendA_lg h
           · simp at h
         · simp at h
       · simp at h
     · split at h
       · rw [toOR_some] at h;obtain ⟨u,H1,h,e⟩:=h;simp at e;obtain ⟨rfl,rfl⟩:=e
         unfold oCopy at h
         split at h
         · simp only [ob_some] at h;obtain ⟨_,_,_,_,h⟩:=h
           split at h
           · simp only [ob_some] at h;obtain ⟨_,_,h⟩:=h;simp at h;obtain ⟨_,rfl⟩:=h;exact .refl _
           · simp only [ob_some,og_some] at h;obtain ⟨_,_,_,h⟩:=h
             split at h
             · simp only [og_some] at h;obtain ⟨_,h⟩:=h;simp at h;obtain ⟨_,rfl⟩:=h;exact .upd _ _ _
             · simp at h
           · simp at h
         · simp at h
       · simp at h
     · split at h
       · exact keep h
       · simp at h
     · split at h
       · exact keep h
       · simp at h
     · split at h
       · exact keep h
       · simp at h
     · split at h
       · exact keep h
       · simp at h
     · simp at h
   · simp at h
 · unfold oMakeMap at h
   split at h
   · simp at h;obtain ⟨_,rfl⟩:=h;exact .new _ _
   · simp at h
 · exact ins h
 · exact ins h
 · rename_i ok
   cases ok with
   | true=>simp [oLookupX] at h
   | false=>simp only [oLookupX,ob_some] at h;obtain ⟨_,_,_,_,h⟩:=h;exact keep h
 · simp at h
theorem goneA_lg (H:AH) (A:Option Nat):Lg H (goneA H A):=by
 cases A with
 | none=>exact .refl _
 | some A=>exact .upd _ _ _
theorem xop2_lg {P:Program} {tm:T AV} {H H':AH} {o:Op} {b:Bool} {v:AV} {p:Option Prop} (h:(xop2 P tm H o).pick b=some (.val v H',p)):Lg H H':=by
 have onep:∀{x:ORP},(XO2.one x).pick b=x:=fun {x}=>by cases b<;>rfl
 have k1:∀{x:Option AV} {p:Option Prop},lv H x=some (.val v H',p)->Lg H H':=by
  intro x p h;rw [lv_some] at h;obtain ⟨u,_,e,_⟩:=h;simp at e;obtain ⟨_,rfl⟩:=e;exact .refl _
 have k2:∀{x:Option (AV×Prop)} {p:Option Prop},lvp H x=some (.val v H',p)->Lg H H':=by
  intro x p h;rw [lvp_some] at h;obtain ⟨u,_,_,e,_⟩:=h;simp at e;obtain ⟨_,rfl⟩:=e;exact .refl _
 have k3:∀{x:Option OR} {p:Option Prop},lor x=some (.val v H',p)->x=xop P tm H o->Lg H H':=by
  intro x p h e;rw [lor_some] at h;rw [e] at h;exact xop_lg h.1
 have conv:∀{s d:TypeId} {u:AV} {p:Option Prop},lvh (oConvert P H s d u)=some (.val v H',p)->Lg H H':=by
  intro s d u p h
  rw [lvh_some] at h;obtain ⟨q,H1,h,e,_⟩:=h;simp at e;obtain ⟨rfl,rfl⟩:=e
  have:xop P (T.set .e 0 (some u)) H (.convert s d (.tmp 0))=some (.val v H'):=by simp [xop,oConvertX,evalO,T.get_set,ob,h,toOR]
  exact xop_lg this
 have convS:∀{s d:TypeId} {u:AV} {p:Option Prop},lvhp (oConvertS P H s d u)=some (.val v H',p)->Lg H H':=by
  intro s d u p h
  rw [lvhp_some] at h;obtain ⟨q,H1,_,h,e,_⟩:=h;simp at e;obtain ⟨rfl,rfl⟩:=e
  unfold oConvertS at h
  split at h
  · simp at h
  · split at h
    · split at h
      · split at h<;>(simp only [Option.some.injEq,Prod.mk.injEq] at h;obtain ⟨_,rfl,_⟩:=h;exact .refl _)
      · simp at h
    · split at h
      · simp only [og_some] at h
        obtain ⟨_,h⟩:=h
        split at h
        · simp only [og_some,Option.some.injEq,Prod.mk.injEq] at h;obtain ⟨_,_,rfl,_⟩:=h;exact .refl _
        · simp only [og_some] at h
          obtain ⟨_,h⟩:=h
          split at h
          · simp only [og_some,Option.some.injEq,Prod.mk.injEq] at h;obtain ⟨_,_,rfl,_⟩:=h;exact .refl _
          · simp at h
        · simp at h
      · simp at h
    · split at h
      · simp only [og_some,Option.some.injEq,Prod.mk.injEq] at h;obtain ⟨_,_,rfl,_⟩:=h;exact .new _ _
      · simp at h
    · simp at h
 unfold xop2 at h
 split at h
 · cases b with
   | false=>simp only [XO2.pick] at h;exact k3 h rfl
   | true=>
     simp only [XO2.pick,ob_some] at h
     obtain ⟨_,_,h⟩:=h
     split at h
     · simp only [ob_some] at h;obtain ⟨_,_,_,_,h⟩:=h;exact k1 h
     · simp at h
 · rw [onep] at h
   simp only [ob_some] at h
   obtain ⟨_,_,h⟩:=h
   split at h
   · exact k1 h
   · exact k2 h
 · rename_i t x y
   rw [onep] at h
   simp only [ob_some] at h
   obtain ⟨c,_,d,_,h⟩:=h
   split at h
   · rw [luh_some] at h
     obtain ⟨H1,h,e,_⟩:=h;simp at e;obtain ⟨_,rfl⟩:=e
     unfold oStore at h
     split at h
     · split at h
       · simp only [ob_some,og_some] at h
         obtain ⟨_,_,_,_,_,h⟩:=h;simp at h;subst h;exact .upd _ _ _
       · simp at h
     · simp at h
   · split at h
     · rw [luhp_some] at h
       obtain ⟨H1,_,h,e,_⟩:=h;simp at e;obtain ⟨_,rfl⟩:=e
       simp only [oStoreG,ob_some,og_some] at h
       obtain ⟨_,_,_,_,_,h⟩:=h
       split at h
       · split at h
         · simp only [og_some,ob_some,Option.some.injEq,Prod.mk.injEq] at h
           obtain ⟨_,_,_,_,rfl,_⟩:=h;exact .upd _ _ _
         · simp at h
       · split at h
         · simp only [og_some,ob_some,Option.some.injEq,Prod.mk.injEq] at h
           obtain ⟨_,_,_,_,_,rfl,_⟩:=h;exact .upd _ _ _
         · simp at h
       · simp at h
     · rw [luhp_some] at h
       obtain ⟨H1,_,h,e,_⟩:=h;simp at e;obtain ⟨_,rfl⟩:=e
       simp only [oStoreS,ob_some,og_some] at h
       obtain ⟨_,_,_,h⟩:=h
       split at h
       · split at h
         · simp only [og_some,ob_some,Option.some.injEq,Prod.mk.injEq] at h
           obtain ⟨_,_,_,_,rfl,_⟩:=h;exact .upd _ _ _
         · simp at h
       · split at h
         · split at h
           · simp only [og_some,ob_some,Option.some.injEq,Prod.mk.injEq] at h
             obtain ⟨_,_,_,rfl,_⟩:=h;exact .upd _ _ _
           · simp at h
         · simp at h
       · simp at h
 · rw [onep] at h
   simp only [ob_some] at h
   obtain ⟨_,_,_,_,h⟩:=h
   split at h
   · exact k1 h
   · exact k2 h
 · rw [onep] at h
   simp only [ob_some] at h
   obtain ⟨_,_,h⟩:=h
   exact k2 h
 · rw [ob2_pick] at h
   obtain ⟨u,hu,h⟩:=h
   unfold xConvert at h
   split at h
   · split at h
     · cases b with
       | false=>exact conv (by simpa [XO2.pick] using h)
       | true=>exact convS (by simpa [XO2.pick] using h)
     · rw [onep] at h;exact conv h
   · split at h
     · rw [onep] at h;exact conv h
     · rw [onep] at h;exact convS h
 · cases b with
   | false=>simp only [XO2.pick] at h;exact k3 h rfl
   | true=>
     simp only [XO2.pick,ob_some] at h
     obtain ⟨_,_,_,_,h⟩:=h
     rw [lvhp_some] at h
     obtain ⟨u,H1,_,h,e,_⟩:=h;simp at e;obtain ⟨rfl,rfl⟩:=e
     unfold oMakeSliceS at h
     split at h
     · split at h
       · split at h
         · split at h
           · simp only [ob_some,og_some,Option.some.injEq,Prod.mk.injEq] at h
             obtain ⟨_,_,_,_,_,_,_,_,rfl,_⟩:=h;exact .new _ _
           · simp at h
         · simp at h
       · simp at h
     · simp at h
 · rw [onep] at h
   simp only [ob_some] at h
   obtain ⟨_,_,h⟩:=h
   split at h
   · split at h
     · simp only [ob_some] at h
       obtain ⟨_,_,_,_,h⟩:=h
       exact k2 h
     · simp at h
   · exact k3 h rfl
 · rw [onep] at h
   simp only [ob_some] at h
   obtain ⟨_,_,h⟩:=h
   exact k2 h
 · rw [ob2_pick] at h
   obtain ⟨u,hu,h⟩:=h
   split at h
   · rw [onep] at h
     simp only [ob_some] at h
     obtain ⟨_,_,h⟩:=h
     exact k2 h
   · cases b with
     | false=>simp only [XO2.pick,ob_some] at h;obtain ⟨_,_,h⟩:=h;exact k1 h
     | true=>simp only [XO2.pick,ob_some] at h;obtain ⟨_,_,h⟩:=h;exact k2 h
 · rw [ob2_pick] at h
   obtain ⟨u,hu,h⟩:=h
   split at h
   · rw [onep] at h
     simp only [ob_some] at h
     obtain ⟨_,_,h⟩:=h
     exact k2 h
   · cases b with
     | false=>simp only [XO2.pick,ob_some] at h;obtain ⟨_,_,h⟩:=h;exact k1 h
     | true=>simp only [XO2.pick,ob_some] at h;obtain ⟨_,_,h⟩:=h;exact k2 h
 · rename_i c
   have kc:xCall P tm H c=some (.val v H',p)->Lg H H':=by
    intro h
    unfold xCall at h
    split at h
    · rename_i hcal
      simp only [ob_some] at h
      obtain ⟨args,hargs,h⟩:=h
      split at h
      · rename_i t u x y h0 h1
        unfold xAppend at h
        split at h
        · rw [lvhp_some] at h
          obtain ⟨u,H1,_,h,e,_⟩:=h;simp at e;obtain ⟨rfl,rfl⟩:=e
          unfold oAppendS at h
          split at h
          · split at h
            · simp only [ob_some,og_some,Option.some.injEq,Prod.mk.injEq] at h
              obtain ⟨_,_,_,_,_,_,_,_,_,_,_,_,rfl,_⟩:=h
              exact (goneA_lg _ _).trans (.new _ _)
            · simp at h
          · simp at h
        · rw [lvh_some] at h
          obtain ⟨u2,H1,h,e,_⟩:=h;simp at e;obtain ⟨rfl,rfl⟩:=e
          unfold oAppend at h
          split at h
          · split at h
            · simp only [ob_some,og_some] at h
              obtain ⟨_,_,_,_,_,_,_,_,_,h⟩:=h;exact appendA_lg h
            · simp at h
          · simp at h
      · simp at h
    · rename_i hcal
      simp only [ob_some] at h
      obtain ⟨args,hargs,h⟩:=h
      split at h
      · rename_i t x y h0
        unfold xCopy at h
        split at h
        · rw [lvhp_some] at h
          obtain ⟨u,H1,_,h,e,_⟩:=h;simp at e;obtain ⟨rfl,rfl⟩:=e
          unfold oCopyS at h
          split at h
          · simp only [ob_some,og_some] at h
            obtain ⟨_,_,_,h⟩:=h
            split at h
            · simp only [og_some] at h
              obtain ⟨_,h⟩:=h
              split at h
              · simp only [og_some,ob_some,Option.some.injEq,Prod.mk.injEq] at h
                obtain ⟨_,_,_,_,rfl,_⟩:=h;exact .upd _ _ _
              · simp at h
            · simp at h
          · simp at h
        · rw [lvh_some] at h
          obtain ⟨u2,H1,h,e,_⟩:=h;simp at e;obtain ⟨rfl,rfl⟩:=e
          unfold oCopy at h
          split at h
          · simp only [ob_some] at h;obtain ⟨_,_,_,_,h⟩:=h
            split at h
            · simp only [ob_some] at h;obtain ⟨_,_,h⟩:=h;simp at h;obtain ⟨_,rfl⟩:=h;exact .refl _
            · simp only [ob_some,og_some] at h;obtain ⟨_,_,_,h⟩:=h
              split at h
              · simp only [og_some] at h;obtain ⟨_,h⟩:=h;simp at h;obtain ⟨_,rfl⟩:=h;exact .upd _ _ _
              · simp at h
            · simp at h
          · simp at h
      · simp at h
    · simp only [ob_some] at h
      obtain ⟨args,hargs,h⟩:=h
      split at h
      · split at h
        · exact k2 h
        · exact k3 h rfl
      · simp at h
    · exact k3 h rfl
   split at h
   · rw [onep] at h;exact kc h
   · cases b with
     | false=>exact kc (by simpa [XO2.pick] using h)
     | true=>
       have h:xCallF P tm H c=some (.val v H',p):=by simpa [XO2.pick] using h
       unfold xCallF at h
       split at h
       · simp only [ob_some] at h
         obtain ⟨args,hargs,h⟩:=h
         split at h
         · rw [lvhp_some] at h
           obtain ⟨u,H1,_,h,e,_⟩:=h;simp at e;obtain ⟨rfl,rfl⟩:=e
           simp only [oAppendF,ob_some,Option.some.injEq,Prod.mk.injEq] at h
           obtain ⟨⟨r1,H2,q⟩,ha,z,hz,rfl,rfl,rfl⟩:=h
           refine Lg.trans ?_ (.upd _ _ _)
           unfold oAppendS at ha
           split at ha
           · split at ha
             · simp only [ob_some,og_some,Option.some.injEq,Prod.mk.injEq] at ha
               obtain ⟨_,_,_,_,_,_,_,_,_,_,_,_,rfl,_⟩:=ha
               exact (goneA_lg _ _).trans (.new _ _)
             · simp at ha
           · simp at ha
         · simp at h
       · simp at h
 · rw [onep] at h
   simp only [ob_some] at h
   obtain ⟨_,_,h⟩:=h
   split at h
   · exact k2 h
   · exact k3 h rfl
 · rw [ob2_pick] at h
   obtain ⟨_,_,h⟩:=h
   split at h
   · rw [onep] at h;exact k3 h rfl
   · cases b with
     | false=>simp only [XO2.pick] at h;exact k3 h rfl
     | true=>
       simp only [XO2.pick] at h
       rw [lvh_some] at h
       obtain ⟨_,H1,h,e,_⟩:=h;simp at e;obtain ⟨_,rfl⟩:=e
       simp only [oBoxF,ob_some] at h
       obtain ⟨⟨r1,H1⟩,hb,z,hz,h⟩:=h
       split at h
       · simp only [Option.some.injEq,Prod.mk.injEq] at h
         obtain ⟨_,rfl⟩:=h
         simp only [oBox,og_some] at hb
         obtain ⟨_,hb⟩:=hb
         simp at hb
         rw [<-hb.2]
         exact (Lg.new _ _).trans (.upd _ _ _)
       · simp at h
 · rw [onep] at h
   simp only [ob_some] at h
   obtain ⟨_,_,h⟩:=h
   split at h
   · exact k2 h
   · exact k1 h
   · have h2:=h
     rw [lor_some] at h2
     obtain ⟨h3,_⟩:=h2
     simp only [oNil,ob_some] at h3
     obtain ⟨_,_,h3⟩:=h3
     split at h3
     · simp at h3;obtain ⟨_,rfl⟩:=h3;exact .refl _
     · simp at h3;obtain ⟨_,rfl⟩:=h3;exact .refl _
     · simp at h3
 · rw [onep] at h
   simp only [ob_some] at h
   obtain ⟨_,_,_,_,h⟩:=h
   split at h
   · exact k2 h
   · exact k3 h rfl
 · rw [onep] at h
   simp only [ob_some] at h
   obtain ⟨_,_,_,_,_,_,h⟩:=h
   split at h
   · rw [luhp_some] at h
     obtain ⟨H1,_,h,e,_⟩:=h;simp at e;obtain ⟨_,rfl⟩:=e
     simp only [oUpdateM,og_some] at h
     obtain ⟨_,h⟩:=h
     split at h
     · split at h
       · split at h
         · simp only [og_some,ob_some,Option.some.injEq,Prod.mk.injEq] at h
           obtain ⟨_,_,_,rfl,_⟩:=h;exact .upd _ _ _
         · simp at h
       · simp at h
     · simp at h
   · exact k3 h rfl
 · rw [onep] at h
   simp only [ob_some] at h
   obtain ⟨_,_,h⟩:=h
   split at h
   · rw [lvh_some] at h
     obtain ⟨_,H1,h,e,_⟩:=h;simp at e;obtain ⟨_,rfl⟩:=e
     unfold oMakeMapM at h
     split at h
     · simp at h;obtain ⟨_,rfl⟩:=h;exact .new _ _
     · simp at h
   · simp at h
 · rw [onep] at h
   exact k3 h rfl
def CallDoes (P:Program) (g:FuncId) (args:List AV) (H:AH) (v:AV) (H':AH):Prop:=
 Lg H H'/\∀ρ w (args':List Value),VRs ρ args args'->HR ρ H w->Fresh ρ H H'.next->
  Calls P g args'.toArray w (fun e w'=>∃v' ρ',e=.returned v'/\VR ρ' v v'/\HR ρ' H' w'/\Ext ρ H w ρ' H' w')
def XopAny (P:Program) (tm:T AV) (H:AH) (o:Op) (r:OR):Prop:=
 xop P tm H o=some r\/(∃b p,(xop2 P tm H o).pick b=some (r,p)/\Holds p)\/∃p,xopF P tm H o=some (r,p)/\Holds p
theorem xopF_lg {P:Program} {tm:T AV} {H H':AH} {o:Op} {v:AV} {p:Option Prop} (h:xopF P tm H o=some (.val v H',p)):Lg H H':=by
 unfold xopF at h
 split at h
 · simp only [ob_some] at h
   obtain ⟨_,_,_,_,h⟩:=h
   rw [lvhp_some] at h
   obtain ⟨u,H1,_,h,e,_⟩:=h;simp at e;obtain ⟨rfl,rfl⟩:=e
   simp only [oMakeSliceF,ob_some,Option.some.injEq,Prod.mk.injEq] at h
   obtain ⟨⟨r1,H2,q⟩,ha,z,hz,rfl,rfl,rfl⟩:=h
   refine Lg.trans ?_ (.upd _ _ _)
   unfold oMakeSliceS at ha
   split at ha
   · split at ha
     · split at ha
       · split at ha
         · simp only [ob_some,og_some,Option.some.injEq,Prod.mk.injEq] at ha
           obtain ⟨_,_,_,_,_,_,_,_,rfl,_⟩:=ha;exact .new _ _
         · simp at ha
       · simp at ha
     · simp at ha
   · simp at ha
 · simp at h
def OpDoes (P:Program) (tm:T AV) (H:AH) (o:Op) (v:AV) (H':AH):Prop:=
 ∃r,XopAny P tm H o r/\(r=.val v H'\/∃g args,r=.enter g args/\CallDoes P g args H v H')
theorem OpDoes.lg {P:Program} {tm:T AV} {H H':AH} {o:Op} {v:AV} (h:OpDoes P tm H o v H'):Lg H H':=by
 obtain ⟨r,hx,rfl | ⟨g,args,rfl,hc⟩⟩:=h
 · rcases hx with hx | ⟨b,p,hx,_⟩ | ⟨p,hx,_⟩
   · exact xop_lg hx
   · exact xop2_lg hx
   · exact xopF_lg hx
 · exact hc.1
abbrev FR (r:Option Nat):Fence:={ Fence.wide with round:=r}
theorem callsIn_FR {r:Option Nat} {n:Nat} {P:Program} {f:FuncId} {args:Array Value} {w:World} {R:Ending->World->Prop}:CallsIn (FR r) n P f args w R↔Calls P f args w R:=
 (callsIn_wide (n:=n) (P:=P) (f:=f) (args:=args) (w:=w) (R:=R))
theorem room_FR (r:Option Nat) (n:Nat):(FR r).room n:=room_wide n
theorem OpDoes.nodefer {P:Program} {tm:T AV} {H H':AH} {o:Op} {v:AV} (h:OpDoes P tm H o v H'):∀c,o≠.defer c:=by
 rintro c rfl
 obtain ⟨r,hx,_⟩:=h
 rcases hx with hx | ⟨b,p,hx,_⟩ | ⟨p,hx,_⟩
 · simp [xop] at hx
 · cases b<;>simp [xop2,XO2.pick,lor,xop] at hx
 · simp [xopF] at hx
theorem OpDoes.sound {P:Program} {tm:T AV} {H H':AH} {n:Nat} {a a':Act} {o:Oper} {v:AV} {ρ:Rho} {w:World} {K:Act->World->Prop} {Q:Exit->Act->World->Prop} {r0:Option Nat}
 (h:OpDoes P tm H o.op v H') (hdf:∀c,o.op≠.defer c) (ht:TR ρ tm n a'.tmps) (he:execOp a.eval o=execOp a'.eval o) (hh:HR ρ H w) (hf:Fresh ρ H H'.next)
 (hk:∀v' ρ' w',VR ρ' v v'->HR ρ' H' w'->Ext ρ H w ρ' H' w'->K (a.put o.dst v') w'):o.wpIn (FR r0) 0 P a w K Q:=by
 have sound:∀r,XopAny P tm H o.op r->Fresh ρ H (r.next H)->Goes P (execOp a'.eval o) ρ H w r:=by
  intro r hx hf
  rcases hx with hx | ⟨b,p,hx,hp⟩ | ⟨p,hx,hp⟩
  · exact xop_sound ht hx hh hf
  · exact xop2_sound ht hx hp hh hf
  · exact xopF_sound ht hx hp hh hf
 refine ⟨fun f _=>trivial,?_⟩
 rw [Oper.semAt_eq _ _ _ hdf,he]
 obtain ⟨r,hx,rfl | ⟨g,args,rfl,hc⟩⟩:=h
 · obtain ⟨v',ρ',w',hr,h1,h2,h3⟩:=sound _ hx hf
   rcases hr with hr | ⟨hr,rfl⟩
   · rw [hr];exact hk v' ρ' w' h1 h2 h3
   · rw [hr];exact hk _ ρ' w' h1 h2 h3
 · obtain ⟨args',hr,h1,_⟩:=sound _ hx (fun A q1 q2=>absurd q1 (by simp [OR.next] at q2;omega))
   rw [hr]
   refine ⟨fun h=>(by cases h),callsIn_FR.2 ((hc.2 ρ w args' h1 hh hf).mono ?_)⟩
   rintro e w' ⟨v',ρ',rfl,k1,k2,k3⟩
   exact hk v' ρ' w' k1 k2 k3
end Go.Sim
/- Frames, one operation in its frame, and what a run leaves alone. -/
namespace Go.Sim
open Go
theorem TR.put {ρ:Rho} {tm tm':T AV} {n:Nat} {a:Act} {d:Option Tmp} {v:AV} {v':Value} (ht:TR ρ tm n a.tmps) (h:putD tm n d v=some tm') (hv:VR ρ v v'):TR ρ tm' n (a.put d v').tmps:=by
 unfold putD at h
 split at h
 · simp at h;subst h;exact ht
 · rename_i d
   split at h
   · rename_i hlt
     rw [Nat.blt_eq] at hlt
     simp at h;subst h
     refine ⟨by simp [Act.put,ht.size],?_⟩
     intro t u hu
     rw [T.get_set] at hu
     by_cases e:t=d
     · subst e
       rw [if_pos rfl] at hu
       simp at hu;subst hu
       have:t<a.tmps.size:=by rw [ht.size];exact hlt
       simpa [Act.put,Array.getElem?_setIfInBounds,this] using hv
     · rw [if_neg e] at hu
       have:=ht.get t u hu
       simpa [Act.put,Array.getElem?_setIfInBounds,e,Ne.symm e] using this
   · simp at h
theorem VR.notBool {ρ:Rho} {u:AV} {x:Value} (h:VR ρ u x) (hn:∀b,u≠.b b):∀b,x≠.bool b:=by
 intro b e
 subst e
 cases h with
 | b x=>exact hn _ rfl
 | sv _ _ _ _ hc=>cases hc
 | opv _ _ _ _ hc=>cases hc
theorem wantedA_eq {ρ:Rho} {tm:T AV} {n:Nat} {a:Act} {ops:Array Oper} {o:Oper} {b:Bool} (ht:TR ρ tm n a.tmps) (h:wantedA ops tm o.guard=some b):Region.wanted o (yielded ops a.tmps)=b:=by
 unfold wantedA at h
 unfold Region.wanted
 cases hg:o.guard with
 | none=>rw [hg] at h;simp at h;simp [h]
 | some p=>
   rw [hg] at h
   obtain ⟨j,want⟩:=p
   simp only at h⊢
   unfold yielded
   cases hd:(ops[j]?).bind (·.dst) with
   | none=>rw [hd] at h;simp at h;simp [h]
   | some d=>
     rw [hd] at h
     simp only [Option.bind_some] at h⊢
     split at h
     · rename_i x hx
       simp at h
       have hv:=ht.get d _ hx
       rcases Nat.lt_or_ge d a.tmps.size with hlt | hge
       · have e1:a.tmps.getD d undef=a.tmps[d]:=by simp [hlt]
         rw [e1] at hv
         rw [Array.getElem?_eq_getElem hlt]
         generalize a.tmps[d]=y at hv
         cases hv;exact h
       · have e1:a.tmps.getD d undef=undef:=by simp [Nat.not_lt.2 hge]
         rw [e1] at hv
         simp only [undef] at hv
         cases hv
     · rename_i u hu hx
       simp at h
       have hv:=(ht.get d _ hx).notBool (fun b e=>hu b e)
       rcases Nat.lt_or_ge d a.tmps.size with hlt | hge
       · have e1:a.tmps.getD d undef=a.tmps[d]:=by simp [hlt]
         rw [e1] at hv
         rw [Array.getElem?_eq_getElem hlt]
         generalize a.tmps[d]=y at hv
         cases y<;>first | exact absurd rfl (hv _) | simpa using h
       · rw [Array.getElem?_eq_none hge]
         simpa using h
     · simp at h
theorem putIds_get (src:T AObj):∀(l:List Nat) (t:T AObj) (A:Nat),(putIds src l t).get A=if A∈l then src.get A else t.get A
 | [],t,A=>by simp [putIds]
 | B :: r,t,A=>by
   simp only [putIds,putIds_get src r,T.get_set]
   by_cases h1:A∈r
   · simp [h1]
   · by_cases h2:A=B
     · subst h2;simp
     · simp [h1,h2]
end Go.Sim
/- Regions that draw their order: facts on what comes behind what, and on what is laid over what. -/
namespace Go.Sim
open Go
theorem maskOf_bit {prev:List Nat} {o:Oper} {j:Nat}:(maskOf prev o).testBit j=true↔∃e∈o.after,Region.binds .any e=true/\(j=e.on\/(prev[e.on]?.getD 0).testBit j=true):=by
 unfold maskOf
 have key:∀(l:List Edge) (s:Nat),(l.foldl (fun s e=>bif Region.binds .any e then s ||| (2 ^ e.on ||| prev[e.on]?.getD 0) else s) s).testBit j=true↔
  s.testBit j=true\/∃e∈l,Region.binds .any e=true/\(j=e.on\/(prev[e.on]?.getD 0).testBit j=true):=by
  intro l
  induction l with
  | nil=>intro s;simp
  | cons e l ih=>
    intro s
    simp only [List.foldl_cons]
    rw [ih]
    cases hb:Region.binds .any e with
    | false=>simp [hb]
    | true=>
      simp only [cond_true,Nat.testBit_or,Bool.or_eq_true,Nat.testBit_two_pow,decide_eq_true_eq,List.mem_cons,exists_eq_or_imp,hb,true_and]
      constructor
      · rintro ((h | h | h) | h)
        · exact .inl h
        · exact .inr (.inl (.inl h.symm))
        · exact .inr (.inl (.inr h))
        · exact .inr (.inr h)
      · rintro (h | (h | h) | h)
        · exact .inl (.inl h)
        · exact .inl (.inr (.inl h.symm))
        · exact .inl (.inr (.inr h))
        · exact .inr h
 rw [key]
 simp
theorem masks_old:∀(l:List Oper) (prev:List Nat) (i:Nat),i<prev.length->(masks l prev)[i]? =prev[i]?
 | [],prev,i,h=>rfl
 | o :: r,prev,i,h=>by
   simp only [masks]
   rw [masks_old r _ i (by simp;omega),List.getElem?_append_left h]
theorem masks_at:∀(l:List Oper) (prev:List Nat) (k:Nat) (o:Oper),l[k]? =some o->∃q:List Nat,q.length=prev.length+k/\(∀i,i<q.length->q[i]? =(masks l prev)[i]?)/\(masks l prev)[prev.length+k]? =some (maskOf q o)
 | [],prev,k,o,h=>by simp at h
 | x :: r,prev,0,o,h=>by
   simp at h;subst h
   refine ⟨prev,by simp,?_,?_⟩
   · intro i hi
     exact (masks_old _ _ _ hi).symm
   · simp only [masks]
     rw [masks_old r _ _ (by simp)]
     simp
 | x :: r,prev,k+1,o,h=>by
   simp at h
   obtain ⟨q,h1,h2,h3⟩:=masks_at r (prev ++ [maskOf prev x]) k o h
   refine ⟨q,by rw [h1];simp;omega,?_,?_⟩
   · intro i hi;simpa [masks] using h2 i hi
   · simp only [masks]
     rw [<-h3];congr 1;simp;omega
noncomputable def mk (ops:Array Oper) (i:Nat):Nat:=((masks ops.toList [])[i]?).getD 0
theorem mk_bit {ops:Array Oper} {i j:Nat} {o:Oper} (ho:ops[i]? =some o):(mk ops i).testBit j=true↔∃e∈o.after,Region.binds .any e=true/\(j=e.on\/(e.on<i/\(mk ops e.on).testBit j=true)):=by
 obtain ⟨q,h1,h2,h3⟩:=masks_at ops.toList [] i o (by simpa using ho)
 simp at h1 h3
 unfold mk
 rw [h3]
 simp only [Option.getD_some,maskOf_bit]
 constructor
 · rintro ⟨e,he,hb,h | h⟩
   · exact ⟨e,he,hb,.inl h⟩
   · refine ⟨e,he,hb,?_⟩
     by_cases hlt:e.on<q.length
     · rw [h2 _ hlt] at h;exact .inr ⟨by omega,h⟩
     · rw [List.getElem?_eq_none (by omega)] at h;simp at h
 · rintro ⟨e,he,hb,h | ⟨hlt,h⟩⟩
   · exact ⟨e,he,hb,.inl h⟩
   · exact ⟨e,he,hb,.inr (by rw [h2 _ (by omega)];exact h)⟩
theorem edgesBack_at:∀(l:List Oper) (i k:Nat) (o:Oper),edgesBack l i=true->l[k]? =some o->∀e∈o.after,Region.binds .any e=true->e.on<i+k
 | [],i,k,o,h,hk=>by simp at hk
 | x :: r,i,0,o,h,hk=>by
   simp at hk;subst hk
   unfold edgesBack at h
   split at h
   · rename_i ha
     intro e he hb
     have:=Array.all_eq_true_iff_forall_mem.1 ha e he
     simp [hb] at this
     omega
   · simp at h
 | x :: r,i,k+1,o,h,hk=>by
   simp at hk
   unfold edgesBack at h
   split at h
   · intro e he hb
     have:=edgesBack_at r (i+1) k o h hk e he hb
     omega
   · simp at h
theorem mk_back {ops:Array Oper} (h:edgesBack ops.toList 0=true):∀(i j:Nat) (o:Oper),ops[i]? =some o->(mk ops i).testBit j=true->j<i:=by
 intro i
 induction i using Nat.strongRecOn with
 | _ i ih=>
   intro j o ho hb
   rw [mk_bit ho] at hb
   obtain ⟨e,he,hbind,hj | ⟨hlt,hj⟩⟩:=hb
   · have:=edgesBack_at ops.toList 0 i o h (by simpa using ho) e he hbind
     omega
   · cases hoe:ops[e.on]? with
     | none=>
       have hi:i<ops.size:=(Array.getElem?_eq_some_iff.1 ho).1
       rw [Array.getElem?_eq_none_iff] at hoe
       omega
     | some o2=>have:=ih e.on hlt j o2 hoe hj;omega
theorem tmpRead_at {ops:Array Oper} {ms:List Nat} {deps i t:Nat}:∀(l:List Oper) (j k:Nat) (o:Oper),tmpRead ops ms deps i t l j=true->l[k]? =some o->o.dst=some t->
 (j+k<i/\deps.testBit (j+k)=true)\/j+k=i\/(i<j+k/\(ms[j+k]?.getD 0).testBit i=true)
 | [],j,k,o,h,hk,hd=>by simp at hk
 | x :: r,j,k,o,h,hk,hd=>by
   unfold tmpRead at h
   cases k with
   | zero=>
     simp at hk;subst hk
     rw [hd] at h
     simp only [Nat.beq_refl] at h
     split at h
     · rename_i hc
       simp only [Bool.and_eq_true,Nat.blt_eq] at hc
       exact .inl (by simpa using hc)
     · split at h
       · rename_i hc
         simp only [Bool.or_eq_true,Bool.and_eq_true,Nat.blt_eq,Nat.beq_eq] at hc
         exact .inr (by simpa using hc)
       · simp at h
   | succ k=>
     simp at hk
     have key:tmpRead ops ms deps i t r (j+1)=true:=by
      split at h
      · split at h
        · split at h
          · exact h
          · split at h
            · exact h
            · simp at h
        · exact h
      · exact h
     have:=tmpRead_at r (j+1) k o key hk hd
     rw [show j+(k+1)=j+1+k by omega];exact this
theorem tmpsRead_at {ops:Array Oper} {ms:List Nat} {deps i:Nat}:∀(l:List Tmp) (t:Tmp),tmpsRead ops ms deps i l=true->t∈l->tmpRead ops ms deps i t ops.toList 0=true
 | [],t,h,hm=>by simp at hm
 | x :: r,t,h,hm=>by
   unfold tmpsRead at h
   split at h
   · cases hm with
     | head=>assumption
     | tail _ hm=>exact tmpsRead_at r t h hm
   · simp at h
theorem readsOk_at {ops:Array Oper} {ms:List Nat}:∀(l:List Oper) (i k:Nat) (o:Oper),readsOk ops ms l i=true->l[k]? =some o->tmpsRead ops ms (ms[i+k]?.getD 0) (i+k) (o.looksAt ops)=true
 | [],i,k,o,h,hk=>by simp at hk
 | x :: r,i,k,o,h,hk=>by
   unfold readsOk at h
   split at h
   · cases k with
     | zero=>simp at hk;subst hk;simpa using (by assumption)
     | succ k=>
       simp at hk
       have:=readsOk_at r (i+1) k o h hk
       rw [show i+(k+1)=i+1+k by omega];exact this
   · simp at h
theorem dstsOk_at:∀(l:List Oper) (j k:Nat) (o o':Oper) (d:Tmp),dstsOk l=true->l[j]? =some o->l[k]? =some o'->o.dst=some d->o'.dst=some d->j=k
 | [],j,k,o,o',d,h,hj,hk,h1,h2=>by simp at hj
 | x :: r,j,k,o,o',d,h,hj,hk,h1,h2=>by
   unfold dstsOk at h
   have tail:dstsOk r=true/\(∀d,x.dst=some d->∀q∈r,q.dst≠some d):=by
    split at h
    · rename_i d' hd'
      split at h
      · rename_i ha
        refine ⟨h,?_⟩
        intro d'' hd'' q hq
        rw [hd'] at hd'';simp at hd'';subst hd''
        have:=List.all_eq_true.1 ha q hq
        simpa using this
      · simp at h
    · rename_i hn
      exact ⟨h,fun d hd=>by rw [hn] at hd;simp at hd⟩
   cases j with
   | zero=>
     simp at hj;subst hj
     cases k with
     | zero=>rfl
     | succ k=>
       simp at hk
       exact absurd h2 (tail.2 d h1 o' (List.mem_of_getElem? hk))
   | succ j=>
     simp at hj
     cases k with
     | zero=>simp at hk;subst hk;exact absurd h1 (tail.2 d h2 o (List.mem_of_getElem? hj))
     | succ k=>simp at hk;rw [dstsOk_at r j k o o' d tail.1 hj hk h1 h2]
theorem appSel_get_agree {p q:Nat->Bool} {t:T AObj} {A:Nat}:∀(recs:List DRec),(∀r∈recs,A∈r.ids->p r.i=q r.i)->(appSel p recs t).get A=(appSel q recs t).get A
 | [],_=>rfl
 | r :: rs,h=>by
   have ih:=appSel_get_agree (t:=t) rs fun r hr=>h r (by simp [hr])
   simp only [appSel]
   by_cases hA:A∈r.ids
   · rw [h r (by simp) hA]
     cases q r.i with
     | true=>simp only [putIds_get];rw [if_pos hA,if_pos hA]
     | false=>exact ih
   · cases hp:p r.i<;>cases hq:q r.i<;>simp only [putIds_get,if_neg hA]<;>exact ih
theorem appSel_append {p:Nat->Bool} {t:T AObj}:∀(a b:List DRec),appSel p (a ++ b) t=appSel p a (appSel p b t)
 | [],b=>rfl
 | r :: rs,b=>by simp only [List.cons_append,appSel,appSel_append rs b]
theorem appSel_none {p:Nat->Bool} {t:T AObj} {A:Nat}:∀(recs:List DRec),(∀r∈recs,p r.i=true->A∉r.ids)->(appSel p recs t).get A=t.get A
 | [],_=>rfl
 | r :: rs,h=>by
   have ih:=appSel_none (t:=t) rs fun r hr=>h r (by simp [hr])
   simp only [appSel]
   cases hp:p r.i with
   | true=>simp only [putIds_get,if_neg (h r (by simp) hp)];exact ih
   | false=>exact ih
theorem memN_iff:∀(l:List Nat) (A:Nat),memN A l=true↔A∈l
 | [],A=>by simp [memN]
 | B :: r,A=>by
   simp only [memN]
   split
   · rename_i h;have:=Nat.eq_of_beq_eq_true h;simp [this]
   · rename_i h;have:=Nat.ne_of_beq_eq_false h;simp [this,memN_iff r A]
theorem disj_spec:∀(a b:List Nat),disj a b=true->∀A∈a,A∉b
 | [],b,h,A,hA=>by simp at hA
 | B :: r,b,h,A,hA=>by
   simp only [disj] at h
   split at h
   · simp at h
   · rename_i hm
     cases hA with
     | head=>intro hb;rw [(memN_iff b B).2 hb] at hm;simp at hm
     | tail _ hA=>exact disj_spec r b h A hA
theorem allNone_spec {t:T AObj}:∀(l:List Nat),allNone t l=true->∀A∈l,t.get A=none
 | [],h,A,hA=>by simp at hA
 | B :: r,h,A,hA=>by
   simp only [allNone] at h
   split at h
   · simp at h
   · rename_i hn
     cases hA with
     | head=>exact hn
     | tail _ hA=>exact allNone_spec r h A hA
end Go.Sim
/- Regions that draw their order: whatever order is drawn, the run in the text's order tells what comes of it. -/
namespace Go.Sim
open Go
structure NodeOp (P:Program) (ops:Array Oper) (H0:AH) (tmf:Nat->T AV) (nxf:Nat->Nat) (recf:Nat->List DRec) (val:Nat->AV) (i:Nat) (o:Oper) (Hi H':AH):Prop where
 next:Hi.next=nxf i
 log:Hi.log=[]
 sub:∀A obj,Hi.get A=some obj->(appSel (Nat.testBit (mk ops i)) (recf i) H0.tree).get A=some obj
 does:OpDoes P (restrT (tmf i) .e o.op.operands.toList) Hi o.op (val i) H'
 chk:∀r∈recf i,(mk ops i).testBit r.i=false->(∀A∈r.ids,A∉H'.log)/\(∀A∈r.ids,Hi.tree.get A=none)/\(∀A∈H'.log,r.H.tree.get A=none)
structure Node (P:Program) (ops:Array Oper) (n:Nat) (H0:AH) (tmf:Nat->T AV) (nxf:Nat->Nat) (recf:Nat->List DRec) (val:Nat->AV) (i:Nat) (o:Oper):Prop where
 put:putD (tmf i) n o.dst (val i)=some (tmf (i+1))
 step:(wantedA ops (tmf i) o.guard=some true/\∃Hi H',NodeOp P ops H0 tmf nxf recf val i o Hi H'/\nxf (i+1)=H'.next/\
  recf (i+1)={ i:=i,H:=Hi,ids:=H'.log,H':=H',v:=val i} :: recf i)\/
  (wantedA ops (tmf i) o.guard=some false/\val i=undefV/\nxf (i+1)=nxf i/\recf (i+1)=recf i)
def hasT (t:Nat):List Operand->Bool
 | []=>false
 | .tmp u :: r=>(t == u) || hasT t r
 | .const _ :: r=>hasT t r
 | .global _ :: r=>hasT t r
 | .func _ :: r=>hasT t r
theorem hasT_iff (t:Nat):∀(l:List Operand),hasT t l=true↔Operand.tmp t∈l
 | []=>by simp [hasT]
 | .tmp u :: r=>by simp [hasT,hasT_iff t r]
 | .const v :: r=>by simp [hasT,hasT_iff t r]
 | .global g :: r=>by simp [hasT,hasT_iff t r]
 | .func f :: r=>by simp [hasT,hasT_iff t r]
theorem restrT_get (tm:T AV):∀(l:List Operand) (acc:T AV) (t:Nat),(restrT tm acc l).get t=if hasT t l then tm.get t else acc.get t
 | [],acc,t=>by simp [restrT,hasT]
 | .tmp u :: r,acc,t=>by
   simp only [restrT,restrT_get tm r,T.get_set,hasT]
   by_cases h1:hasT t r=true
   · simp [h1]
   · by_cases h2:t=u
     · subst h2;simp
     · simp [h1,h2]
 | .const v :: r,acc,t=>by simp only [restrT,restrT_get tm r];rfl
 | .global g :: r,acc,t=>by simp only [restrT,restrT_get tm r];rfl
 | .func f :: r,acc,t=>by simp only [restrT,restrT_get tm r];rfl
def writer (ops:Array Oper) (t:Nat):Option Nat:=(List.range ops.size).find? fun j=>(ops[j]?).bind (·.dst) == some t
theorem writer_some {ops:Array Oper} {t j:Nat} (h:writer ops t=some j):∃o,ops[j]? =some o/\o.dst=some t:=by
 unfold writer at h
 have:=List.find?_some h
 simp only [beq_iff_eq] at this
 cases ho:ops[j]? with
 | none=>rw [ho] at this;simp at this
 | some o=>rw [ho] at this;exact ⟨o,rfl,by simpa using this⟩
theorem writer_of {ops:Array Oper} (hd:dstsOk ops.toList=true) {t j:Nat} {o:Oper} (ho:ops[j]? =some o) (h:o.dst=some t):writer ops t=some j:=by
 cases hw:writer ops t with
 | none=>
   unfold writer at hw
   rw [List.find?_eq_none] at hw
   have:=hw j (by simp;exact (Array.getElem?_eq_some_iff.1 ho).1)
   simp [ho,h] at this
 | some k=>
   obtain ⟨o',ho',h'⟩:=writer_some hw
   rw [dstsOk_at ops.toList k j o' o t hd (by simpa using ho') (by simpa using ho) h' h]
noncomputable def frD (ops:Array Oper) (tm0:T AV) (val:Nat->AV) (p:Nat->Bool) (t:Nat):Option AV:=
 match writer ops t with
 | some j=>if p j then some (val j) else tm0.get t
 | none=>tm0.get t
section
variable {P:Program} {ops:Array Oper} {n:Nat} {H0:AH} {tmf:Nat->T AV} {nxf:Nat->Nat} {recf:Nat->List DRec} {val:Nat->AV}
theorem tmf_eq (hd:dstsOk ops.toList=true) (hn:∀i o,ops[i]? =some o->Node P ops n H0 tmf nxf recf val i o):∀(i:Nat),i<=ops.size->∀t,(tmf i).get t=frD ops (tmf 0) val (fun j=>decide (j<i)) t
 | 0,_,t=>by
   unfold frD
   split<;>simp
 | i+1,hi,t=>by
   have ih:=tmf_eq hd hn i (by omega) t
   have hlt:i<ops.size:=by omega
   obtain ⟨o,ho⟩:∃o,ops[i]? =some o:=⟨_,Array.getElem?_eq_getElem hlt⟩
   have hput:=(hn i o ho).put
   unfold putD at hput
   unfold frD at ih⊢
   split at hput
   · rename_i hnone
     simp at hput
     rw [<-hput,ih]
     cases hw:writer ops t with
     | none=>rfl
     | some j=>
       simp only [decide_eq_true_eq]
       by_cases h1:j<i
       · rw [if_pos h1,if_pos (by omega)]
       · by_cases h2:j=i
         · subst h2
           obtain ⟨o',ho',h'⟩:=writer_some hw
           rw [ho] at ho';simp at ho';subst ho'
           rw [hnone] at h';simp at h'
         · rw [if_neg h1,if_neg (by omega)]
   · rename_i d hsome
     split at hput
     · simp at hput
       rw [<-hput,T.get_set]
       by_cases e:t=d
       · subst e
         rw [writer_of hd ho hsome]
         simp
       · rw [if_neg e,ih]
         cases hw:writer ops t with
         | none=>rfl
         | some j=>
           simp only [decide_eq_true_eq]
           by_cases h1:j<i
           · rw [if_pos h1,if_pos (by omega)]
           · by_cases h2:j=i
             · subst h2
               obtain ⟨o',ho',h'⟩:=writer_some hw
               rw [ho] at ho';simp at ho';subst ho'
               rw [hsome] at h';simp at h';exact absurd h'.symm e
             · rw [if_neg h1,if_neg (by omega)]
     · simp at hput
theorem recf_split (hn:∀i o,ops[i]? =some o->Node P ops n H0 tmf nxf recf val i o):∀(k i:Nat),i+k<=ops.size->∃pre,recf (i+k)=pre ++ recf i/\∀r∈pre,i<=r.i/\r.i<i+k
 | 0,i,_=>⟨[],rfl,by simp⟩
 | k+1,i,h=>by
   obtain ⟨pre,h1,h2⟩:=recf_split hn k i (by omega)
   have hlt:i+k<ops.size:=by omega
   obtain ⟨o,ho⟩:∃o,ops[i+k]? =some o:=⟨_,Array.getElem?_eq_getElem hlt⟩
   rcases (hn _ o ho).step with ⟨_,Hi,H',_,_,hr⟩ | ⟨_,_,_,hr⟩
   · refine ⟨_ :: pre,by rw [show i+(k+1)=i+k+1 by omega,hr,h1];rfl,?_⟩
     intro r hr'
     cases hr' with
     | head=>exact ⟨by simp,by simp⟩
     | tail _ hr'=>have:=h2 r hr';omega
   · refine ⟨pre,by rw [show i+(k+1)=i+k+1 by omega,hr,h1],?_⟩
     intro r hr'
     have:=h2 r hr';omega
theorem recf_low (hn:∀i o,ops[i]? =some o->Node P ops n H0 tmf nxf recf val i o) (h0:recf 0=[]) (i:Nat) (hi:i<=ops.size):∀r∈recf i,r.i<i:=by
 obtain ⟨pre,h1,h2⟩:=recf_split hn i 0 (by omega)
 intro r hr
 simp only [Nat.zero_add,h0,List.append_nil] at h1
 rw [h1] at hr
 have:=h2 r hr;omega
theorem rec_node (hn:∀i o,ops[i]? =some o->Node P ops n H0 tmf nxf recf val i o) (h0:recf 0=[]):∀(m:Nat),m<=ops.size->∀r∈recf m,∃o Hi H',ops[r.i]? =some o/\wantedA ops (tmf r.i) o.guard=some true/\
 NodeOp P ops H0 tmf nxf recf val r.i o Hi H'/\r={ i:=r.i,H:=Hi,ids:=H'.log,H':=H',v:=val r.i}/\recf (r.i+1)=r :: recf r.i
 | 0,_,r,hr=>by rw [h0] at hr;simp at hr
 | m+1,hm,r,hr=>by
   have hlt:m<ops.size:=by omega
   obtain ⟨o,ho⟩:∃o,ops[m]? =some o:=⟨_,Array.getElem?_eq_getElem hlt⟩
   rcases (hn _ o ho).step with ⟨hw,Hi,H',h1,h3,h4⟩ | ⟨_,_,_,h4⟩
   · rw [h4] at hr
     cases hr with
     | head=>exact ⟨o,Hi,H',ho,hw,h1,rfl,h4⟩
     | tail _ hr=>exact rec_node hn h0 m (by omega) r hr
   · rw [h4] at hr;exact rec_node hn h0 m (by omega) r hr
theorem nxf_mono (hn:∀i o,ops[i]? =some o->Node P ops n H0 tmf nxf recf val i o):∀(k i:Nat),i+k<=ops.size->nxf i<=nxf (i+k)
 | 0,i,_=>Nat.le_refl _
 | k+1,i,h=>by
   have ih:=nxf_mono hn k i (by omega)
   have hlt:i+k<ops.size:=by omega
   obtain ⟨o,ho⟩:∃o,ops[i+k]? =some o:=⟨_,Array.getElem?_eq_getElem hlt⟩
   rw [show i+(k+1)=i+k+1 by omega]
   rcases (hn _ o ho).step with ⟨_,Hi,H',h1,h3,_⟩ | ⟨_,_,h3,_⟩
   · have:=h1.does.lg.next
     have:=h1.next
     omega
   · omega
end
end Go.Sim
/- Regions that draw their order, the theorem. -/
namespace Go.Sim
open Go
section
variable {P:Program} {ops:Array Oper} {n:Nat} {H0:AH} {tmf:Nat->T AV} {nxf:Nat->Nat} {recf:Nat->List DRec} {val:Nat->AV}
noncomputable def KD (ops:Array Oper) (H0:AH) (nxf:Nat->Nat) (recf:Nat->List DRec) (D:Nat->Bool):AH:=
 { tree:=appSel D (recf ops.size) H0.tree,next:=nxf ops.size,log:=[]}
structure Inv (ops:Array Oper) (n:Nat) (H0:AH) (tm0:T AV) (nxf:Nat->Nat) (recf:Nat->List DRec) (val:Nat->AV) (ρ0:Rho) (w0:World) (ds:List Deferred) (D:Nat->Bool) (a:Act) (w:World) (ρ:Rho):Prop where
 size:a.tmps.size=n
 defers:a.defers=ds
 frame:∀t v,frD ops tm0 val D t=some v->VR ρ v (a.tmps.getD t undef)
 heap:HR ρ (KD ops H0 nxf recf D) w
 ext:Ext ρ0 H0 w0 ρ (KD ops H0 nxf recf D) w
 dom:∀A x,ρ A=some x->ρ0 A=some x\/∃j,j<ops.size/\D j=true/\nxf j<=A/\A<nxf (j+1)
theorem frD_put (hd:dstsOk ops.toList=true) {tm0:T AV} {i:Nat} {o:Oper} (ho:ops[i]? =some o) {D D':Nat->Bool} (hD':∀j,D' j=if j=i then true else D j) {a:Act} {ρ ρ':Rho} {v':Value}
 (hput:∀d,o.dst=some d->d<a.tmps.size) (hf:∀t v,frD ops tm0 val D t=some v->VR ρ v (a.tmps.getD t undef)) (hle:Rho.le ρ ρ') (hv:VR ρ' (val i) v'):∀t v,frD ops tm0 val D' t=some v->VR ρ' v ((a.put o.dst v').tmps.getD t undef):=by
 intro t v hv1
 cases hdst:o.dst with
 | none=>
   have:frD ops tm0 val D' t=frD ops tm0 val D t:=by
    unfold frD
    cases hw:writer ops t with
    | none=>rfl
    | some j=>
      have hji:j≠i:=by
       intro e;subst e
       obtain ⟨o',ho',h'⟩:=writer_some hw
       rw [ho] at ho';simp at ho';subst ho'
       rw [hdst] at h';simp at h'
      simp only [hD',if_neg hji]
   rw [this] at hv1
   exact (hf t v hv1).mono hle
 | some d=>
   by_cases e:t=d
   · subst e
     have:frD ops tm0 val D' t=some (val i):=by
      unfold frD
      rw [writer_of hd ho hdst]
      simp [hD']
     rw [this] at hv1
     simp at hv1;subst hv1
     have hlt:=hput t hdst
     simpa [Act.put,Array.getElem?_setIfInBounds,hlt] using hv
   · have:frD ops tm0 val D' t=frD ops tm0 val D t:=by
      unfold frD
      cases hw:writer ops t with
      | none=>rfl
      | some j=>
        have hji:j≠i:=by
         intro e';subst e'
         obtain ⟨o',ho',h'⟩:=writer_some hw
         rw [ho] at ho';simp at ho';subst ho'
         rw [hdst] at h';simp at h';exact e h'.symm
        simp only [hD',if_neg hji]
     rw [this] at hv1
     have:=(hf t v hv1).mono hle
     simpa [Act.put,Array.getElem?_setIfInBounds,e,Ne.symm e] using this
noncomputable def keepF (n:Nat) (ts:Array Value) (keep:Nat->Bool):Array Value:=Array.ofFn fun t:Fin n=>if keep t then ts.getD t undef else undef
theorem keepF_getD {n:Nat} {ts:Array Value} {keep:Nat->Bool} (hs:ts.size=n) (t:Nat):(keepF n ts keep).getD t undef=if keep t then ts.getD t undef else undef:=by
 unfold keepF
 by_cases h:t<n
 · simp [h]
 · have h2:ts.getD t undef=undef:=by simp [Nat.not_lt.1 (by omega:¬t<ts.size)]
   rw [h2]
   simp [h]
theorem TR_keep {ρ:Rho} {tm tm':T AV} {n:Nat} {a:Act} {keep:Nat->Bool} (hs:a.tmps.size=n) (hk:∀t,tm'.get t=if keep t then tm.get t else none)
 (hv:∀t,keep t=true->∀v,tm.get t=some v->VR ρ v (a.tmps.getD t undef)):TR ρ tm' n (keepF n a.tmps keep):=by
 refine ⟨by simp [keepF],?_⟩
 intro t v hv1
 rw [hk] at hv1
 rw [keepF_getD hs]
 cases hkt:keep t with
 | true=>rw [hkt] at hv1;simpa using hv t hkt v (by simpa using hv1)
 | false=>rw [hkt] at hv1;simp at hv1
theorem draw_step (hreg:regOk P ops=true) (hn:∀i o,ops[i]? =some o->Node P ops n H0 tmf nxf recf val i o) (h0:recf 0=[]) (hnx:nxf 0=H0.next)
 {ρ0:Rho} {w0:World} {ds:List Deferred} (hfresh:Fresh ρ0 H0 (nxf ops.size)) {D D':Nat->Bool} {i:Nat} {o:Oper} (ho:ops[i]? =some o) (hDi:D i=false) (hD':∀j,D' j=if j=i then true else D j)
 (hDlt:∀j,D j=true->j<ops.size) (hclosed:∀j,D j=true->∀k,(mk ops j).testBit k=true->D k=true) (hready:∀k,(mk ops i).testBit k=true->D k=true)
 {a:Act} {w:World} {ρ:Rho} (inv:Inv ops n H0 (tmf 0) nxf recf val ρ0 w0 ds D a w ρ) {K:Act->World->Prop} {Q:Exit->Act->World->Prop} {r0:Option Nat}
 (hK:∀a' w' ρ',Inv ops n H0 (tmf 0) nxf recf val ρ0 w0 ds D' a' w' ρ'->K a' w') :
 if Region.wanted o (yielded ops a.tmps) then o.wpIn (FR r0) 0 P a w K Q else (∀f,o.about P w a.eval=some f->(FR r0).fn f)/\K (a.put o.dst undef) w:=by
 have hlt:i<ops.size:=(Array.getElem?_eq_some_iff.1 ho).1
 simp only [regOk,Bool.and_eq_true] at hreg
 obtain ⟨_,hedge,hreads,hd,hsel⟩:=hreg
 have node:=hn i o ho
 have hbit:∀k,(mk ops i).testBit k=true->k<i:=fun k hk=>mk_back hedge i k o ho hk
 -- what the operation looks at was written by places that are done
 have hlook:∀t,t∈o.looksAt ops->∀v,(tmf i).get t=some v->VR ρ v (a.tmps.getD t undef):=by
  intro t ht v hv1
  have hr:=readsOk_at ops.toList 0 i o hreads (by simpa using ho)
  simp only [Nat.zero_add] at hr
  have hr2:=tmpsRead_at _ t hr ht
  rw [tmf_eq hd hn i (by omega) t] at hv1
  have e:frD ops (tmf 0) val (fun j=>decide (j<i)) t=frD ops (tmf 0) val D t:=by
   unfold frD
   cases hw:writer ops t with
   | none=>rfl
   | some j=>
     obtain ⟨o',ho',h'⟩:=writer_some hw
     have q:=tmpRead_at ops.toList 0 j o' hr2 (by simpa using ho') h'
     simp only [Nat.zero_add] at q
     rcases q with q | q
     · simp only [decide_eq_true_eq,if_pos q.1,if_pos (hready j q.2)]
     · have hDj:D j=false:=by
        rcases q with rfl | q
        · exact hDi
        · cases hj:D j with
          | false=>rfl
          | true=>have:=hclosed j hj i q.2;rw [hDi] at this;simp at this
       have hji:¬j<i:=by rcases q with rfl | q<;>omega
       simp only [decide_eq_true_eq,if_neg hji,hDj,Bool.false_eq_true,if_false]
  rw [e] at hv1;exact inv.frame t v hv1
 have hputlt:∀d,o.dst=some d->d<a.tmps.size:=by
  intro d hdst
  have:=node.put
  unfold putD at this
  rw [hdst] at this
  simp only at this
  split at this
  · rename_i q;rw [Nat.blt_eq] at q;rw [inv.size];exact q
  · simp at this
 -- whether it is wanted
 have hwant:∀b,wantedA ops (tmf i) o.guard=some b->Region.wanted o (yielded ops a.tmps)=b:=by
  intro b hb
  cases hg:o.guard with
  | none=>simp [wantedA,hg] at hb;simp [Region.wanted,hg,hb]
  | some p=>
    obtain ⟨j,want⟩:=p
    cases hdj:(ops[j]?).bind (·.dst) with
    | none=>simp [wantedA,hg,hdj] at hb;simp [Region.wanted,hg,yielded,hdj,hb]
    | some d=>
      have hdl:d∈o.looksAt ops:=by simp [Oper.looksAt,hg,hdj]
      let keep:Nat->Bool:=fun t=>t == d
      have ht:TR ρ (T.set .e d ((tmf i).get d)) n (keepF n a.tmps keep):=TR_keep (tm:=tmf i) inv.size (fun t=>by rw [T.get_set];by_cases e:t=d<;>simp [keep,e,T.get_e]) (fun t hk=>by
       simp only [keep,beq_iff_eq] at hk;subst hk;exact hlook _ hdl)
      have e1:wantedA ops (T.set .e d ((tmf i).get d)) o.guard=wantedA ops (tmf i) o.guard:=by
       simp only [wantedA,hg,hdj,T.get_set,if_true]
      have hw:=wantedA_eq (a:={ tmps:=keepF n a.tmps keep,defers:=[]}) (ops:=ops) (o:=o) ht (b:=b) (by rw [e1];exact hb)
      have e2:yielded ops (keepF n a.tmps keep) j=yielded ops a.tmps j:=by
       unfold yielded
       rw [hdj]
       simp only [Option.bind_some]
       have hgd:=keepF_getD (keep:=keep) inv.size d
       simp only [keep,beq_self_eq_true,if_true] at hgd
       rcases Nat.lt_or_ge d n with hl | hl
       · have s1:d<(keepF n a.tmps keep).size:=by simp [keepF];exact hl
         have s2:d<a.tmps.size:=by rw [inv.size];exact hl
         rw [Array.getElem?_eq_getElem s1,Array.getElem?_eq_getElem s2]
         have:(keepF n a.tmps keep)[d]=a.tmps[d]:=by simpa [s1,s2,keep] using hgd
         rw [this]
       · rw [Array.getElem?_eq_none (by simp [keepF];omega),Array.getElem?_eq_none (by rw [inv.size];exact hl)]
      have e3:Region.wanted o (yielded ops a.tmps)=Region.wanted o (yielded ops (keepF n a.tmps keep)):=by
       simp only [Region.wanted,hg,e2]
      rw [e3];exact hw
 rcases node.step with ⟨hw,Hi,H',hnode,hnx',hrec⟩ | ⟨hw,hval,hnx',hrec⟩
 · -- it is wanted
   rw [if_pos (hwant _ hw)]
   have hop:=hnode.does
   have hHinext:Hi.next=nxf i:=hnode.next
   have hHilog:Hi.log=[]:=hnode.log
   obtain ⟨hlgn,l,hlgl,hlgg,hlgm⟩:=hop.lg
   have hlog:l=H'.log:=by rw [hlgl,hHilog,List.append_nil]
   subst hlog
   -- the records, parted at this place
   obtain ⟨pre,hsplit,hpre⟩:=recf_split hn (ops.size-(i+1)) (i+1) (by omega)
   rw [show i+1+(ops.size-(i+1))=ops.size by omega] at hsplit hpre
   rw [hrec] at hsplit
   have hrecmem:∀r∈recf ops.size,r.i≠i->r∈pre\/r∈recf i:=by
    intro r hr hne
    rw [hsplit] at hr
    rcases List.mem_append.1 hr with h | h
    · exact .inl h
    · cases h with
      | head=>exact absurd rfl hne
      | tail _ h=>exact .inr h
   -- a later place that is done does not lay over what this one sees or makes
   have hlater:∀r∈pre,D r.i=true->(∀A∈H'.log,A∉r.ids)/\(∀A∈r.ids,Hi.tree.get A=none):=by
    intro r hr hDr
    have hrm:r∈recf ops.size:=by rw [hsplit];exact List.mem_append.2 (.inl hr)
    obtain ⟨o2,Hi2,H2,k1,k3,k4,k6,k7⟩:=rec_node hn h0 ops.size (Nat.le_refl _) r hrm
    have hri:=hpre r hr
    have hnb:(mk ops r.i).testBit i=false:=by
     cases hb:(mk ops r.i).testBit i with
     | false=>rfl
     | true=>rw [hclosed _ hDr i hb] at hDi;simp at hDi
    obtain ⟨pre2,hs2,_⟩:=recf_split hn (r.i-(i+1)) (i+1) (by omega)
    rw [show i+1+(r.i-(i+1))=r.i by omega,hrec] at hs2
    have hmem:({ i:=i,H:=Hi,ids:=H'.log,H':=H',v:=val i}:DRec)∈recf r.i:=by rw [hs2];exact List.mem_append.2 (.inr (List.mem_cons_self ..))
    obtain ⟨c1,c2,c3⟩:=k4.chk _ hmem hnb
    have hids:r.ids=H2.log:=by rw [k6]
    exact ⟨fun A hA=>by rw [hids];exact c1 A hA,fun A hA=>by rw [hids] at hA;exact c3 A hA⟩
   have hearlier:∀r∈recf i,D r.i=true->(mk ops i).testBit r.i=false->(∀A∈r.ids,A∉H'.log)/\(∀A∈r.ids,Hi.tree.get A=none):=by
    intro r hr _ hb
    obtain ⟨c1,c2,c3⟩:=hnode.chk r hr hb
    exact ⟨c1,c2⟩
   -- what this place sees is there
   have hsub:∀A obj,Hi.get A=some obj->(KD ops H0 nxf recf D).get A=some obj:=by
    intro A obj hA
    have hAt:Hi.tree.get A=some obj:=hA
    have hsel2:=hnode.sub A obj hA
    have e1:(appSel (Nat.testBit (mk ops i)) (recf i) H0.tree).get A=(appSel (Nat.testBit (mk ops i)) (recf ops.size) H0.tree).get A:=by
     rw [hsplit,appSel_append]
     simp only [appSel]
     have hself:(mk ops i).testBit i=false:=by
      cases hb:(mk ops i).testBit i with
      | false=>rfl
      | true=>exact absurd (hbit i hb) (by omega)
     rw [hself]
     simp only
     have:∀(l:List DRec) (t:T AObj),(∀r∈l,i<r.i)->appSel (Nat.testBit (mk ops i)) l t=t:=by
      intro l
      induction l with
      | nil=>intro t _;rfl
      | cons r l ih=>
        intro t hl
        simp only [appSel]
        have:(mk ops i).testBit r.i=false:=by
         cases hb:(mk ops i).testBit r.i with
         | false=>rfl
         | true=>have:=hbit _ hb;have:=hl r (by simp);omega
        rw [this]
        exact ih t fun r hr=>hl r (by simp [hr])
     rw [this pre _ fun r hr=>by have:=hpre r hr;omega]
    show (appSel D (recf ops.size) H0.tree).get A=some obj
    rw [<-hsel2,e1]
    symm
    refine appSel_get_agree _ ?_
    intro r hr hAr
    cases hb:(mk ops i).testBit r.i with
    | true=>rw [hready _ hb]
    | false=>
      cases hDr:D r.i with
      | false=>rfl
      | true=>
        have hne:r.i≠i:=fun e=>by rw [e,hDi] at hDr;simp at hDr
        rcases hrecmem r hr hne with h | h
        · have:=(hlater r h hDr).2 A hAr;rw [this] at hAt;simp at hAt
        · have:=(hearlier r h hDr hb).2 A hAr;rw [this] at hAt;simp at hAt
   have hHi':HR ρ Hi w:=inv.heap.sub hsub
   have hfr:Fresh ρ Hi H'.next:=by
    intro A q1 q2
    rw [hHinext] at q1
    cases hr:ρ A with
    | none=>rfl
    | some x=>
      rcases inv.dom A x hr with h | ⟨j,hj,hDj,h1,h2⟩
      · have m1:=nxf_mono hn i 0 (by omega)
        have m2:=nxf_mono hn (ops.size-(i+1)) (i+1) (by omega)
        rw [show i+1+(ops.size-(i+1))=ops.size by omega] at m2
        simp only [Nat.zero_add] at m1
        rw [hfresh A (by omega) (by omega)] at h;simp at h
      · have hne:j≠i:=fun e=>by rw [e,hDi] at hDj;simp at hDj
        rcases Nat.lt_or_ge j i with hl | hl
        · have m:=nxf_mono hn (i-(j+1)) (j+1) (by omega)
          rw [show j+1+(i-(j+1))=i by omega] at m
          omega
        · have m:=nxf_mono hn (j-(i+1)) (i+1) (by omega)
          rw [show i+1+(j-(i+1))=j by omega] at m
          omega
   -- the restricted frame
   have htr:TR ρ (restrT (tmf i) .e o.op.operands.toList) n (keepF n a.tmps fun t=>hasT t o.op.operands.toList):=TR_keep (tm:=tmf i) inv.size (fun t=>by rw [restrT_get,T.get_e]) (fun t hk=>by
    refine hlook t ?_
    rw [hasT_iff] at hk
    simp only [Oper.looksAt,List.mem_append,List.mem_filterMap]
    exact .inl ⟨_,hk,rfl⟩)
   have hexec:execOp a.eval o=execOp (Act.eval { tmps:=keepF n a.tmps fun t=>hasT t o.op.operands.toList,defers:=[]}) o:=by
    refine execOp_congr o (fun cs b=>Region.noSelect_spec hsel i o cs b ho) ?_
    intro x hx
    cases x with
    | tmp t=>
      have:hasT t o.op.operands.toList=true:=(hasT_iff _ _).2 (by simpa using hx)
      simp only [Act.eval]
      rw [keepF_getD inv.size,if_pos this]
    | _=>rfl
   refine hop.sound (r0:=r0) (hdf:=hop.nodefer) (a':={ tmps:=keepF n a.tmps fun t=>hasT t o.op.operands.toList,defers:=[]}) htr hexec hHi' hfr ?_
   intro v' ρ' w' hv' hH' hext
   refine hK _ _ ρ' ?_
   -- the heap behind
   have hgetin:∀A∈H'.log,(KD ops H0 nxf recf D').get A=H'.get A:=by
    intro A hA
    show (appSel D' (recf ops.size) H0.tree).get A=H'.tree.get A
    rw [hsplit,appSel_append]
    rw [appSel_none pre fun r hr hDr=>by
     have hri:=hpre r hr
     rw [hD',if_neg (by omega)] at hDr
     exact (hlater r hr hDr).1 A hA]
    simp only [appSel,hD',if_true]
    rw [putIds_get,if_pos hA]
   have hgetout:∀A,A∉H'.log->(KD ops H0 nxf recf D').get A=(KD ops H0 nxf recf D).get A:=by
    intro A hA
    refine appSel_get_agree _ ?_
    intro r hr hAr
    rw [hD']
    by_cases e:r.i=i
    · exfalso
      rw [hsplit] at hr
      rcases List.mem_append.1 hr with h | h
      · have:=hpre r h;omega
      · cases h with
        | head=>exact hA hAr
        | tail _ h=>have:=recf_low hn h0 i (by omega) r h;omega
    · rw [if_neg e]
   -- a block that is none of this place's own
   have halive:∀A obj x,(KD ops H0 nxf recf D).get A=some obj->ρ A=some x->(A∉H'.log)->Hi.get A=none->(∀A0 o0 x0,Hi.get A0=some o0->ρ A0=some x0->x0.1≠x.1):=by
    intro A obj x hA hx _ hnone A0 o0 x0 hA0 hx0 he
    have:=inv.heap.inj A0 A o0 obj x0 x (hsub _ _ hA0) hA hx0 hx he
    subst this
    rw [hnone] at hA0;simp at hA0
   have hstill:∀A,A∉H'.log->ρ A=none->ρ' A=none:=by
    intro A hin hn
    cases hr:ρ' A with
    | none=>rfl
    | some x=>
      rcases hext.dom A x hr with h | ⟨q1,q2⟩
      · rw [hn] at h;simp at h
      · exact absurd (hlgm A q1 q2) hin
   have cls:∀A obj x,(KD ops H0 nxf recf D').get A=some obj->ρ' A=some x->(H'.get A=some obj)\/(A∉H'.log/\Hi.get A=none/\(KD ops H0 nxf recf D).get A=some obj/\ρ A=some x):=by
    intro A obj x hA hx
    by_cases hin:A∈H'.log
    · rw [hgetin A hin] at hA;exact .inl hA
    · rw [hgetout A hin] at hA
      cases hHiA:Hi.get A with
      | some obj2=>
        have e:=hsub A obj2 hHiA
        rw [hA] at e;simp at e;subst e
        exact .inl (by rw [hlgg A hin];exact hHiA)
      | none=>
        cases hy:ρ A with
        | none=>rw [hstill A hin hy] at hx;simp at hx
        | some y=>
          have:=hext.ext.nm _ _ hy
          rw [hx] at this;simp at this;subst this
          exact .inr ⟨hin,rfl,hA,rfl⟩
   refine ⟨?_,?_,?_,⟨?_,?_,?_,?_,?_⟩,⟨?_,?_,?_,?_,?_,?_,?_,?_,?_,?_⟩,?_⟩
   · cases o.dst<;>simp [Act.put,inv.size]
   · rw [<-inv.defers];cases o.dst<;>rfl
   · exact frD_put hd ho hD' hputlt inv.frame hext.ext hv'
   · -- live
     intro A obj hA
     by_cases hin:A∈H'.log
     · rw [hgetin A hin] at hA;exact hH'.live A obj hA
     · rw [hgetout A hin] at hA
       cases hHiA:Hi.get A with
       | some obj2=>
         have e:=hsub A obj2 hHiA
         rw [hA] at e;simp at e;subst e
         exact hH'.live A obj (by rw [hlgg A hin];exact hHiA)
       | none=>
         rcases inv.heap.live A obj hA with ⟨x,hx,hb⟩ | ⟨hv,hn⟩
         · refine .inl ⟨x,hext.ext.nm _ _ hx,(hb.congr (hext.frame x.1 (inv.heap.range _ _ hx) ?_)).mono hext.ext⟩
           exact halive A obj x hA hx hin hHiA
         · exact .inr ⟨hv,hstill A hin hn⟩
   · -- inj
     intro A1 A2 o1 o2 x1 x2 hA1 hA2 hx1 hx2 he
     have clash:∀A A' obj obj' x x',H'.get A=some obj->ρ' A=some x->A'∉H'.log->Hi.get A'=none->(KD ops H0 nxf recf D).get A'=some obj'->ρ A'=some x'->x.1≠x'.1:=by
      intro A A' obj obj' x x' hA hx hin hnone hA' hx' he
      rcases hext.img A obj x hA hx with hge | ⟨A0,o0,x0,g0,r0,e0⟩
      · have:=inv.heap.range _ _ hx';omega
      · exact halive A' obj' x' hA' hx' hin hnone A0 o0 x0 g0 r0 (e0.trans he)
     rcases cls A1 o1 x1 hA1 hx1 with h1 | ⟨n1,m1,k1,r1⟩
     · rcases cls A2 o2 x2 hA2 hx2 with h2 | ⟨n2,m2,k2,r2⟩
       · exact hH'.inj _ _ _ _ _ _ h1 h2 hx1 hx2 he
       · exact absurd he (clash _ _ _ _ _ _ h1 hx1 n2 m2 k2 r2)
     · rcases cls A2 o2 x2 hA2 hx2 with h2 | ⟨n2,m2,k2,r2⟩
       · exact absurd he.symm (clash _ _ _ _ _ _ h2 hx2 n1 m1 k1 r1)
       · exact inv.heap.inj _ _ _ _ _ _ k1 k2 r1 r2 he
   · exact hH'.range
   · exact hH'.ro
   · -- rox
     intro B j v hv A obj x hA hx
     rcases cls A obj x hA hx with h1 | ⟨n1,m1,k1,r1⟩
     · exact hH'.rox B j v hv A obj x h1 hx
     · rcases hext.roimg B j v hv with h | h | ⟨A0,o0,x0,g0,r0,e0⟩
       · exact inv.heap.rox B j v h A obj x k1 r1
       · have:=inv.heap.range _ _ r1;omega
       · rw [<-e0];exact fun e=>halive A obj x k1 r1 n1 m1 A0 o0 x0 g0 r0 e.symm
   · -- Ext
     have m:=nxf_mono hn ops.size 0 (by omega)
     simp only [Nat.zero_add] at m
     rw [<-hnx];exact m
   · exact inv.ext.ext.trans hext.ext
   · intro A x hA
     have m1:=nxf_mono hn i 0 (by omega)
     have m2:=nxf_mono hn (ops.size-(i+1)) (i+1) (by omega)
     rw [show i+1+(ops.size-(i+1))=ops.size by omega] at m2
     simp only [Nat.zero_add] at m1
     rcases hext.dom A x hA with h | ⟨h1,h2⟩
     · exact inv.ext.dom A x h
     · refine .inr ⟨by omega,?_⟩
       show A<nxf ops.size
       omega
   · exact Nat.le_trans inv.ext.size hext.size
   · intro B hB hnot
     rw [hext.frame B (Nat.lt_of_lt_of_le hB inv.ext.size) ?_,inv.ext.frame B hB hnot]
     intro A obj x hA hx he
     rcases inv.ext.img A obj x (hsub _ _ hA) hx with hge | ⟨A0,o0,x0,g0,r0,e0⟩
     · omega
     · exact hnot A0 o0 x0 g0 r0 (e0.trans he)
   · -- img
     intro A obj x hA hx
     rcases cls A obj x hA hx with h1 | ⟨n1,m1,k1,r1⟩
     · rcases hext.img A obj x h1 hx with hge | ⟨A0,o0,x0,g0,r0,e0⟩
       · exact .inl (Nat.le_trans inv.ext.size hge)
       · rcases inv.ext.img A0 o0 x0 (hsub _ _ g0) r0 with hge | ⟨A1,o1,x1,g1,r1,e1⟩
         · exact .inl (e0▸hge)
         · exact .inr ⟨A1,o1,x1,g1,r1,e1.trans e0⟩
     · exact inv.ext.img A obj _ k1 r1
   · -- roimg
     intro B j v hv
     rcases hext.roimg B j v hv with h | h | ⟨A0,o0,x0,g0,r0,e0⟩
     · exact inv.ext.roimg B j v h
     · exact .inr (.inl (Nat.le_trans inv.ext.size h))
     · rcases inv.ext.img A0 o0 x0 (hsub _ _ g0) r0 with hge | ⟨A1,o1,x1,g1,r1,e1⟩
       · exact .inr (.inl (e0▸hge))
       · exact .inr (.inr ⟨A1,o1,x1,g1,r1,e1.trans e0⟩)
   · exact hext.tape.trans inv.ext.tape
   · exact hext.os.trans inv.ext.os
   · exact hext.output.trans inv.ext.output
   · -- dom
     intro A x hA
     rcases hext.dom A x hA with h | ⟨h1,h2⟩
     · rcases inv.dom A x h with h | ⟨j,hj,hDj,k1,k2⟩
       · exact .inl h
       · exact .inr ⟨j,hj,by rw [hD'];split<;>simp [hDj],k1,k2⟩
     · exact .inr ⟨i,hlt,by rw [hD'];simp,by omega,by omega⟩
 · -- it is not wanted
   rw [if_neg (by rw [hwant _ hw];simp)]
   refine ⟨fun f _=>trivial,hK _ _ ρ ?_⟩
   have hnoi:∀r∈recf ops.size,r.i≠i:=by
    intro r hr e
    obtain ⟨o2,Hi2,H2,k1,k3,k4,k6,k7⟩:=rec_node hn h0 ops.size (Nat.le_refl _) r hr
    rw [e] at k1 k3
    rw [ho] at k1;simp at k1;subst k1
    rw [hw] at k3;simp at k3
   have hget:∀A,(KD ops H0 nxf recf D').get A=(KD ops H0 nxf recf D).get A:=by
    intro A
    refine appSel_get_agree _ ?_
    intro r hr _
    rw [hD',if_neg (hnoi r hr)]
   refine ⟨?_,?_,?_,⟨?_,?_,?_,inv.heap.ro,?_⟩,⟨?_,?_,?_,?_,?_,?_,inv.ext.roimg,?_,?_,?_⟩,?_⟩
   · cases o.dst<;>simp [Act.put,inv.size]
   · rw [<-inv.defers];cases o.dst<;>rfl
   · exact frD_put hd ho hD' hputlt inv.frame (.refl _) (by rw [hval];exact undef_VR _)
   · intro A obj hA;rw [hget] at hA;exact inv.heap.live A obj hA
   · intro A1 A2 o1 o2 x1 x2 hA1 hA2;rw [hget] at hA1 hA2;exact inv.heap.inj _ _ _ _ _ _ hA1 hA2
   · exact inv.heap.range
   · intro B j v hv A obj x hA hx;rw [hget] at hA;exact inv.heap.rox B j v hv A obj x hA hx
   · exact inv.ext.next
   · exact inv.ext.ext
   · exact inv.ext.dom
   · exact inv.ext.size
   · exact inv.ext.frame
   · intro A obj x hA hx;rw [hget] at hA;exact inv.ext.img A obj x hA hx
   · exact inv.ext.tape
   · exact inv.ext.os
   · exact inv.ext.output
   · intro A x hA
     rcases inv.dom A x hA with h | ⟨j,hj,hDj,k1,k2⟩
     · exact .inl h
     · exact .inr ⟨j,hj,by rw [hD'];split<;>simp [hDj],k1,k2⟩
end
end Go.Sim
