/- Runs over unknown values, told by the kernel: part SymI. -/
import Derived.Test.YtgoppmcfidmgfaaSymH
import Derived.ReadAgain
set_option linter.unusedSimpArgs false
set_option linter.unusedVariables false
/- Runs over values that are not known: what must hold, so that a run ends as told. -/
namespace Go.Sim
open Go
inductive Orc where
 | z
 | c (k:Orc)
 | s (t f:Orc)
 | t (k:Orc)
 | f (k:Orc)
 | m (k:Orc)
 | inl (k:Orc)
 | con (v:AV) (H:AH) (k:Orc)
 | cal (σ:List Nat) (v:AV) (us:List Upd) (k:Orc)
 | lp (x:XO) (tm:T AV) (H:AH) (k:Orc)
 | lop (σ ts:List Nat) (b:Nat) (x:XO) (l':List (Nat×AV)) (objs':List (Option AObj)) (k:Orc)
abbrev RecK:=TaskK->Orc->(Res->Orc->Prop)->Prop
noncomputable def callK (P:Program) (rec:RecK) (g:FuncId) (args:List AV) (H:AH) (o:Orc) (K:AV->AH->Orc->Prop):Prop:=
 match o with
 | .inl o'=>rec (.call g args H) o' fun r o2=>match r with
   | .rv v H'=>K v H' o2
   | .st _ _ _=>False
 | .con v H' o'=>CallDoes P g args H v H'/\K v H' o'
 | .cal σ v us o'=>match pull σ args us H with
   | some (pargs,objs)=>Con P g pargs objs v us/\K (embV σ H v) (embH σ H us) o'
   | none=>False
 | _=>False
noncomputable def orK (P:Program) (rec:RecK) (H:AH) (r:ORP) (o:Orc) (K:AV->AH->Orc->Prop):Prop:=
 match r with
 | none=>False
 | some (.val v H',p)=>match p with
   | none=>K v H' o
   | some q=>q/\K v H' o
 | some (.enter g args,p)=>match p with
   | none=>callK P rec g args H o K
   | some q=>q/\callK P rec g args H o K
noncomputable def brK (x:Bool) (o:Orc) (Y N:Orc->Prop):Prop:=
 match o with
 | .c o'=>match x with
   | true=>Y o'
   | false=>N o'
 | .s t f=>(x=true->Y t)/\(x=false->N f)
 | .t k=>x=true/\Y k
 | .f k=>x=false/\N k
 | _=>False
noncomputable def evK (tm:T AV) (x:Operand) (K:AV->Prop):Prop:=
 match evalO tm x with
 | some v=>K v
 | none=>False
noncomputable def pickK (tm:T AV) (H:AH) (c x y:Operand) (o:Orc) (K:AV->AH->Orc->Prop):Prop:=
 evK tm c fun cv=>match cv with
 | .b b=>match o with
   | .m o'=>evK tm x fun vx=>evK tm y fun vy=>match zipAV b vx vy with
     | some v=>K v H o'
     | none=>False
   | o=>brK b o (fun o'=>evK tm x fun v=>K v H o') (fun o'=>evK tm y fun v=>K v H o')
 | _=>False
noncomputable def op2K (P:Program) (rec:RecK) (tm:T AV) (H:AH) (op:Op) (o:Orc) (K:AV->AH->Orc->Prop):Prop:=
 match xop2 P tm H op with
 | .one r=>orK P rec H r o K
 | .two c s=>match o with
   | .c o'=>orK P rec H c o' K
   | .s o' _=>orK P rec H s o' K
   | .m o'=>orK P rec H (xopF P tm H op) o' K
   | _=>False
noncomputable def opK (P:Program) (rec:RecK) (tm:T AV) (H:AH) (op:Op) (o:Orc) (K:AV->AH->Orc->Prop):Prop:=
 match op with
 | .pick c x y=>pickK tm H c x y o K
 | op=>op2K P rec tm H op o K
noncomputable def yieldK (rec:RecK) (tm:T AV) (H:AH) (op:Op) (o:Orc) (K:AV->AH->Orc->Prop):Prop:=
 match op with
 | .call c=>match c.callee with
   | .value x=>match evalO tm x with
     | some (.yf A)=>match evalOs tm c.args.toList with
       | some args=>match H.get A with
         | some (.lp st n prm asg body tl)=>match Nat.beq st 0 with
           | true=>match Nat.beq args.length prm.size with
             | true=>match rfC asg with
               | false=>match rfC body with
                 | false=>match putAll n (prm.toList.zip args) tl with
                   | some tl0=>rec (.code asg n tl0 (H.upd A none)) o fun r o=>match r with
                     | .st .nrm tl1 H1=>rec (.code body n tl1 H1) o fun r o=>match r with
                       | .st x _ H2=>K (.b (XO.isNrm x)) (H2.upd A (some (.lp (XO.code x) n prm asg body tl))) o
                       | _=>False
                     | _=>False
                   | none=>False
                 | true=>False
               | true=>False
             | false=>False
           | false=>False
         | _=>False
       | none=>False
     | _=>False
   | _=>False
 | _=>False
noncomputable def isYield (tm:T AV) (op:Op):Bool:=
 match op with
 | .call c=>match c.callee with
   | .value x=>match evalO tm x with
     | some (.yf _)=>true
     | _=>false
   | _=>false
 | _=>false
noncomputable def opY (P:Program) (rec:RecK) (tm:T AV) (H:AH) (op:Op) (o:Orc) (K:AV->AH->Orc->Prop):Prop:=
 match isYield tm op with
 | true=>yieldK rec tm H op o K
 | false=>opK P rec tm H op o K
noncomputable def eqB (x w:Bool):Bool:=
 match w with
 | true=>x
 | false=>!x
theorem eqB_eq (x w:Bool):eqB x w=(x == w):=by cases x<;>cases w<;>rfl
noncomputable def guardK (ops:Array Oper) (tm:T AV) (g:Option (Nat×Bool)) (o:Orc) (Y N:Orc->Prop):Prop:=
 match g with
 | none=>Y o
 | some (j,want)=>match (ops[j]?).bind (·.dst) with
   | none=>N o
   | some d=>match tm.get d with
     | some (.b x)=>brK (eqB x want) o Y N
     | some _=>N o
     | none=>False
noncomputable def putK (tm:T AV) (n:Nat) (d:Option Tmp) (v:AV) (K:T AV->Prop):Prop:=
 match putD tm n d v with
 | some tm'=>K tm'
 | none=>False
noncomputable def opsK (P:Program) (rec:RecK) (all:Array Oper) (n:Nat) (K:T AV->AH->Orc->Prop) (l:List Oper):T AV->AH->Orc->Prop:=
 List.rec (motive:=fun _=>T AV->AH->Orc->Prop) (fun tm H o=>K tm H o)
  (fun op _ ih tm H o=>guardK all tm op.guard o (fun o=>opY P rec tm H op.op o fun v H' o=>putK tm n op.dst v fun tm'=>ih tm' H' o) (fun o=>putK tm n op.dst undefV fun tm'=>ih tm' H o)) l
theorem opsK_nil (P:Program) (rec:RecK) (all:Array Oper) (n:Nat) (K:T AV->AH->Orc->Prop) (tm:T AV) (H:AH) (o:Orc):opsK P rec all n K [] tm H o=K tm H o:=rfl
theorem opsK_cons (P:Program) (rec:RecK) (all:Array Oper) (n:Nat) (K:T AV->AH->Orc->Prop) (op:Oper) (l:List Oper) (tm:T AV) (H:AH) (o:Orc):opsK P rec all n K (op :: l) tm H o =
 guardK all tm op.guard o (fun o=>opY P rec tm H op.op o fun v H' o=>putK tm n op.dst v fun tm'=>opsK P rec all n K l tm' H' o) (fun o=>putK tm n op.dst undefV fun tm'=>opsK P rec all n K l tm' H o):=rfl
inductive Cls where
 | pure
 | fresh
 | heap
 | look (x:Operand)
 | near (xs:List Operand)
noncomputable def callCls (c:Call):Cls:=
 match c.callee with
 | .builtin .len=>.pure
 | .builtin .cap=>.pure
 | .builtin .min=>.pure
 | .builtin .max=>.pure
 | .builtin .append=>.near c.args.toList
 | _=>.heap
noncomputable def convCls (P:Program) (d:TypeId):Cls:=
 match P.underlying d with
 | some (.int _)=>.pure
 | _=>.heap
noncomputable def opCls (P:Program) (o:Op):Cls:=
 match o with
 | .move _=>.pure
 | .assign _=>.pure
 | .pick _ _ _=>.pure
 | .build _ _=>.pure
 | .nilCheck _=>.pure
 | .binOp _ _ _ _ _=>.pure
 | .unOp _ _ _=>.pure
 | .makeFunc _ _ _=>.pure
 | .fieldAddr _ _ _=>.pure
 | .field _ _ _=>.pure
 | .indexAddr _ _ _=>.pure
 | .index _ _ _=>.pure
 | .extract _ _=>.pure
 | .load _ x=>.look x
 | .store _ _ _=>.heap
 | .insert _ _ _ _=>.heap
 | .mapUpdate _ _ _ _=>.heap
 | .lookup _ _ _ _=>.heap
 | .slice _ _ _ _ _=>.heap
 | .convert _ d _=>convCls P d
 | .call c=>callCls c
 | _=>.fresh
structure SRec where
 i:Nat
 tree:T AObj
 ids:List Nat
noncomputable def eraseIds (t:T AObj):List Nat->T AObj
 | []=>t
 | A :: r=>(eraseIds t r).set A none
noncomputable def allDep (deps:Nat):List SRec->Bool
 | []=>true
 | r :: rs=>match r.ids with
   | []=>allDep deps rs
   | _ :: _=>match Nat.testBit deps r.i with
     | true=>allDep deps rs
     | false=>false
noncomputable def erase (deps:Nat) (t:T AObj):List SRec->T AObj
 | []=>t
 | r :: rs=>match Nat.testBit deps r.i with
   | true=>erase deps t rs
   | false=>eraseIds (erase deps t rs) r.ids
noncomputable def chkS (deps:Nat) (ids:List Nat):List SRec->Bool
 | []=>true
 | r :: rs=>match Nat.testBit deps r.i with
   | true=>chkS deps ids rs
   | false=>match disj r.ids ids with
     | true=>match allNone r.tree ids with
       | true=>chkS deps ids rs
       | false=>false
     | false=>false
noncomputable def seeTree (b:Bool) (deps:Nat) (t:T AObj) (rs:List SRec):T AObj:=
 match b with
 | true=>t
 | false=>erase deps t rs
noncomputable def nameOf:AV->Option Nat
 | .p A _=>some A
 | .pr A _ _ _=>some A
 | .ps A _ _ _ _=>some A
 | _=>none
noncomputable def oneT (t:T AObj) (A:Option Nat):T AObj:=
 match A with
 | some A=>T.e.set A (t.get A)
 | none=>.e
noncomputable def seeAt (tm:T AV) (x:Operand) (t:T AObj):T AObj:=oneT t ((evalO tm x).bind nameOf)
noncomputable def nameOfS:AV->Option Nat
 | .p A _=>some A
 | .pr A _ _ _=>some A
 | .ps A _ _ _ _=>some A
 | .l A _ _ _ _ _=>some A
 | .lr A _ _ _ _=>some A
 | _=>none
noncomputable def nearT (t:T AObj) (l:List (Option Nat)):T AObj:=
 List.rec (motive:=fun _=>T AObj) .e (fun a _ ih=>match a with
  | some A=>ih.set A (t.get A)
  | none=>ih) l
noncomputable def seeNear (tm:T AV) (xs:List Operand) (t:T AObj):T AObj:=nearT t (xs.map fun x=>(evalO tm x).bind nameOfS)
noncomputable def overTree (b:Bool) (t t':T AObj) (ids:List Nat):T AObj:=
 match b with
 | true=>t'
 | false=>putIds t' ids t
noncomputable def seqK (P:Program) (rec:RecK) (all:Array Oper) (n:Nat) (K:T AV->AH->Orc->Prop) (l:List (Oper×Nat)):Nat->T AV->AH->List SRec->Orc->Prop:=
 List.rec (motive:=fun _=>Nat->T AV->AH->List SRec->Orc->Prop) (fun _ tm H _ o=>K tm H o)
  (fun od _ ih i tm H rs o=>guardK all tm od.1.guard o
    (fun o=>match opCls P od.1.op with
      | .pure=>opK P rec (restrT tm .e od.1.op.operands.toList) { tree:=.e,next:=H.next,log:=[]} od.1.op o fun v H' o=>match H'.log with
        | []=>putK tm n od.1.dst v fun tm'=>ih (i+1) tm' H rs o
        | _ :: _=>False
      | .fresh=>opK P rec (restrT tm .e od.1.op.operands.toList) { tree:=.e,next:=H.next,log:=[]} od.1.op o fun v H' o=>match chkS od.2 H'.log rs with
        | true=>putK tm n od.1.dst v fun tm'=>ih (i+1) tm' { tree:=putIds H'.tree H'.log H.tree,next:=H'.next,log:=H'.log ++ H.log} ({ i:=i,tree:=.e,ids:=H'.log} :: rs) o
        | false=>False
      | .heap=>opK P rec (restrT tm .e od.1.op.operands.toList) { tree:=seeTree (allDep od.2 rs) od.2 H.tree rs,next:=H.next,log:=[]} od.1.op o fun v H' o=>match chkS od.2 H'.log rs with
        | true=>putK tm n od.1.dst v fun tm'=>ih (i+1) tm' { tree:=overTree (allDep od.2 rs) H.tree H'.tree H'.log,next:=H'.next,log:=H'.log ++ H.log} ({ i:=i,tree:=seeTree (allDep od.2 rs) od.2 H.tree rs,ids:=H'.log} :: rs) o
        | false=>False
      | .look x=>opK P rec (restrT tm .e od.1.op.operands.toList) { tree:=seeAt (restrT tm .e od.1.op.operands.toList) x (seeTree (allDep od.2 rs) od.2 H.tree rs),next:=H.next,log:=[]} od.1.op o fun v H' o=>match H'.log with
        | []=>putK tm n od.1.dst v fun tm'=>ih (i+1) tm' H ({ i:=i,tree:=seeAt (restrT tm .e od.1.op.operands.toList) x (seeTree (allDep od.2 rs) od.2 H.tree rs),ids:=[]} :: rs) o
        | _ :: _=>False
      | .near xs=>opK P rec (restrT tm .e od.1.op.operands.toList) { tree:=seeNear (restrT tm .e od.1.op.operands.toList) xs (seeTree (allDep od.2 rs) od.2 H.tree rs),next:=H.next,log:=[]} od.1.op o fun v H' o=>match chkS od.2 H'.log rs with
        | true=>putK tm n od.1.dst v fun tm'=>ih (i+1) tm' { tree:=putIds H'.tree H'.log H.tree,next:=H'.next,log:=H'.log ++ H.log} ({ i:=i,tree:=seeNear (restrT tm .e od.1.op.operands.toList) xs (seeTree (allDep od.2 rs) od.2 H.tree rs),ids:=H'.log} :: rs) o
        | false=>False)
    (fun o=>putK tm n od.1.dst undefV fun tm'=>ih (i+1) tm' H rs o)) l
theorem seqK_nil (P:Program) (rec:RecK) (all:Array Oper) (n:Nat) (K:T AV->AH->Orc->Prop) (i:Nat) (tm:T AV) (H:AH) (rs:List SRec) (o:Orc):seqK P rec all n K [] i tm H rs o=K tm H o:=rfl
theorem seqK_cons (P:Program) (rec:RecK) (all:Array Oper) (n:Nat) (K:T AV->AH->Orc->Prop) (op:Oper) (deps:Nat) (l:List (Oper×Nat)) (i:Nat) (tm:T AV) (H:AH) (rs:List SRec) (o:Orc) :
 seqK P rec all n K ((op,deps) :: l) i tm H rs o=guardK all tm op.guard o
  (fun o=>match opCls P op.op with
    | .pure=>opK P rec (restrT tm .e op.op.operands.toList) { tree:=.e,next:=H.next,log:=[]} op.op o fun v H' o=>match H'.log with
      | []=>putK tm n op.dst v fun tm'=>seqK P rec all n K l (i+1) tm' H rs o
      | _ :: _=>False
    | .fresh=>opK P rec (restrT tm .e op.op.operands.toList) { tree:=.e,next:=H.next,log:=[]} op.op o fun v H' o=>match chkS deps H'.log rs with
      | true=>putK tm n op.dst v fun tm'=>seqK P rec all n K l (i+1) tm' { tree:=putIds H'.tree H'.log H.tree,next:=H'.next,log:=H'.log ++ H.log} ({ i:=i,tree:=.e,ids:=H'.log} :: rs) o
      | false=>False
    | .heap=>opK P rec (restrT tm .e op.op.operands.toList) { tree:=seeTree (allDep deps rs) deps H.tree rs,next:=H.next,log:=[]} op.op o fun v H' o=>match chkS deps H'.log rs with
      | true=>putK tm n op.dst v fun tm'=>seqK P rec all n K l (i+1) tm' { tree:=overTree (allDep deps rs) H.tree H'.tree H'.log,next:=H'.next,log:=H'.log ++ H.log} ({ i:=i,tree:=seeTree (allDep deps rs) deps H.tree rs,ids:=H'.log} :: rs) o
      | false=>False
    | .look x=>opK P rec (restrT tm .e op.op.operands.toList) { tree:=seeAt (restrT tm .e op.op.operands.toList) x (seeTree (allDep deps rs) deps H.tree rs),next:=H.next,log:=[]} op.op o fun v H' o=>match H'.log with
      | []=>putK tm n op.dst v fun tm'=>seqK P rec all n K l (i+1) tm' H ({ i:=i,tree:=seeAt (restrT tm .e op.op.operands.toList) x (seeTree (allDep deps rs) deps H.tree rs),ids:=[]} :: rs) o
      | _ :: _=>False
    | .near xs=>opK P rec (restrT tm .e op.op.operands.toList) { tree:=seeNear (restrT tm .e op.op.operands.toList) xs (seeTree (allDep deps rs) deps H.tree rs),next:=H.next,log:=[]} op.op o fun v H' o=>match chkS deps H'.log rs with
      | true=>putK tm n op.dst v fun tm'=>seqK P rec all n K l (i+1) tm' { tree:=putIds H'.tree H'.log H.tree,next:=H'.next,log:=H'.log ++ H.log} ({ i:=i,tree:=seeNear (restrT tm .e op.op.operands.toList) xs (seeTree (allDep deps rs) deps H.tree rs),ids:=H'.log} :: rs) o
      | false=>False)
  (fun o=>putK tm n op.dst undefV fun tm'=>seqK P rec all n K l (i+1) tm' H rs o):=rfl
noncomputable def codeK (P:Program) (rec:RecK) (n:Nat) (tm:T AV) (H:AH) (c:Code) (o:Orc) (K:Res->Orc->Prop):Prop:=
 match c with
 | .skip=>K (.st .nrm tm H) o
 | .label _=>K (.st .nrm tm H) o
 | .region _ ops false=>opsK P rec ops n (fun tm H o=>K (.st .nrm tm H) o) ops.toList tm H o
 | .region _ ops true=>match regOk P ops with
   | true=>seqK P rec ops n (fun tm H o=>K (.st .nrm tm H) o) (ops.toList.zip (masks ops.toList [])) 0 tm H [] o
   | false=>False
 | .seq a b=>rec (.code a n tm H) o fun r o=>match r with
   | .st .nrm tm' H'=>rec (.code b n tm' H') o K
   | r=>K r o
 | .cond x a b=>match evalO tm x with
   | some (.b v)=>brK v o (fun o=>rec (.code a n tm H) o K) (fun o=>rec (.code b n tm H) o K)
   | _=>False
 | .block id c=>rec (.code c n tm H) o fun r o=>match r with
   | .st (.exit k) tm' H'=>match Nat.beq k id with
     | true=>K (.st .nrm tm' H') o
     | false=>K (.st (.exit k) tm' H') o
   | r=>K r o
 | .loop c=>match o with
   | .inl o'=>rec (.loop c n tm H) o' K
   | .lp x tm' H' o'=>DoesT P (.loop c n tm H) (.st x tm' H')/\K (.st x tm' H') o'
   | .lop σ ts b x l' objs' o'=>match pullL σ ts b objs' tm H with
     | some (l,objs)=>LDoes P c n b (mkT l) objs x (mkT l') objs'/\K (.st x (mkT (outT b σ.length σ H.next l')) (embH σ H (loopU b σ.length objs'))) o'
     | none=>False
   | _=>False
 | .rangeFunc g ps asg body=>match evalO tm g with
   | some (.fn (.func gf) fs cs)=>match okFn P gf with
     | true=>callK P rec gf (fs ++ [.yf H.next] ++ cs) (H.new (.lp 0 n ps asg body tm)) o fun _ H2 o=>match H2.get H.next with
       | some (.lp st _ _ _ _ _)=>K (.st (XO.ofCode st) tm (H2.upd H.next none)) o
       | _=>False
     | false=>False
   | _=>False
 | .exit id=>K (.st (.exit id) tm H) o
 | .ret=>K (.st .ret tm H) o
 | _=>False
noncomputable def loopK (rec:RecK) (n:Nat) (tm:T AV) (H:AH) (c:Code) (o:Orc) (K:Res->Orc->Prop):Prop:=
 rec (.code c n tm H) o fun r o=>match r with
  | .st .nrm tm' H'=>match o with
    | .inl o'=>rec (.loop c n tm' H') o' K
    | _=>False
  | r=>K r o
noncomputable def finK (P:Program) (fn:Func) (r:Res) (K:Res->Prop):Prop:=
 match finish P fn (some r) with
 | some r'=>K r'
 | none=>False
noncomputable def enterK (P:Program) (rec:RecK) (g:FuncId) (args:List AV) (H:AH) (o:Orc) (K:Res->Orc->Prop):Prop:=
 match P.funcs[g]? with
 | some fn=>match fn.body with
   | some c=>rec (.code c (args.length+(fn.ntmps-args.length)) (initT .e 0 args) H) o fun r o=>finK P fn r fun r'=>K r' o
   | none=>False
 | none=>False
noncomputable def stepK (P:Program) (rec:RecK) (t:TaskK) (o:Orc) (K:Res->Orc->Prop):Prop:=
 match t with
 | .code c n tm H=>codeK P rec n tm H c o K
 | .loop c n tm H=>loopK rec n tm H c o K
 | .call g args H=>enterK P rec g args H o K
noncomputable def runK (P:Program) (f:Nat):RecK:=
 Nat.rec (motive:=fun _=>RecK) (fun _ _ _=>False) (fun _ ih=>stepK P ih) f
theorem runK_0 (P:Program) (t:TaskK) (o:Orc) (K:Res->Orc->Prop):runK P 0 t o K=False:=rfl
def RecOk (P:Program) (rec:RecK):Prop:=∀t o K,rec t o K->∃r o',K r o'/\DoesT P t r
theorem callK_does {P:Program} {rec:RecK} (hrec:RecOk P rec) {g:FuncId} {args:List AV} {H:AH} {o:Orc} {K:AV->AH->Orc->Prop} (h:callK P rec g args H o K):∃v H' o',K v H' o'/\CallDoes P g args H v H':=by
 unfold callK at h
 split at h
 · obtain ⟨r,o2,hk,hd⟩:=hrec _ _ _ h
   cases r with
   | rv v H'=>exact ⟨v,H',o2,hk,hd⟩
   | st x tm H'=>exact hk.elim
 · exact ⟨_,_,_,h.2,h.1⟩
 · split at h
   · rename_i pargs objs hp
     exact ⟨_,_,_,h.2,pull_call hp h.1⟩
   · exact h.elim
 · exact h.elim
theorem orK_doesG {P:Program} {rec:RecK} (hrec:RecOk P rec) {tm:T AV} {H:AH} {op:Op} {r0:ORP} (any:∀r p,r0=some (r,p)->Holds p->XopAny P tm H op r) {o:Orc} {K:AV->AH->Orc->Prop} (h:orK P rec H r0 o K):∃v H' o',K v H' o'/\OpDoes P tm H op v H':=by
 unfold orK at h
 split at h
 · exact h.elim
 · rename_i q v H' p
   split at h
   · exact ⟨v,H',_,h,_,any _ _ rfl trivial,.inl rfl⟩
   · exact ⟨v,H',_,h.2,_,any _ _ rfl h.1,.inl rfl⟩
 · rename_i q g args p
   split at h
   · obtain ⟨v,H',o',hk,hc⟩:=callK_does hrec h
     exact ⟨v,H',o',hk,_,any _ _ rfl trivial,.inr ⟨g,args,rfl,hc⟩⟩
   · obtain ⟨v,H',o',hk,hc⟩:=callK_does hrec h.2
     exact ⟨v,H',o',hk,_,any _ _ rfl h.1,.inr ⟨g,args,rfl,hc⟩⟩
theorem orK_does {P:Program} {rec:RecK} (hrec:RecOk P rec) {tm:T AV} {H:AH} {op:Op} {b:Bool} {o:Orc} {K:AV->AH->Orc->Prop} (h:orK P rec H ((xop2 P tm H op).pick b) o K):∃v H' o',K v H' o'/\OpDoes P tm H op v H':=
 orK_doesG hrec (fun r p e hp=>.inr (.inl ⟨b,p,e,hp⟩)) h
theorem brK_does {x:Bool} {o:Orc} {Y N:Orc->Prop} (h:brK x o Y N):(x=true/\∃o',Y o')\/(x=false/\∃o',N o'):=by
 unfold brK at h
 split at h
 · split at h
   · exact .inl ⟨rfl,_,h⟩
   · exact .inr ⟨rfl,_,h⟩
 · cases x with
   | true=>exact .inl ⟨rfl,_,h.1 rfl⟩
   | false=>exact .inr ⟨rfl,_,h.2 rfl⟩
 · exact .inl ⟨h.1,_,h.2⟩
 · exact .inr ⟨h.1,_,h.2⟩
 · exact h.elim
theorem evK_does {tm:T AV} {x:Operand} {K:AV->Prop} (h:evK tm x K):∃v,evalO tm x=some v/\K v:=by
 unfold evK at h
 split at h
 · rename_i v hv;exact ⟨v,hv,h⟩
 · exact h.elim
theorem opK_does {P:Program} {rec:RecK} (hrec:RecOk P rec) {tm:T AV} {H:AH} {op:Op} {o:Orc} {K:AV->AH->Orc->Prop} (h:opK P rec tm H op o K):∃v H' o',K v H' o'/\OpDoes P tm H op v H':=by
 unfold opK at h
 split at h
 · rename_i c x y
   unfold pickK at h
   obtain ⟨cv,hcv,h⟩:=evK_does h
   split at h
   · rename_i b
     split at h
     · obtain ⟨vx,hx,h⟩:=evK_does h
       obtain ⟨vy,hy,h⟩:=evK_does h
       split at h
       · rename_i v hz
         exact ⟨v,H,_,h,.val v H,.inr (.inl ⟨true,none,by simp [xop2,XO2.pick,hcv,hx,hy,hz,ob,lv],trivial⟩),.inl rfl⟩
       · exact h.elim
     · rcases brK_does h with ⟨e,o',h8⟩ | ⟨e,o',h8⟩
       · obtain ⟨v,hv,h9⟩:=evK_does h8
         subst e
         exact ⟨v,H,_,h9,.val v H,.inl (by simp [xop,oPick,hcv,ob,hv,toORv]),.inl rfl⟩
       · obtain ⟨v,hv,h9⟩:=evK_does h8
         subst e
         exact ⟨v,H,_,h9,.val v H,.inl (by simp [xop,oPick,hcv,ob,hv,toORv]),.inl rfl⟩
   · exact h.elim
 unfold op2K at h
 split at h
 · rename_i r hx
   exact orK_does (b:=false) hrec (by rw [hx];exact h)
 · rename_i c s hx
   split at h
   · exact orK_does (b:=false) hrec (by rw [hx];exact h)
   · exact orK_does (b:=true) hrec (by rw [hx];exact h)
   · exact orK_doesG hrec (fun r p e hp=>.inr (.inr ⟨p,e,hp⟩)) h
   · exact h.elim
theorem guardK_does {ops:Array Oper} {tm:T AV} {g:Option (Nat×Bool)} {o:Orc} {Y N:Orc->Prop} (h:guardK ops tm g o Y N):(wantedA ops tm g=some true/\∃o',Y o')\/(wantedA ops tm g=some false/\∃o',N o'):=by
 unfold guardK at h
 unfold wantedA
 split at h
 · exact .inl ⟨rfl,_,h⟩
 · split at h
   · rename_i hd;simp only [hd];exact .inr ⟨trivial,_,h⟩
   · rename_i d hd
     simp only [hd]
     split at h
     · rename_i x hx
       simp only [hx]
       rcases brK_does h with ⟨e,q⟩ | ⟨e,q⟩
       · exact .inl ⟨by rw [<-eqB_eq,e],q⟩
       · exact .inr ⟨by rw [<-eqB_eq,e],q⟩
     · rename_i u hu hx
       simp only [hx]
       refine .inr ⟨?_,_,h⟩
       cases u<;>first | exact absurd rfl (hu _) | trivial
     · exact h.elim
theorem putK_does {tm:T AV} {n:Nat} {d:Option Tmp} {v:AV} {K:T AV->Prop} (h:putK tm n d v K):∃tm',putD tm n d v=some tm'/\K tm':=by
 unfold putK at h
 split at h
 · rename_i tm' e;exact ⟨tm',e,h⟩
 · exact h.elim
theorem yieldK_does {P:Program} {rec:RecK} (hrec:RecOk P rec) {tm:T AV} {H:AH} {op:Op} {o:Orc} {K:AV->AH->Orc->Prop} (h:yieldK rec tm H op o K):∃v H' o',K v H' o'/\YDoes P tm H op v H':=by
 unfold yieldK at h
 split at h
 · rename_i c
   split at h
   · rename_i x hcal
     split at h
     · rename_i A hx
       split at h
       · rename_i args hargs
         split at h
         · rename_i st n prm asg body tl hA
           split at h
           · rename_i hst
             have hst':=Nat.eq_of_beq_eq_true hst
             subst hst'
             split at h
             · rename_i hlen
               split at h
               · rename_i hra
                 split at h
                 · rename_i hrb
                   split at h
                   · rename_i tl0 hp
                     obtain ⟨r,o1,h,hd1⟩:=hrec _ _ _ h
                     cases r with
                     | rv v H'=>exact h.elim
                     | st x1 tl1 H1=>
                       cases x1 with
                       | nrm=>
                         simp only at h
                         obtain ⟨r2,o2,h,hd2⟩:=hrec _ _ _ h
                         cases r2 with
                         | rv v H'=>exact h.elim
                         | st xo tl2 H2=>
                           exact ⟨_,_,o2,h,c,x,A,n,prm,asg,body,tl,args,tl0,tl1,H1,xo,tl2,H2,rfl,hcal,hx,hargs,hA,Nat.eq_of_beq_eq_true hlen,hra,hrb,hp,hd1,hd2,rfl,rfl⟩
                       | exit id=>exact h.elim
                       | ret=>exact h.elim
                   · exact h.elim
                 · exact h.elim
               · exact h.elim
             · exact h.elim
           · exact h.elim
         · exact h.elim
       · exact h.elim
     · exact h.elim
   · exact h.elim
 · exact h.elim
def OY (P:Program) (tm:T AV) (H:AH) (o:Op) (v:AV) (H':AH):Prop:=OpDoes P tm H o v H'\/YDoes P tm H o v H'
theorem OY.lg {P:Program} {tm:T AV} {H H':AH} {o:Op} {v:AV} (h:OY P tm H o v H'):Lg H H':=by
 rcases h with h | h
 · exact h.lg
 · exact h.lg
theorem opY_does {P:Program} {rec:RecK} (hrec:RecOk P rec) {tm:T AV} {H:AH} {op:Op} {o:Orc} {K:AV->AH->Orc->Prop} (h:opY P rec tm H op o K):∃v H' o',K v H' o'/\OY P tm H op v H':=by
 unfold opY at h
 split at h
 · obtain ⟨v,H',o',h1,h2⟩:=yieldK_does hrec h
   exact ⟨v,H',o',h1,.inr h2⟩
 · obtain ⟨v,H',o',h1,h2⟩:=opK_does hrec h
   exact ⟨v,H',o',h1,.inl h2⟩
theorem OY.sound {P:Program} {tm:T AV} {H H':AH} {n:Nat} {a:Act} {o:Oper} {v:AV} {ρ:Rho} {w:World} {K:Act->World->Prop} {Q:Exit->Act->World->Prop} {r0:Option Nat}
 (h:OY P tm H o.op v H') (ht:TR ρ tm n a.tmps) (hh:HR ρ H w) (hf:Fresh ρ H H'.next)
 (hk:∀v' ρ' w',VR ρ' v v'->HR ρ' H' w'->Ext ρ H w ρ' H' w'->K (a.put o.dst v') w'):o.wpIn (FR r0) 0 P a w K Q:=by
 rcases h with h | h
 · exact h.sound (hdf:=h.nodefer) ht rfl hh hf hk
 · exact h.sound ht hh hf hk
theorem opsK_does {P:Program} {rec:RecK} (hrec:RecOk P rec) {all:Array Oper} {n:Nat} {K:T AV->AH->Orc->Prop}:∀(l:List Oper) (tm:T AV) (H:AH) (o:Orc),opsK P rec all n K l tm H o->
 ∃tm' H' o',K tm' H' o'/\Lg H H'/\∀r0 ρ a w Q,TR ρ tm n a.tmps->HR ρ H w->Fresh ρ H H'.next->Then n ρ H w a .nrm tm' H' Q->wpListIn (FR r0) 0 P all Q l a w
 | [],tm,H,o,h=>by
   rw [opsK_nil] at h
   exact ⟨tm,H,o,h,.refl _,fun r0 ρ a w Q ht hh hf hQ=>hQ.skip ht hh⟩
 | op :: l,tm,H,o,h=>by
   rw [opsK_cons] at h
   rcases guardK_does h with ⟨hw,o1,h⟩ | ⟨hw,o1,h⟩
   · obtain ⟨v,H1,o2,h,hop⟩:=opY_does hrec h
     obtain ⟨tm1,hput,h⟩:=putK_does h
     obtain ⟨tm',H',o3,hk,hlg,hwp⟩:=opsK_does hrec l tm1 H1 o2 h
     refine ⟨tm',H',o3,hk,hop.lg.trans hlg,fun r0 ρ a w Q ht hh hf hQ=>?_⟩
     unfold wpListIn
     rw [if_pos (wantedA_eq ht hw)]
     refine (hop.sound ht hh (hf.left hlg.next) ?_)
     intro v' ρ1 w1 hv1 hh1 he1
     have ht1:=(ht.mono he1.ext).put hput hv1
     refine hwp r0 ρ1 _ w1 Q ht1 hh1 (hf.right he1) (hQ.after (.of_eq ?_) hh1 he1)
     cases op.dst<;>rfl
   · obtain ⟨tm1,hput,h⟩:=putK_does h
     obtain ⟨tm',H',o3,hk,hlg,hwp⟩:=opsK_does hrec l tm1 H o1 h
     refine ⟨tm',H',o3,hk,hlg,fun r0 ρ a w Q ht hh hf hQ=>?_⟩
     unfold wpListIn
     rw [if_neg (by rw [wantedA_eq ht hw];simp)]
     have ht1:=ht.put hput (undef_VR ρ)
     refine ⟨fun f _=>trivial,hwp r0 ρ _ w Q ht1 hh hf (hQ.after (.of_eq ?_) hh (Ext.refl _ _ _))⟩
     cases op.dst<;>rfl
theorem eraseIds_get (t:T AObj):∀(l:List Nat) (A:Nat),(eraseIds t l).get A=if A∈l then none else t.get A
 | [],A=>by simp [eraseIds]
 | B :: r,A=>by
   simp only [eraseIds,T.get_set,eraseIds_get t r,List.mem_cons]
   by_cases h:A=B
   · simp [h]
   · simp [h]
theorem erase_get {deps:Nat} {t:T AObj}:∀(rs:List SRec) (A:Nat),((erase deps t rs).get A=t.get A/\∀r∈rs,deps.testBit r.i=false->A∉r.ids)\/(erase deps t rs).get A=none
 | [],A=>.inl ⟨rfl,by simp⟩
 | r :: rs,A=>by
   have ih:=erase_get (deps:=deps) (t:=t) rs A
   simp only [erase]
   cases hb:deps.testBit r.i with
   | true=>
     simp only
     rcases ih with ⟨h1,h2⟩ | h
     · refine .inl ⟨h1,?_⟩
       intro q hq hqb
       cases hq with
       | head=>rw [hb] at hqb;simp at hqb
       | tail _ hq=>exact h2 q hq hqb
     · exact .inr h
   | false=>
     simp only [eraseIds_get]
     by_cases hA:A∈r.ids
     · exact .inr (if_pos hA)
     · rw [if_neg hA]
       rcases ih with ⟨h1,h2⟩ | h
       · refine .inl ⟨h1,?_⟩
         intro q hq hqb
         cases hq with
         | head=>exact hA
         | tail _ hq=>exact h2 q hq hqb
       · exact .inr h
theorem allDep_spec {deps:Nat}:∀(rs:List SRec),allDep deps rs=true->∀r∈rs,deps.testBit r.i=false->r.ids=[]
 | [],_,r,hr,_=>by simp at hr
 | x :: rs,h,r,hr,hb=>by
   simp only [allDep] at h
   split at h
   · rename_i he
     cases hr with
     | head=>exact he
     | tail _ hr=>exact allDep_spec rs h r hr hb
   · split at h
     · rename_i hx
       cases hr with
       | head=>rw [hx] at hb;simp at hb
       | tail _ hr=>exact allDep_spec rs h r hr hb
     · simp at h
theorem see_get {deps:Nat} {t:T AObj} {rs:List SRec} (A:Nat):((seeTree (allDep deps rs) deps t rs).get A=t.get A/\∀r∈rs,deps.testBit r.i=false->A∉r.ids)\/(seeTree (allDep deps rs) deps t rs).get A=none:=by
 cases h:allDep deps rs with
 | true=>
   refine .inl ⟨rfl,?_⟩
   intro r hr hb
   rw [allDep_spec rs h r hr hb];simp
 | false=>exact erase_get rs A
theorem oneT_get (t:T AObj) (N:Option Nat) (A:Nat):(oneT t N).get A=t.get A\/(oneT t N).get A=none:=by
 unfold oneT
 cases N with
 | none=>exact .inr (T.get_e _)
 | some B=>
   simp only [T.get_set]
   by_cases e:A=B
   · subst e;exact .inl (if_pos rfl)
   · rw [if_neg e];exact .inr (T.get_e _)
theorem nearT_get (t:T AObj) (A:Nat):∀l:List (Option Nat),(nearT t l).get A=t.get A\/(nearT t l).get A=none
 | []=>.inr (T.get_e _)
 | none :: l=>nearT_get t A l
 | some B :: l=>by
   show ((nearT t l).set B (t.get B)).get A= _\/((nearT t l).set B (t.get B)).get A=none
   rw [T.get_set]
   by_cases e:A=B
   · subst e;exact .inl (if_pos rfl)
   · rw [if_neg e];exact nearT_get t A l
theorem chkS_spec {deps:Nat} {ids:List Nat}:∀(rs:List SRec),chkS deps ids rs=true->∀r∈rs,deps.testBit r.i=false->(∀A∈r.ids,A∉ids)/\(∀A∈ids,r.tree.get A=none)
 | [],_,r,hr,_=>by simp at hr
 | x :: rs,h,r,hr,hb=>by
   simp only [chkS] at h
   cases hr with
   | head=>
     rw [hb] at h
     simp only at h
     split at h
     · rename_i h1
       split at h
       · rename_i h2;exact ⟨disj_spec _ _ h1,allNone_spec _ h2⟩
       · simp at h
     · simp at h
   | tail _ hr=>
     split at h
     · exact chkS_spec rs h r hr hb
     · split at h
       · split at h
         · exact chkS_spec rs h r hr hb
         · simp at h
       · simp at h
structure As (H0:AH) (recs:List DRec) (nx:Nat) (H:AH):Prop where
 get:∀A,H.tree.get A=(appSel (fun _=>true) recs H0.tree).get A
 next:H.next=nx
 log:H.log=allIds recs H0.log
def KeptR (recs:List DRec) (rs:List SRec):Prop:=
 ∀r∈recs,(r.ids=[]/\∀A,r.H.tree.get A=none)\/∃q∈rs,q.i=r.i/\q.ids=r.ids/\q.tree=r.H.tree
theorem lg_none {H H':AH} (h:Lg H H') (h0:H.log=[]) (hl:H'.log=[]):H'.next=H.next:=by
 obtain ⟨q1,l2,q2,_,q3⟩:=h
 rw [hl,h0,List.append_nil] at q2
 subst q2
 rcases Nat.lt_or_ge H.next H'.next with q | q
 · have:=q3 H.next (Nat.le_refl _) q;simp at this
 · exact Nat.le_antisymm q q1
theorem seqK_does {P:Program} {rec:RecK} (hrec:RecOk P rec) {ops:Array Oper} {n:Nat} {H0:AH} {K:T AV->AH->Orc->Prop}:∀(l:List (Oper×Nat)) (i:Nat) (tm:T AV) (H:AH) (recs:List DRec) (rs:List SRec) (o:Orc),seqK P rec ops n K l i tm H rs o->
 (∀k p,l[k]? =some p->ops[i+k]? =some p.1/\p.2=mk ops (i+k))->As H0 recs H.next H->KeptR recs rs->
 ∃(tmf:Nat->T AV) (nxf:Nat->Nat) (recf:Nat->List DRec) (val:Nat->AV) (He:AH) (o':Orc),tmf i=tm/\nxf i=H.next/\recf i=recs/\
  (∀k o,k<l.length->ops[i+k]? =some o->Node P ops n H0 tmf nxf recf val (i+k) o)/\
  K (tmf (i+l.length)) He o'/\As H0 (recf (i+l.length)) (nxf (i+l.length)) He
 | [],i,tm,H,recs,rs,o,h,_,has,_=>by
   rw [seqK_nil] at h
   exact ⟨fun _=>tm,fun _=>H.next,fun _=>recs,fun _=>undefV,H,o,rfl,rfl,rfl,by simp,h,has⟩
 | (op,deps) :: l,i,tm,H,recs,rs,o,h,hl,has,hI=>by
   rw [seqK_cons] at h
   obtain ⟨ho,hdeps⟩:=hl 0 (op,deps) (by simp)
   simp only [Nat.add_zero] at ho hdeps
   subst hdeps
   have hl':∀k p,l[k]? =some p->ops[i+1+k]? =some p.1/\p.2=mk ops (i+1+k):=by
    intro k p hk
    have:=hl (k+1) p (by simpa using hk)
    rwa [show i+(k+1)=i+1+k by omega] at this
   have glue:∀(v:AV) (tm1:T AV) (H1:AH) (recs1:List DRec) (rs1:List SRec) (o1:Orc),seqK P rec ops n K l (i+1) tm1 H1 rs1 o1->As H0 recs1 H1.next H1->KeptR recs1 rs1->putD tm n op.dst v=some tm1->
    (∀(tmf:Nat->T AV) (nxf:Nat->Nat) (recf:Nat->List DRec) (val:Nat->AV),tmf i=tm->nxf i=H.next->recf i=recs->val i=v->tmf (i+1)=tm1->nxf (i+1)=H1.next->recf (i+1)=recs1->
      Node P ops n H0 tmf nxf recf val i op)->
    ∃(tmf:Nat->T AV) (nxf:Nat->Nat) (recf:Nat->List DRec) (val:Nat->AV) (He:AH) (o':Orc),tmf i=tm/\nxf i=H.next/\recf i=recs/\
     (∀k o',k<((op,mk ops i) :: l).length->ops[i+k]? =some o'->Node P ops n H0 tmf nxf recf val (i+k) o')/\
     K (tmf (i+((op,mk ops i) :: l).length)) He o'/\As H0 (recf (i+((op,mk ops i) :: l).length)) (nxf (i+((op,mk ops i) :: l).length)) He:=by
    intro v tm1 H1 recs1 rs1 o1 hrun has1 hI1 hput hnode
    obtain ⟨tmf,nxf,recf,val,He,o',e1,e2,e3,hn,hr,hae⟩:=seqK_does hrec l (i+1) tm1 H1 recs1 rs1 o1 hrun hl' has1 hI1
    refine ⟨fun j=>if j=i then tm else tmf j,fun j=>if j=i then H.next else nxf j,fun j=>if j=i then recs else recf j,fun j=>if j=i then v else val j,He,o',by simp,by simp,by simp,?_,?_⟩
    · intro k o' hk hok
      cases k with
      | zero=>
        simp only [Nat.add_zero] at hok⊢
        rw [ho] at hok;simp at hok;subst hok
        exact hnode _ _ _ _ (by simp) (by simp) (by simp) (by simp) (by simp [e1]) (by simp [e2]) (by simp [e3])
      | succ k=>
        rw [show i+(k+1)=i+1+k by omega] at hok⊢
        have:=hn k o' (by simpa using hk) hok
        refine this.congr ?_ ?_ ?_ ?_ ?_ ?_ ?_<;>exact if_neg (by omega)
    · simp only [List.length_cons]
      rw [show i+(l.length+1)=i+1+l.length by omega]
      simp only [if_neg (show i+1+l.length≠i by omega)]
      exact ⟨hr,hae⟩
   -- an operation over a part of the heap, whose trace is kept
   have step:∀(tr tr':T AObj) (v:AV) (H':AH) (o2:Orc) (tm1:T AV),(∀A,(tr.get A=H.tree.get A/\∀r∈rs,(mk ops i).testBit r.i=false->A∉r.ids)\/tr.get A=none)->
    wantedA ops tm op.guard=some true->OpDoes P (restrT tm .e op.op.operands.toList) { tree:=tr,next:=H.next,log:=[]} op.op v H'->chkS (mk ops i) H'.log rs=true->
    (∀A,tr'.get A=if A∈H'.log then H'.tree.get A else H.tree.get A)->putD tm n op.dst v=some tm1->
    seqK P rec ops n K l (i+1) tm1 { tree:=tr',next:=H'.next,log:=H'.log ++ H.log} ({ i:=i,tree:=tr,ids:=H'.log} :: rs) o2->
    ∃(tmf:Nat->T AV) (nxf:Nat->Nat) (recf:Nat->List DRec) (val:Nat->AV) (He:AH) (o':Orc),tmf i=tm/\nxf i=H.next/\recf i=recs/\
     (∀k o',k<((op,mk ops i) :: l).length->ops[i+k]? =some o'->Node P ops n H0 tmf nxf recf val (i+k) o')/\
     K (tmf (i+((op,mk ops i) :: l).length)) He o'/\As H0 (recf (i+((op,mk ops i) :: l).length)) (nxf (i+((op,mk ops i) :: l).length)) He:=by
    intro tr tr' v H' o2 tm1 hsee hw hop hchk htr' hput h
    have hsub:∀A obj,tr.get A=some obj->(appSel (Nat.testBit (mk ops i)) recs H0.tree).get A=some obj:=by
     intro A obj hA
     rcases hsee A with ⟨q1,q2⟩ | q
     · rw [<-hA,q1,has.get A]
       refine appSel_get_agree _ ?_
       intro r hr hAr
       cases hb:(mk ops i).testBit r.i with
       | true=>rfl
       | false=>
         rcases hI r hr with ⟨k1,_⟩ | ⟨q,hq,k1,k2,_⟩
         · rw [k1] at hAr;simp at hAr
         · exact absurd (k2▸hAr) (q2 q hq (k1▸hb))
     · rw [q] at hA;simp at hA
    have hchk':∀r∈recs,(mk ops i).testBit r.i=false->(∀A∈r.ids,A∉H'.log)/\(∀A∈r.ids,tr.get A=none)/\(∀A∈H'.log,r.H.tree.get A=none):=by
     intro r hr hb
     rcases hI r hr with ⟨k1,k2⟩ | ⟨q,hq,k1,k2,k3⟩
     · rw [k1];exact ⟨by simp,by simp,fun A _=>k2 A⟩
     · obtain ⟨c1,c2⟩:=chkS_spec rs hchk q hq (k1▸hb)
       rw [<-k2,<-k3]
       refine ⟨c1,?_,c2⟩
       intro A hA
       rcases hsee A with ⟨_,m2⟩ | m
       · exact absurd hA (m2 q hq (k1▸hb))
       · exact m
    refine glue v tm1 _ ({ i:=i,H:={ tree:=tr,next:=H.next,log:=[]},ids:=H'.log,H':=H',v:=v} :: recs) _ o2 h ⟨?_,rfl,?_⟩ ?_ hput ?_
    · intro A
      simp only [appSel,putIds_get]
      rw [htr' A,has.get A]
    · simp only [allIds];rw [has.log]
    · intro r hr
      cases hr with
      | head=>exact .inr ⟨_,List.mem_cons_self ..,rfl,rfl,rfl⟩
      | tail _ hr=>
        rcases hI r hr with k | ⟨q,hq,k⟩
        · exact .inl k
        · exact .inr ⟨q,List.mem_cons_of_mem _ hq,k⟩
    · intro tmf nxf recf val e1 e2 e3 e4 e5 e6 e7
      refine ⟨by rw [e1,e4,e5];exact hput,.inl ⟨by rw [e1];exact hw,{ tree:=tr,next:=H.next,log:=[]},H',⟨by rw [e2],rfl,?_,?_,?_⟩,e6,?_⟩⟩
      · intro A obj hA
        rw [e3];exact hsub A obj hA
      · rw [e1,e4];exact hop
      · rw [e3];exact hchk'
      · rw [e7,e3,e4]
   rcases guardK_does h with ⟨hw,o1,h⟩ | ⟨hw,o1,h⟩
   · cases hc:opCls P op.op with
     | pure=>
       simp only [hc] at h
       obtain ⟨v,H',o2,h,hop⟩:=opK_does hrec h
       cases hlog:H'.log with
       | cons A B=>rw [hlog] at h;exact h.elim
       | nil=>
         rw [hlog] at h
         obtain ⟨tm1,hput,h⟩:=putK_does h
         have hnext:H'.next=H.next:=lg_none (H:={ tree:=.e,next:=H.next,log:=[]}) hop.lg rfl hlog
         refine glue v tm1 H ({ i:=i,H:={ tree:=.e,next:=H.next,log:=[]},ids:=H'.log,H':=H',v:=v} :: recs) rs o2 h ⟨?_,rfl,?_⟩ ?_ hput ?_
         · intro A
           simp only [appSel,putIds_get,hlog]
           simpa using has.get A
         · simp only [allIds,hlog];simpa using has.log
         · intro r hr
           cases hr with
           | head=>exact .inl ⟨hlog,fun A=>T.get_e _⟩
           | tail _ hr=>exact hI r hr
         · intro tmf nxf recf val e1 e2 e3 e4 e5 e6 e7
           refine ⟨by rw [e1,e4,e5];exact hput,.inl ⟨by rw [e1];exact hw,{ tree:=.e,next:=H.next,log:=[]},H',⟨by rw [e2],rfl,fun A obj hA=>by simp [AH.get,T.get_e] at hA,?_,?_⟩,by rw [e6,hnext],?_⟩⟩
           · rw [e1,e4];exact hop
           · intro r hr hb
             rw [hlog]
             refine ⟨by simp,fun A _=>T.get_e _,by simp⟩
           · rw [e7,e3,e4]
     | fresh=>
       simp only [hc] at h
       obtain ⟨v,H',o2,h,hop⟩:=opK_does hrec h
       split at h
       · rename_i hchk
         obtain ⟨tm1,hput,h⟩:=putK_does h
         exact step .e _ v H' o2 tm1 (fun A=>.inr (T.get_e _)) hw hop hchk (fun A=>putIds_get _ _ _ _) hput h
       · exact h.elim
     | heap=>
       simp only [hc] at h
       obtain ⟨v,H',o2,h,hop⟩:=opK_does hrec h
       split at h
       · rename_i hchk
         obtain ⟨tm1,hput,h⟩:=putK_does h
         refine step _ _ v H' o2 tm1 (fun A=>see_get A) hw hop hchk (fun A=>?_) hput h
         cases hd:allDep (mk ops i) rs with
         | false=>exact putIds_get _ _ _ _
         | true=>
           rw [hd] at hop
           simp only [overTree]
           split
           · rfl
           · rename_i hA
             obtain ⟨q1,l2,q2,q4,q3⟩:=hop.lg
             have q2':H'.log=l2:=by rw [q2];exact List.append_nil _
             exact q4 A (by rw [<-q2'];exact hA)
       · exact h.elim
     | look x=>
       simp only [hc] at h
       obtain ⟨v,H',o2,h,hop⟩:=opK_does hrec h
       cases hlog:H'.log with
       | cons A B=>rw [hlog] at h;exact h.elim
       | nil=>
         rw [hlog] at h
         obtain ⟨tm1,hput,h⟩:=putK_does h
         have hnext:H'.next=H.next:=lg_none (H:={ tree:=seeAt (restrT tm .e op.op.operands.toList) x (seeTree (allDep (mk ops i) rs) (mk ops i) H.tree rs),next:=H.next,log:=[]}) hop.lg rfl hlog
         refine step _ H.tree v H' o2 tm1 (fun A=>?_) hw hop (by
          rw [hlog]
          have:∀(l:List SRec) (d:Nat),chkS d [] l=true:=by
           intro l d
           induction l with
           | nil=>rfl
           | cons r l ih=>
             simp only [chkS]
             cases Nat.testBit d r.i with
             | true=>exact ih
             | false=>
               have hd:disj r.ids []=true:=by
                have:∀(m:List Nat),disj m []=true:=by
                 intro m
                 induction m with
                 | nil=>rfl
                 | cons a m ihm=>simp only [disj,memN];exact ihm
                exact this _
               rw [hd]
               exact ih
          exact this rs _) (fun A=>by rw [hlog];simp) hput ?_
         · have:=oneT_get (seeTree (allDep (mk ops i) rs) (mk ops i) H.tree rs) ((evalO (restrT tm .e op.op.operands.toList) x).bind nameOf) A
           rcases this with q | q
           · rcases see_get (deps:=mk ops i) (t:=H.tree) (rs:=rs) A with ⟨m1,m2⟩ | m
             · exact .inl ⟨q.trans m1,m2⟩
             · exact .inr (q.trans m)
           · exact .inr q
         · rw [hnext,hlog];exact h
     | near xs=>
       simp only [hc] at h
       obtain ⟨v,H',o2,h,hop⟩:=opK_does hrec h
       split at h
       · rename_i hchk
         obtain ⟨tm1,hput,h⟩:=putK_does h
         refine step _ _ v H' o2 tm1 (fun A=>?_) hw hop hchk (fun A=>putIds_get _ _ _ _) hput h
         rcases nearT_get (seeTree (allDep (mk ops i) rs) (mk ops i) H.tree rs) A (xs.map fun x=>(evalO (restrT tm .e op.op.operands.toList) x).bind nameOfS) with q | q
         · rcases see_get (deps:=mk ops i) (t:=H.tree) (rs:=rs) A with ⟨m1,m2⟩ | m
           · exact .inl ⟨q.trans m1,m2⟩
           · exact .inr (q.trans m)
         · exact .inr q
       · exact h.elim
   · obtain ⟨tm1,hput,h⟩:=putK_does h
     refine glue undefV tm1 H recs rs o1 h has hI hput ?_
     intro tmf nxf recf val e1 e2 e3 e4 e5 e6 e7
     exact ⟨by rw [e1,e4,e5];exact hput,.inr ⟨by rw [e1];exact hw,e4,by rw [e6,e2],by rw [e7,e3]⟩⟩
theorem nodes_lg {P:Program} {ops:Array Oper} {n:Nat} {H:AH} {tmf:Nat->T AV} {nxf:Nat->Nat} {recf:Nat->List DRec} {val:Nat->AV} (e2:nxf 0=H.next) (e3:recf 0=[])
 (hn:∀i o,ops[i]? =some o->Node P ops n H tmf nxf recf val i o):∀i,i<=ops.size->Lg H { tree:=appSel (fun _=>true) (recf i) H.tree,next:=nxf i,log:=allIds (recf i) H.log}
 | 0,_=>by
   rw [e2,e3]
   exact ⟨Nat.le_refl _,[],rfl,fun _ _=>rfl,fun _ a b=>by simp at b;omega⟩
 | i+1,hi=>by
   have ih:=nodes_lg e2 e3 hn i (by omega)
   obtain ⟨o,ho⟩:∃o,ops[i]? =some o:=⟨_,Array.getElem?_eq_getElem (by omega)⟩
   rcases (hn i o ho).step with ⟨hw,Hi,H',hop,h3,h4⟩ | ⟨hw,_,h3,h4⟩
   · refine ih.trans ?_
     obtain ⟨hlgn,l,hlgl,hlgg,hlgm⟩:=hop.does.lg
     rw [hop.log,List.append_nil] at hlgl
     rw [hop.next] at hlgn hlgm
     rw [h3,h4]
     refine ⟨hlgn,H'.log,rfl,?_,?_⟩
     · intro A hA
       simp only [AH.get,appSel,putIds_get,if_neg hA]
     · intro A a b
       rw [hlgl]
       exact hlgm A a b
   · rw [h3,h4];exact ih
theorem stepK_ok {P:Program} {rec:RecK} (hrec:RecOk P rec):RecOk P (stepK P rec):=by
 intro t o K h
 cases t with
 | code c n tm H=>
   simp only [stepK] at h
   unfold codeK at h
   split at h
   · exact ⟨_,_,h,.refl _,fun r0 hr ρ a w Q ht hh hf hQ=>wpIn_skip (hQ.skip ht hh)⟩
   · exact ⟨_,_,h,.refl _,fun r0 hr ρ a w Q ht hh hf hQ=>wpIn_label (hQ.skip ht hh)⟩
   · rename_i id ops
     obtain ⟨tm',H',o',hk,hlg,hwp⟩:=opsK_does hrec _ _ _ _ h
     exact ⟨_,o',hk,hlg,fun r0 hr ρ a w Q ht hh hf hQ=>wpIn_region_list (hwp r0 ρ a w Q ht hh hf hQ)⟩
   · rename_i id ops
     split at h
     · rename_i hreg
       have hml:(masks ops.toList []).length=ops.size:=by simp [masks_length]
       have hzl:(ops.toList.zip (masks ops.toList [])).length=ops.size:=by simp [hml]
       have hat:∀k p,(ops.toList.zip (masks ops.toList []))[k]? =some p->ops[0+k]? =some p.1/\p.2=mk ops (0+k):=by
        intro k p hk
        obtain ⟨o,m⟩:=p
        rw [List.getElem?_zip_eq_some] at hk
        obtain ⟨h1,h2⟩:=hk
        simp only [Nat.zero_add]
        exact ⟨by simpa using h1,by simp [mk,h2]⟩
       obtain ⟨tmf,nxf,recf,val,He,o',e1,e2,e3,hn,hk,hae⟩:=seqK_does (H0:=H) hrec _ 0 tm H [] [] o h hat ⟨fun A=>rfl,rfl,rfl⟩ (fun r hr=>by simp at hr)
       simp only [Nat.zero_add,hzl] at hn hk hae
       have hn':∀i o,ops[i]? =some o->Node P ops n H tmf nxf recf val i o:=fun i o ho=>hn i o (Array.getElem?_eq_some_iff.1 ho).1 ho
       have hlg:=nodes_lg e2 e3 hn' ops.size (Nat.le_refl _)
       refine ⟨_,o',hk,?_,fun r0 hr ρ a w Q ht hh hf hQ=>region_nodes hreg e1 e2 e3 hn' ht hh (by rw [<-hae.next];exact hf) ?_⟩
       · obtain ⟨q1,l2,q2,q3,q4⟩:=hlg
         refine ⟨by rw [hae.next];exact q1,l2,by rw [hae.log];exact q2,fun A hA=>?_,fun A a b=>q4 A a (by rw [<-hae.next];exact b)⟩
         have:=q3 A hA
         show He.tree.get A= _
         rw [hae.get A];exact this
       · intro a' w' ρ' t1 t2 t3 t4
         have hsub:∀A o,He.get A=some o->AH.get { tree:=appSel (fun _=>true) (recf ops.size) H.tree,next:=nxf ops.size,log:=allIds (recf ops.size) H.log} A=some o:=by
          intro A o hA
          show (appSel (fun _=>true) (recf ops.size) H.tree).get A=some o
          rw [<-hae.get A];exact hA
         exact hQ a' w' ρ' t1 (.of_eq t2) (t3.sub hsub) (t4.sub hsub hae.next)
     · exact h.elim
   · rename_i a b
     obtain ⟨r,o1,hk,hd⟩:=hrec _ _ _ h
     cases r with
     | rv v H'=>exact hd.elim
     | st x tm1 H1=>
       have pass:(∃o',K (.st x tm1 H1) o')->x≠.nrm->∃r o',K r o'/\DoesT P (.code (.seq a b) n tm H) r:=by
        rintro ⟨o',hk⟩ hne
        refine ⟨_,o',hk,hd.1,fun r0 hr ρ ac w Q ht hh hf hQ=>wpIn_seq (hd.2 r0 hr.l ρ ac w _ ht hh hf ?_)⟩
        intro a1 w1 ρ1 ht1 hd1 hh1 he1
        have:=hQ a1 w1 ρ1 ht1 hd1 hh1 he1
        cases x with
        | nrm=>exact absurd rfl hne
        | exit id=>exact this
        | ret=>exact this
       cases x with
       | nrm=>
         obtain ⟨r2,o2,hk2,hd2⟩:=hrec _ _ _ hk
         cases r2 with
         | rv v H'=>exact hd2.elim
         | st x2 tm2 H2=>
           refine ⟨_,o2,hk2,hd.1.trans hd2.1,fun r0 hr ρ ac w Q ht hh hf hQ=>wpIn_seq (hd.2 r0 hr.l ρ ac w _ ht hh (hf.left hd2.1.next) ?_)⟩
           intro a1 w1 ρ1 ht1 hd1 hh1 he1
           exact hd2.2 r0 hr.r ρ1 a1 w1 Q ht1 hh1 (hf.right he1) (hQ.after hd1 hh1 he1)
       | exit id=>exact pass ⟨o1,hk⟩ (by simp)
       | ret=>exact pass ⟨o1,hk⟩ (by simp)
   · rename_i x a b
     split at h
     · rename_i v hv
       rcases brK_does h with ⟨e,o1,h2⟩ | ⟨e,o1,h2⟩
       all_goals
        subst e
        obtain ⟨r,o2,hk,hd⟩:=hrec _ _ _ h2
        cases r with
        | rv v H'=>exact hd.elim
        | st x1 tm1 H1=>
          refine ⟨_,o2,hk,hd.1,fun r0 hr ρ ac w Q ht hh hf hQ=>?_⟩
          have hv':=evalO_VR ht hv
          generalize hx:ac.eval _=u at hv'
          cases hv'
          exact wpIn_cond hx (hd.2 r0 (hr.mono fun q=>by simp [rfC_cond,q]) ρ ac w Q ht hh hf hQ)
     · exact h.elim
   · rename_i id c
     obtain ⟨r,o1,hk,hd⟩:=hrec _ _ _ h
     cases r with
     | rv v H'=>exact hd.elim
     | st x tm1 H1=>
       have pass:(∃o',K (.st x tm1 H1) o')->(∀k,x=.exit k->k≠id)->∃r o',K r o'/\DoesT P (.code (.block id c) n tm H) r:=by
        rintro ⟨o',hk⟩ hne
        refine ⟨_,o',hk,hd.1,fun r0 hr ρ ac w Q ht hh hf hQ=>wpIn_block (hd.2 r0 hr ρ ac w _ ht hh hf ?_)⟩
        intro a1 w1 ρ1 ht1 hd1 hh1 he1
        have:=hQ a1 w1 ρ1 ht1 hd1 hh1 he1
        cases x with
        | nrm=>exact this
        | exit k=>
          show Exit.inBlock id Q (.exit k) a1 w1
          simp only [Exit.inBlock,if_neg (hne k rfl)]
          exact this
        | ret=>exact this
       cases x with
       | nrm=>exact pass ⟨o1,hk⟩ (by simp)
       | ret=>exact pass ⟨o1,hk⟩ (by simp)
       | exit k=>
         simp only at hk
         split at hk
         · rename_i hb
           have hb':=Nat.eq_of_beq_eq_true hb
           refine ⟨_,o1,hk,hd.1,fun r0 hr ρ ac w Q ht hh hf hQ=>wpIn_block (hd.2 r0 hr ρ ac w _ ht hh hf ?_)⟩
           intro a1 w1 ρ1 ht1 hd1 hh1 he1
           show Exit.inBlock id Q (.exit k) a1 w1
           simp only [Exit.inBlock,hb',if_true]
           exact hQ a1 w1 ρ1 ht1 hd1 hh1 he1
         · rename_i hb
           exact pass ⟨o1,hk⟩ (fun k' e=>by simp at e;subst e;exact Nat.ne_of_beq_eq_false hb)
   · rename_i c
     split at h
     · obtain ⟨r,o1,hk,hd⟩:=hrec _ _ _ h
       cases r with
       | rv v H'=>exact hd.elim
       | st x tm1 H1=>exact ⟨_,o1,hk,hd.1,fun r0 hr ρ ac w Q ht hh hf hQ=>wp_loop_of (hd.2 r0 hr ρ ac w Q ht hh hf hQ)⟩
     · rename_i x tm1 H1 o1
       exact ⟨_,o1,h.2,h.1.1,fun r0 hr ρ ac w Q ht hh hf hQ=>wp_loop_of (h.1.2 r0 hr ρ ac w Q ht hh hf hQ)⟩
     · rename_i o1
       split at h
       · rename_i l objs hp
         have hd:=pull_loop hp h.1
         exact ⟨_,o1,h.2,hd.1,fun r0 hr ρ ac w Q ht hh hf hQ=>wp_loop_of (hd.2 r0 hr ρ ac w Q ht hh hf hQ)⟩
       · exact h.elim
     · exact h.elim
   · rename_i g ps asg body
     split at h
     · rename_i gf fs cs hx
       split at h
       · rename_i hok
         obtain ⟨v,H2,o1,h,hc⟩:=callK_does hrec h
         split at h
         · rename_i st n' ps' asg' body' tm' hr
           exact ⟨_,o1,h,range_does hx hok hc hr⟩
         · exact h.elim
       · exact h.elim
     · exact h.elim
   · exact ⟨_,_,h,.refl _,fun r0 hr ρ a w Q ht hh hf hQ=>wpIn_exit (hQ.skip ht hh)⟩
   · exact ⟨_,_,h,.refl _,fun r0 hr ρ a w Q ht hh hf hQ=>wpIn_ret (hQ.skip ht hh)⟩
   · exact h.elim
 | loop c n tm H=>
   simp only [stepK] at h
   unfold loopK at h
   obtain ⟨r,o1,hk,hd⟩:=hrec _ _ _ h
   cases r with
   | rv v H'=>exact hd.elim
   | st x tm1 H1=>
     have pass:(∃o',K (.st x tm1 H1) o')->x≠.nrm->∃r o',K r o'/\DoesT P (.loop c n tm H) r:=by
      rintro ⟨o',hk⟩ hne
      refine ⟨_,o',hk,hd.1,fun r0 hr ρ ac w Q ht hh hf hQ=>hd.2 r0 hr ρ ac w _ ht hh hf ?_⟩
      intro a1 w1 ρ1 ht1 hd1 hh1 he1
      have:=hQ a1 w1 ρ1 ht1 hd1 hh1 he1
      cases x with
      | nrm=>exact absurd rfl hne
      | exit id=>exact this
      | ret=>exact this
     cases x with
     | nrm=>
       simp only at hk
       split at hk
       · obtain ⟨r2,o2,hk2,hd2⟩:=hrec _ _ _ hk
         cases r2 with
         | rv v H'=>exact hd2.elim
         | st x2 tm2 H2=>
           refine ⟨_,o2,hk2,hd.1.trans hd2.1,fun r0 hr ρ ac w Q ht hh hf hQ=>hd.2 r0 hr ρ ac w _ ht hh (hf.left hd2.1.next) ?_⟩
           intro a1 w1 ρ1 ht1 hd1 hh1 he1
           exact loopWp_of (hd2.2 r0 hr ρ1 a1 w1 Q ht1 hh1 (hf.right he1) (hQ.after hd1 hh1 he1))
       · exact hk.elim
     | exit id=>exact pass ⟨o1,hk⟩ (by simp)
     | ret=>exact pass ⟨o1,hk⟩ (by simp)
 | call g args H=>
   simp only [stepK] at h
   unfold enterK at h
   split at h
   · rename_i fn hfn
     split at h
     · rename_i c hc
       obtain ⟨r,o1,hk,hd⟩:=hrec _ _ _ h
       cases r with
       | rv v H'=>exact hd.elim
       | st x tm1 H1=>
         have fin:∀l,resOf P tm1 H1 fn.results.toList=some l->(x=.nrm\/x=.ret)->K (.rv (oneRes l) H1) o1->∃r o',K r o'/\DoesT P (.call g args H) r:=by
          intro l hl hx hk
          refine ⟨_,o1,hk,hd.1,?_⟩
          intro ρ w args' hv hh hf
          have hlen:=hv.length
          have ht0:TR ρ (initT .e 0 args) (args.length+(fn.ntmps-args.length)) (args'.toArray ++ Array.replicate (fn.ntmps-args'.toArray.size) undef):=by
           refine ⟨by simp [hlen],?_⟩
           intro t v1 hv1
           unfold initT at hv1
           rw [setAll_get] at hv1
           simp only [Nat.zero_le,true_and,Nat.zero_add,Nat.sub_zero,T.get_e] at hv1
           by_cases hlt:t<args.length
           · rw [if_pos hlt] at hv1
             obtain ⟨v',k1,k2⟩:=hv.get? t v1 hv1
             have hlt':t<args'.length:=by omega
             have:(args'.toArray ++ Array.replicate (fn.ntmps-args'.toArray.size) undef).getD t undef=v':=by
              rw [List.getElem?_eq_getElem hlt'] at k1
              simp at k1
              simp [Array.getElem?_append,hlt',k1]
             rw [this];exact k2
           · rw [if_neg hlt] at hv1;simp at hv1
          refine callsIn_FR.1 (callsIn_of_wp_marks (F:=FR none) (n:=0) hfn hc trivial (hd.2 none (fun _=>rfl) ρ _ w _ ht0 hh hf ?_))
          intro a1 w1 ρ1 ht1 hd1 hh1 he1
          refine post_marks (by rcases hx with rfl | rfl<;>simp [XO.ex]) hd1 fun Ds w2 hD hs=>?_
          have hh2:=hh1.shut (fun D h=>(hD D h).2) hs
          obtain ⟨v',k1,k2⟩:=results_sound (fn:=fn) ht1 hh2 hl
          exact ⟨v',k1,v',ρ1,rfl,k2,hh2,he1.shut (fun D h=>(hD D h).1) hs⟩
         simp only [finK,finish] at hk
         cases x with
         | nrm=>
           cases hl:resOf P tm1 H1 fn.results.toList with
           | none=>simp only [hl,ob] at hk
           | some l=>simp only [hl,ob] at hk;exact fin l hl (.inl rfl) hk
         | ret=>
           cases hl:resOf P tm1 H1 fn.results.toList with
           | none=>simp only [hl,ob] at hk
           | some l=>simp only [hl,ob] at hk;exact fin l hl (.inr rfl) hk
         | exit id=>exact hk.elim
     · exact h.elim
   · exact h.elim
theorem runK_ok (P:Program):∀f,RecOk P (runK P f)
 | 0=>fun t o K h=>by rw [runK_0] at h;exact h.elim
 | f+1=>by
   have:=stepK_ok (runK_ok P f)
   exact this
end Go.Sim
/- From runs to contracts, and loops by induction. -/
namespace Go.Sim
open Go
noncomputable def natsTo (k:Nat):List Nat:=List.range k
def RetIs (objs:List (Option AObj)) (v:AV) (us:List Upd) (fz τ:List Nat) (v1:AV) (H1:AH):Prop:=
 ∃H2 p,frzAll fz H1 v1=some (ren (nameIn (natsTo objs.length ++ τ) H2.next) v,H2,p)/\p/\below us.length v=true/\nodupB (natsTo objs.length ++ τ)=true/\allLt H2.next (natsTo objs.length ++ τ)=true/\objs.length+τ.length=us.length/\
  HasAll (nameIn (natsTo objs.length ++ τ) H2.next) us.length H2 (natsTo objs.length ++ τ) (postL objs us)
theorem updOk_all (objs:List (Option AObj)):∀l:List (Option AObj),updOk l (l.map fun _=>Upd.keep)=true
 | []=>by simp [updOk]
 | none :: r=>by simp [updOk,updOk_all objs r]
 | some o :: r=>by simp [updOk,updOk_all objs r]
theorem con_of_does {P:Program} {g:FuncId} {pargs:List AV} {objs:List (Option AObj)} {v:AV} {us:List Upd} {fz τ:List Nat} {v1:AV} {H1:AH} (hr:RetIs objs v us fz τ v1 H1) (hd:CallDoes P g pargs (mkH objs) v1 H1):Con P g pargs objs v us:=by
 obtain ⟨H2,p,hfz,hp,hbel,hnd,hlt,hlen,hall⟩:=hr
 obtain ⟨hlg,hcall⟩:=hd
 intro ρ w args' hv hh hoff
 refine (hcall ρ w args' hv hh (fun A q1 _=>hoff A q1)).mono ?_
 rintro e w' ⟨v',ρ1,rfl,k1,k2,k3⟩
 obtain ⟨ρ2,m1,m2,m3,m4⟩:=frzAll_ok fz hfz hp k2 k3 k1
 generalize hσ:natsTo objs.length ++ τ=σ at *
 have hpl:(postL objs us).length=us.length:=postL_length _ _
 have hσl:σ.length=us.length:=by rw [<-hσ];simp [natsTo];omega
 have hok:namesOk σ (postL objs us) ((postL objs us).map fun _=>Upd.keep) H2=true:=by
  simp only [namesOk,hnd,hlt,Bool.true_and]
  have:((postL objs us).map fun _=>Upd.keep).length-σ.length=0:=by simp [hpl,hσl]
  rw [this]
  simp [freeFrom,updOk_all objs]
 have hemb:=emb_in (us:=(postL objs us).map fun _=>Upd.keep) hok (by rw [hpl];exact hall) m3
 have hold:∀A,A<objs.length->σ[A]? =some A:=by
  intro A hA
  rw [<-hσ,List.getElem?_append_left (by simpa [natsTo] using hA)]
  simp [natsTo,hA]
 have hget:=(hasAll_get hall).2
 refine ⟨v',ρ2.sub σ,rfl,unren_VR (k:=us.length) (fun A hA=>hemb.nm A (by rw [hpl];exact hA)) (fun _ _ _ h=>h) hbel m2,hemb.hr,?_,⟨?_,?_⟩,?_,m4.size,m4.frame,?_,m4.roimg,m4.tape,m4.os,m4.output⟩
 · show objs.length<=(postL objs us).length;omega
 · intro A x hA
   have hAl:A<objs.length:=by
    apply Classical.byContradiction
    intro hn
    rw [hoff A (by omega)] at hA;simp at hA
   show (match σ[A]? with | some B=>ρ2 B | none=>none)=some x
   rw [hold A hAl]
   exact m4.ext.nm A x hA
 · exact m4.ext.ro
 · intro A x hA
   have hA':(match σ[A]? with | some B=>ρ2 B | none=>none)=some x:=hA
   by_cases hAl:A<objs.length
   · rw [hold A hAl] at hA'
     rcases m4.dom A x hA' with h | ⟨h1,_⟩
     · exact .inl h
     · have:objs.length<=A:=h1
       omega
   · refine .inr ⟨by show objs.length<=A;omega,?_⟩
     show A<(postL objs us).length
     rw [hpl,<-hσl]
     apply Classical.byContradiction
     intro hn
     rw [List.getElem?_eq_none (by omega)] at hA';simp at hA'
 · intro A ob x hA hx
   obtain ⟨B,b1,b2,b3⟩:=hget A ob (mkH_some hA)
   have hx':(match σ[A]? with | some B=>ρ2 B | none=>none)=some x:=hx
   rw [b1] at hx'
   exact m4.img B _ x b2 hx'
theorem con_of_run {P:Program} {f:Nat} {g:FuncId} {pargs:List AV} {objs:List (Option AObj)} {o:Orc} {v:AV} {us:List Upd} (fz τ:List Nat)
 (h:runK P f (.call g pargs (mkH objs)) o fun r _=>∃v1 H1,r=.rv v1 H1/\RetIs objs v us fz τ v1 H1):Con P g pargs objs v us:=by
 obtain ⟨r,o',⟨v1,H1,rfl,hr⟩,hd⟩:=runK_ok P f _ _ _ h
 exact con_of_does hr hd
def StIs (b:Nat) (σ fz:List Nat) (tm1:T AV) (H1:AH) (l:List (Nat×AV)) (objs:List (Option AObj)):Prop:=
 ∃vs H2 p,getTs tm1 (l.map (·.1))=some vs/\frzAll fz H1 (.tup vs)=some (.tup (rens (nameIn σ H2.next) (l.map (·.2))),H2,p)/\p/\belows objs.length (l.map (·.2))=true/\nodupB σ=true/\allLt H2.next σ=true/\
  HasAll (nameIn σ H2.next) objs.length H2 σ objs/\σ.take b=natsTo b
theorem st_ok {b n:Nat} {σ fz:List Nat} {tm1:T AV} {H1:AH} {l:List (Nat×AV)} {objs objs0:List (Option AObj)} {ρ ρ1:Rho} {w w1:World} {ts:Array Value} (h:StIs b σ fz tm1 H1 l objs) (hb:b<=objs0.length)
 (ht:TR ρ1 tm1 n ts) (hh:HR ρ1 H1 w1) (he:Ext ρ (mkH objs0) w ρ1 H1 w1) :
 ∃ρ2,TR ρ2 (mkT l) n ts/\HR ρ2 (mkH objs) w1/\(∀A,objs.length<=A->ρ2 A=none)/\ExtB b ρ (mkH objs0) w ρ2 (mkH objs) w1:=by
 obtain ⟨vs,H2,p,hts,hfz,hp,hbel,hnd,hlt,hall,htake⟩:=h
 have hvs:=getTs_VRs ht hts
 obtain ⟨ρ2,m1,m2,m3,m4⟩:=frzAll_ok fz (v':=.tuple ((l.map (·.1)).map fun t=>ts.getD t undef).toArray) hfz hp hh he (.tup _ _ hvs)
 obtain ⟨hlen,hget⟩:=hasAll_get hall
 have hok:namesOk σ objs (objs.map fun _=>Upd.keep) H2=true:=by
  simp only [namesOk,hnd,hlt,Bool.true_and]
  have:(objs.map fun _=>Upd.keep).length-σ.length=0:=by simp;omega
  rw [this]
  simp [freeFrom,updOk_all objs]
 have hemb:=emb_in (us:=objs.map fun _=>Upd.keep) hok hall m3
 have hbl:b<=σ.length:=by
  have:=congrArg List.length htake
  simp [natsTo] at this;omega
 have hold:∀A,A<b->σ[A]? =some A:=by
  intro A hA
  have:(σ.take b)[A]? =some A:=by rw [htake];simp [natsTo,hA]
  rwa [List.getElem?_take_of_lt hA] at this
 refine ⟨ρ2.sub σ,⟨ht.size,?_⟩,hemb.hr,hemb.off,⟨?_,m4.ext.ro,m4.size,m4.frame,?_,m4.roimg,m4.tape,m4.os,m4.output⟩⟩
 · intro t v hv
   have hm:=mkT_get l t v hv
   have h2:VRs (ρ2.sub σ) (l.map (·.2)) ((l.map (·.1)).map fun t=>ts.getD t undef):=by
    generalize hV:((l.map (·.1)).map fun t=>ts.getD t undef)=V at m2
    cases m2 with
    | tup _ cs' h2=>
      exact unrens_VR (k:=objs.length) hemb.nm (fun _ _ _ h=>h) hbel h2
   rw [List.map_map] at h2
   exact h2.mem (f:=fun t=>ts.getD t undef) _ hm
 · intro A hA
   show (match σ[A]? with | some B=>ρ2 B | none=>none)=ρ A
   rw [hold A hA]
   simp only
   cases hr:ρ A with
   | some x=>exact m4.ext.nm A x hr
   | none=>
     cases hr2:ρ2 A with
     | none=>rfl
     | some x=>
       rcases m4.dom A x hr2 with h | ⟨h1,_⟩
       · rw [hr] at h;simp at h
       · have:objs0.length<=A:=h1
         omega
 · intro A o x hA hx
   obtain ⟨B,b1,b2,b3⟩:=hget A o (mkH_some hA)
   have hx':(match σ[A]? with | some B=>ρ2 B | none=>none)=some x:=hx
   rw [b1] at hx'
   exact m4.img B _ x b2 hx'
def RoundIs {D:Type} (b:Nat) (I:D->List (Nat×AV)×List (Option AObj)) (μ:D->Nat) (inv:D->Prop) (x:XO) (l':List (Nat×AV)) (objs':List (Option AObj)) (d:D) (r:Res):Prop:=
 (∃d' σ fz tm1 H1,inv d'/\μ d'<μ d/\r=.st .nrm tm1 H1/\StIs b σ fz tm1 H1 (I d').1 (I d').2)\/(∃σ fz tm1 H1,r=.st x tm1 H1/\x≠.nrm/\StIs b σ fz tm1 H1 l' objs')
theorem loop_ind {D:Type} {P:Program} {c:Code} {n b:Nat} {x:XO} {l':List (Nat×AV)} {objs':List (Option AObj)} (I:D->List (Nat×AV)×List (Option AObj)) (μ:D->Nat) (inv:D->Prop)
 (round:∀d,inv d->b<=(I d).2.length/\∃f o,runK P f (.code c n (mkT (I d).1) (mkH (I d).2)) o fun r _=>RoundIs b I μ inv x l' objs' d r) :
 ∀d,inv d->LDoes P c n b (mkT (I d).1) (I d).2 x (mkT l') objs':=by
 suffices h:∀m d,μ d=m->inv d->LDoes P c n b (mkT (I d).1) (I d).2 x (mkT l') objs' from fun d hd=>h _ d rfl hd
 intro m
 induction m using Nat.strongRecOn with
 | _ m ih=>
 intro d hm hd
 obtain ⟨hb,f,o,hrun⟩:=round d hd
 obtain ⟨r,o',hr,hdoes⟩:=runK_ok P f _ _ _ hrun
 intro r0 hro ρ a w Q ht hh hoff hQ
 rcases hr with ⟨d',σ,fz,tm1,H1,hi,hmu,rfl,hst⟩ | ⟨σ,fz,tm1,H1,rfl,hx,hst⟩
 · refine hdoes.2 r0 hro ρ a w _ ht hh (fun A q _=>hoff A q) ?_
   intro a1 w1 ρ1 ht1 hd1 hh1 he1
   obtain ⟨ρ2,k1,k2,k3,k4⟩:=st_ok hst hb ht1 hh1 he1
   refine loopWp_of (ih (μ d') (by omega) d' rfl hi r0 hro ρ2 a1 w1 Q k1 k2 k3 ?_)
   intro a2 w2 ρ3 q1 q2 q3 q4 q5
   exact hQ a2 w2 ρ3 q1 (hd1.trans q2 k2 he1.size q5.frame) q3 q4 (k4.trans q5)
 · refine hdoes.2 r0 hro ρ a w _ ht hh (fun A q _=>hoff A q) ?_
   intro a1 w1 ρ1 ht1 hd1 hh1 he1
   obtain ⟨ρ2,k1,k2,k3,k4⟩:=st_ok hst hb ht1 hh1 he1
   have:=hQ a1 w1 ρ2 k1 hd1 k2 k3 k4
   cases x with
   | nrm=>exact absurd rfl hx
   | exit id=>exact this
   | ret=>exact this
theorem con_plain {P:Program} {f:Nat} {g:FuncId} {pargs:List AV} {o:Orc} {v:AV} (hb:below 0 v=true) (h:runK P f (.call g pargs (mkH [])) o fun r _=>∃v1 H1,r=.rv v1 H1/\v1=v):Con P g pargs [] v []:=by
 obtain ⟨r,o',⟨v1,H1,rfl,rfl⟩,hd⟩:=runK_ok P f _ _ _ h
 obtain ⟨hlg,hcall⟩:CallDoes P g pargs (mkH []) v1 H1:=hd
 intro ρ w args' hv hh hoff
 refine (hcall ρ w args' hv hh (fun A q1 _=>hoff A (Nat.zero_le _))).mono ?_
 rintro e w' ⟨v',ρ1,rfl,k1,k2,k3⟩
 have hid:ren id v1=v1:=ren_id v1
 have hnone:∀A,ρ A=none:=fun A=>hoff A (Nat.zero_le _)
 have hemp:∀A o,(mkH (postL [] [])).get A=some o->False:=by
  intro A o h
  rw [mkH_get] at h
  have:(postL [] []:List (Option AObj))=[]:=rfl
  rw [this] at h;simp at h
 refine ⟨v',⟨fun _=>none,ρ1.ro⟩,rfl,?_,⟨fun A o h=>(hemp A o h).elim,fun A _ o _ _ _ h=>(hemp A o h).elim,fun A x h=>by simp at h,k2.ro,fun B j v hv A o x h=>(hemp A o h).elim⟩,?_⟩
 · exact unren_VR (ρ:=⟨fun _=>none,ρ1.ro⟩) (ρ':=ρ1) (σ:=id) (k:=0) (fun A h=>by omega) (fun _ _ _ h=>h) hb (by rw [hid];exact k1)
 · refine ⟨Nat.zero_le _,⟨fun A x h=>by rw [hnone A] at h;simp at h,k3.ext.ro⟩,fun A x h=>by simp at h,k3.size,?_,fun A o x h=>(hemp A o h).elim,?_,k3.tape,k3.os,k3.output⟩
   · exact k3.frame
   · exact k3.roimg
theorem st_is {b:Nat} {tm1:T AV} {H1:AH} {l:List (Nat×AV)} {objs:List (Option AObj)} (σ:List Nat) (hts:getTs tm1 (l.map (·.1))=some (rens (nameIn σ H1.next) (l.map (·.2)))) (hbel:belows objs.length (l.map (·.2))=true)
 (hnd:nodupB σ=true) (hlt:allLt H1.next σ=true) (hall:HasAll (nameIn σ H1.next) objs.length H1 σ objs) (htake:σ.take b=natsTo b):StIs b σ [] tm1 H1 l objs:=
 ⟨_,H1,True,hts,by simp only [frzAll,ren],trivial,hbel,hnd,hlt,hall,htake⟩
noncomputable def rfsOf:Code->List (Array Tmp×Code×Code)
 | .seq a b=>rfsOf a ++ rfsOf b
 | .cond _ a b=>rfsOf a ++ rfsOf b
 | .block _ c=>rfsOf c
 | .loop c=>rfsOf c
 | .rangeFunc _ ps asg body=>[(ps,asg,body)]
 | _=>[]
noncomputable def rfAt (P:Program) (g k:Nat):Array Tmp×Code×Code:=
 match P.funcs[g]? with
 | some fn=>match fn.body with
   | some c=>((rfsOf c)[k]?).getD (#[],.skip,.skip)
   | none=>(#[],.skip,.skip)
 | none=>(#[],.skip,.skip)
noncomputable def rfBody (P:Program) (g k:Nat):Code:=(rfAt P g k).2.2
noncomputable def loopsOf:Code->List Code
 | .seq a b=>loopsOf a ++ loopsOf b
 | .cond _ a b=>loopsOf a ++ loopsOf b
 | .block _ c=>loopsOf c
 | .loop c=>c :: loopsOf c
 | _=>[]
noncomputable def loopAt (P:Program) (g k:Nat):Code:=
 match P.funcs[g]? with
 | some fn=>match fn.body with
   | some c=>((loopsOf c)[k]?).getD .skip
   | none=>.skip
 | none=>.skip
end Go.Sim
/- Rows that are told in other words. -/
namespace Go.Sim
open Go
def SegEq (g g':Seg):Prop:=g.st=g'.st/\g.sz=g'.sz/\g.n=g'.n/\∀i j,i<g.n->j<g.sz->g.f i j=g'.f i j
def SegsEq:List Seg->List Seg->Prop
 | [],[]=>True
 | a :: l,b :: r=>SegEq a b/\SegsEq l r
 | _,_=>False
def AW (v v':AV):Prop:=v=v'\/(v=.l0/\((∃A sz i ex,v'=.lr A sz i 0 ex)\/∃sz f,v'=.sv sz 0 f))
theorem AW.vr {v v':AV} (h:AW v v') {ρ:Rho} {x:Value} (hv:VR ρ v x):VR ρ v' x:=by
 rcases h with rfl | ⟨rfl,⟨A,sz,i,ex,rfl⟩ | ⟨sz,f,rfl⟩⟩
 · exact hv
 · cases hv with
   | l0=>exact .lr0 A sz i ex
 · cases hv with
   | l0=>exact .sv _ _ _ _ (.sv0 _ _)
def OW (o o':Option AObj):Prop:=(o=none/\o'=none)\/∃x x',o=.some x/\o'=.some x'/\(∀ρ p w,BR ρ x p w->BR ρ x' p w)/\(x.void->x'.void)
noncomputable def cellsD (e:TypeId) (dflt l:List AV):AObj:=.cells e l.length dflt (setAll .e 0 l)
noncomputable def cellsO (e:TypeId) (l:List AV):AObj:=.cells e l.length [] (setAll .e 0 l)
def OWL:List (Option AObj)->List (Option AObj)->Prop
 | [],r=>∀o∈r,∃x,o=some x/\x.void
 | a :: l,b :: r=>OW a b/\OWL l r
 | _,_=>False
theorem OWL.get:∀{l r:List (Option AObj)},OWL l r->∀(A:Nat),OW ((l[A]?).join) ((r[A]?).join)\/(l.length<=A/\∃x,(r[A]?).join=some x/\x.void)
 | [],r,h,A=>by
   cases hr:r[A]? with
   | none=>exact .inl (.inl ⟨rfl,rfl⟩)
   | some o=>
     obtain ⟨x,rfl,hx⟩:=h o (List.mem_of_getElem? hr)
     exact .inr ⟨Nat.zero_le _,x,rfl,hx⟩
 | a :: l,b :: r,h,0=>.inl (by simpa using h.1)
 | a :: l,b :: r,h,A+1=>by simpa using OWL.get h.2 A
 | _ :: _,[],h,_=>h.elim
theorem OWL.length:∀{l r:List (Option AObj)},OWL l r->l.length<=r.length
 | [],r,_=>Nat.zero_le _
 | a :: l,b :: r,h=>by simp;exact OWL.length h.2
 | _ :: _,[],h=>h.elim
def TWL:List (Nat×AV)->List (Nat×AV)->Prop
 | [],[]=>True
 | a :: l,b :: r=>a.1=b.1/\AW a.2 b.2/\TWL l r
 | _,_=>False
theorem TWL.get:∀{l r:List (Nat×AV)},TWL l r->∀(t:Nat) (v:AV),(mkT r).get t=some v->∃u,(mkT l).get t=some u/\AW u v
 | [],[],_,t,v,h=>⟨v,h,.inl rfl⟩
 | (a,u) :: l,(b,v) :: r,h,t,w,hw=>by
   obtain ⟨rfl,h2,h3⟩:=h
   have hw':((mkT r).set a (some v)).get t=some w:=hw
   show ∃q,((mkT l).set a (some u)).get t=some q/\AW q w
   rw [T.get_set] at hw'⊢
   by_cases e:t=a
   · rw [if_pos e] at hw'⊢
     simp at hw';subst hw'
     exact ⟨u,rfl,h2⟩
   · rw [if_neg e] at hw'⊢
     exact TWL.get h3 t w hw'
 | [],_ :: _,h,_,_,_=>h.elim
 | _ :: _,[],h,_,_,_=>h.elim
theorem HR.ow {ρ:Rho} {l r:List (Option AObj)} {w:World} (h:HR ρ (mkH l) w) (ho:OWL l r) (hoff:∀A,l.length<=A->ρ A=none):HR ρ (mkH r) w:=by
 have back:∀A o x,(mkH r).get A=some o->ρ A=some x->∃u,(mkH l).get A=some u:=by
  intro A o x hA hx
  rw [mkH_get] at hA
  rcases ho.get A with (⟨h1,h2⟩ | ⟨u,u',h1,h2,_⟩) | ⟨h1,_⟩
  · rw [h2] at hA;simp at hA
  · exact ⟨u,by rw [mkH_get];exact h1⟩
  · rw [hoff A h1] at hx;simp at hx
 refine ⟨?_,?_,h.range,h.ro,?_⟩
 · intro A o hA
   rw [mkH_get] at hA
   rcases ho.get A with (⟨h1,h2⟩ | ⟨u,u',h1,h2,h3,h4⟩) | ⟨h1,x,h2,h3⟩
   · rw [h2] at hA;simp at hA
   · rw [h2] at hA;simp at hA;subst hA
     rcases h.live A u (by rw [mkH_get];exact h1) with ⟨p,hp,hb⟩ | ⟨hv,hn⟩
     · exact .inl ⟨p,hp,h3 _ _ _ hb⟩
     · exact .inr ⟨h4 hv,hn⟩
   · rw [h2] at hA;simp at hA;subst hA
     exact .inr ⟨h3,hoff A h1⟩
 · intro A A' o o' x x' hA hA' hx hx' e
   obtain ⟨u,hu⟩:=back A o x hA hx
   obtain ⟨u',hu'⟩:=back A' o' x' hA' hx'
   exact h.inj A A' u u' x x' hu hu' hx hx' e
 · intro B j v hv A o x hA hx
   obtain ⟨u,hu⟩:=back A o x hA hx
   exact h.rox B j v hv A u x hu hx
theorem LDoes.weak {P:Program} {c:Code} {n b:Nat} {l l0:List (Nat×AV)} {tm':T AV} {objs objs0 objs':List (Option AObj)} {x:XO} (h:LDoes P c n b (mkT l) objs x tm' objs') (ht:TWL l0 l) (ho:OWL objs0 objs):LDoes P c n b (mkT l0) objs0 x tm' objs':=by
 intro r0 hro ρ a w Q htr hh hoff hQ
 refine h r0 hro ρ a w Q ⟨htr.size,fun t v hv=>?_⟩ (hh.ow ho hoff) (fun A hA=>hoff A (Nat.le_trans ho.length hA)) ?_
 · obtain ⟨u,hu,hw⟩:=ht.get t v hv
   exact hw.vr (htr.get t u hu)
 intro a' w' ρ' t1 t2 t3 t4 t5
 refine hQ a' w' ρ' t1 t2 t3 t4 ⟨t5.nm,t5.ro,t5.size,?_,?_,?_,t5.tape,t5.os,t5.output⟩
 · intro B hB hno
   refine t5.frame B hB fun A o p hA hp=>?_
   rw [mkH_get] at hA
   rcases ho.get A with (⟨h1,h2⟩ | ⟨u,u',h1,h2,_⟩) | ⟨h1,_⟩
   · rw [h2] at hA;simp at hA
   · exact hno A u p (by rw [mkH_get];exact h1) hp
   · rw [hoff A h1] at hp;simp at hp
 · intro A o p hA hp
   rcases t5.img A o p hA hp with q | ⟨A0,o0,x0,g0,r0,e0⟩
   · exact .inl q
   · rw [mkH_get] at g0
     rcases ho.get A0 with (⟨h1,h2⟩ | ⟨u,u',h1,h2,_⟩) | ⟨h1,_⟩
     · rw [h2] at g0;simp at g0
     · exact .inr ⟨A0,u,x0,by rw [mkH_get];exact h1,r0,e0⟩
     · rw [hoff A0 h1] at r0;simp at r0
 · intro B j v hv
   rcases t5.roimg B j v hv with q | q | ⟨A0,o0,x0,g0,r0,e0⟩
   · exact .inl q
   · exact .inr (.inl q)
   · rw [mkH_get] at g0
     rcases ho.get A0 with (⟨h1,h2⟩ | ⟨u,u',h1,h2,_⟩) | ⟨h1,_⟩
     · rw [h2] at g0;simp at g0
     · exact .inr (.inr ⟨A0,u,x0,by rw [mkH_get];exact h1,r0,e0⟩)
     · rw [hoff A0 h1] at r0;simp at r0
end Go.Sim
/- Rows that a call leaves frozen, wherever they are named. -/
namespace Go.Sim
open Go
def FL (A:Nat) (z:Frz):List AV->List AV->Prop
 | [],[]=>True
 | a :: l,b :: r=>(b=a\/(b=frz A z a/\frzP A z a/\b.one=true))/\FL A z l r
 | _,_=>False
theorem FL.length {A:Nat} {z:Frz}:∀{l r:List AV},FL A z l r->l.length=r.length
 | [],[],_=>rfl
 | a :: l,b :: r,h=>by simp [FL.length h.2]
 | [],_ :: _,h=>h.elim
 | _ :: _,[],h=>h.elim
theorem FL.get {A:Nat} {z:Frz}:∀{l r:List AV},FL A z l r->∀(i:Nat) (v:AV),r[i]? =some v->∃u,l[i]? =some u/\(v=u\/(v=frz A z u/\frzP A z u/\v.one=true))
 | [],[],_,i,v,h=>by simp at h
 | a :: l,b :: r,h,0,v,hv=>by simp at hv;subst hv;exact ⟨a,rfl,h.1⟩
 | a :: l,b :: r,h,i+1,v,hv=>by simpa using FL.get h.2 i v (by simpa using hv)
 | [],_ :: _,h,_,_,_=>h.elim
 | _ :: _,[],h,_,_,_=>h.elim
def FO (A:Nat) (z:Frz) (o o':Option AObj):Prop:=o=o'\/∃e dflt l l',o=some (cellsD e dflt l)/\o'=some (cellsD e dflt l')/\FL A z l l'
theorem FO.refl {A:Nat} {z:Frz} (o:Option AObj):FO A z o o:=.inl rfl
theorem FO.cells {A:Nat} {z:Frz} {e:TypeId} {l l':List AV} (h:FL A z l l'):FO A z (some (cellsO e l)) (some (cellsO e l')):=.inr ⟨e,[],l,l',rfl,rfl,h⟩
theorem cellsD_at {dflt m:List AV} {i:Nat} (hm:i<m.length):cellAt m.length dflt (setAll .e 0 m) i=m[i]?:=by
 unfold cellAt
 have hb:Nat.blt i m.length=true:=by rw [Nat.blt_eq];exact hm
 rw [hb,setAll_get,if_pos ⟨Nat.zero_le _,by omega⟩]
 simp [List.getElem?_eq_getElem hm]
theorem FO.some {A:Nat} {z:Frz} {o o':Option AObj} (h:FO A z o o') {x':AObj} (hx:o'=.some x'):∃x,o=.some x/\(x.void->x'.void)/\
 ∀(ρ:Rho) p w,(∀B d N,ρ A=.some (B,d,N)->FrzIn ρ.ro B d z)->BR ρ x p w->BR ρ x' p w:=by
 rcases h with rfl | ⟨e,dflt,l,l',rfl,rfl,hl⟩
 · exact ⟨x',hx,fun h=>h,fun _ _ _ _ h=>h⟩
 · simp at hx;subst hx
   refine ⟨_,rfl,fun h=>h,?_⟩
   rintro ρ p w hF ⟨c,fr,h1,h2,h3,h4,h5⟩
   refine ⟨c,fr,h1,h2,h3,by rw [<-hl.length];exact h4,?_⟩
   intro i v hv
   have hi:i<l'.length:=by
    rcases Nat.lt_or_ge i l'.length with q | q
    · exact q
    · unfold cellAt at hv
      have hb:Nat.blt i l'.length=false:=by
       rw [Bool.eq_false_iff,ne_eq,Nat.blt_eq];omega
      rw [hb] at hv;simp at hv
   rw [cellsD_at hi] at hv
   obtain ⟨u,hu,hw⟩:=hl.get i v hv
   obtain ⟨v',k1,k2,k3⟩:=h5 i u (by rw [cellsD_at (by rw [hl.length];exact hi)];exact hu)
   rcases hw with rfl | ⟨rfl,hp,ho⟩
   · exact ⟨v',k1,k2,k3⟩
   · exact ⟨v',k1,frz_VR (.refl _) hF hp k2,ho⟩
def FOL (A:Nat) (z:Frz):Nat->List (Option AObj)->List (Option AObj)->Prop
 | _,[],[]=>True
 | k,a :: l,b :: r=>(match Nat.beq k A with
   | true=>b=none
   | false=>FO A z a b)/\FOL A z (k+1) l r
 | _,_,_=>False
theorem FOL.length {A:Nat} {z:Frz}:∀{k:Nat} {l r:List (Option AObj)},FOL A z k l r->l.length=r.length
 | _,[],[],_=>rfl
 | k,a :: l,b :: r,h=>by simp [FOL.length h.2]
 | _,[],_ :: _,h=>h.elim
 | _,_ :: _,[],h=>h.elim
theorem FOL.get {A:Nat} {z:Frz}:∀{k:Nat} {l r:List (Option AObj)},FOL A z k l r->∀(B:Nat) (x':AObj),(r[B]?).join=some x'->k+B≠A/\FO A z ((l[B]?).join) ((r[B]?).join)
 | _,[],[],_,B,x',h=>by simp at h
 | k,a :: l,b :: r,h,0,x',hx=>by
   simp at hx
   have h1:=h.1
   cases hb:Nat.beq k A with
   | true=>rw [hb] at h1;simp only at h1;rw [h1] at hx;simp at hx
   | false=>
     rw [hb] at h1
     exact ⟨by simpa using Nat.ne_of_beq_eq_false hb,by simpa using h1⟩
 | k,a :: l,b :: r,h,B+1,x',hx=>by
   have:=FOL.get h.2 B x' (by simpa using hx)
   exact ⟨by have:=this.1;omega,by simpa using this.2⟩
 | _,[],_ :: _,h,_,_,_=>h.elim
 | _,_ :: _,[],h,_,_,_=>h.elim
theorem Con.freeze {P:Program} {g:FuncId} {pargs:List AV} {objs:List (Option AObj)} {v v':AV} {us us':List Upd} (A:Nat) {e:TypeId} {sz n:Nat} {f:Nat->Nat->CV} (h:Con P g pargs objs v us)
 (hA:((postL objs us)[A]?).join=some (.rows e sz n f)) (hL:FOL A (.rows sz n f) 0 (postL objs us) (postL objs us')) (hv:(v'=v)\/(v'=frz A (.rows sz n f) v/\frzP A (.rows sz n f) v)):Con P g pargs objs v' us':=by
 intro ρ w args' hva hh hoff
 refine (h ρ w args' hva hh hoff).mono ?_
 rintro e' w' ⟨u,ρ1,rfl,k1,k2,k3⟩
 have hz:frzOf (mkH (postL objs us)) A=some (.rows sz n f):=by
  unfold frzOf
  rw [mkH_get,hA]
 obtain ⟨ρ2,m1,m2,m3,m4,m5⟩:=freeze_ok hz k2 k3
 have hF:∀B d N,ρ2 A=some (B,d,N)->FrzIn ρ2.ro B d (.rows sz n f):=by
  intro B d N hB
  refine m3 B d N ?_
  have:ρ2.nm A=some (B,d,N):=hB
  rw [m1] at this;exact this
 have back:∀B o',(mkH (postL objs us')).get B=some o'->∃o,(((mkH (postL objs us)).upd A none).get B=some o)/\(o.void->o'.void)/\∀p,BR ρ2 o p w'->BR ρ2 o' p w':=by
  intro B o' hB
  rw [mkH_get] at hB
  obtain ⟨q1,q2⟩:=hL.get B o' hB
  obtain ⟨x,hx,hvd,hbr⟩:=q2.some hB
  refine ⟨x,?_,hvd,fun p=>hbr ρ2 p w' hF⟩
  rw [AH.get_upd,if_neg (by omega),mkH_get];exact hx
 refine ⟨u,ρ2,rfl,?_,⟨?_,?_,m4.range,m4.ro,?_⟩,⟨?_,m5.ext,?_,m5.size,m5.frame,?_,m5.roimg,m5.tape,m5.os,m5.output⟩⟩
 · rcases hv with rfl | ⟨rfl,hp⟩
   · exact k1.mono m2
   · exact frz_VR m2 m3 hp k1
 · intro B o' hB
   obtain ⟨o,h1,h2,h3⟩:=back B o' hB
   rcases m4.live B o h1 with ⟨p,hp,hb⟩ | ⟨hv,hn⟩
   · exact .inl ⟨p,hp,h3 p hb⟩
   · exact .inr ⟨h2 hv,hn⟩
 · intro B B' o o' x x' hB hB' hx hx' he
   obtain ⟨q,h1,_⟩:=back B o hB
   obtain ⟨q',h1',_⟩:=back B' o' hB'
   exact m4.inj B B' q q' x x' h1 h1' hx hx' he
 · intro B j v hv C o x hC hx
   obtain ⟨q,h1,_⟩:=back C o hC
   exact m4.rox B j v hv C q x h1 hx
 · have:=m5.next
   show objs.length<=(postL objs us').length
   rw [<-hL.length];exact this
 · intro B x hB
   have:=m5.dom B x hB
   rcases this with q | ⟨q1,q2⟩
   · exact .inl q
   · refine .inr ⟨q1,?_⟩
     show B<(postL objs us').length
     rw [<-hL.length];exact q2
 · intro B o x hB hx
   obtain ⟨q,h1,_⟩:=back B o hB
   exact m5.img B q x h1 hx
def VW (v v':AV):Prop:=(v.one=true->v'.one=true)/\∀(ρ:Rho) (x:Value),VR ρ v x->VR ρ v' x
theorem VW.refl (v:AV):VW v v:=⟨fun h=>h,fun _ _ h=>h⟩
theorem VW.sv {sz n:Nat} {f f':Nat->Nat->CV} (h:∀i j,i<n->j<sz->f i j=f' i j):VW (.sv sz n f) (.sv sz n f'):=by
 refine ⟨fun h=>h,?_⟩
 intro ρ x hx
 cases hx with
 | sv _ _ _ _ hc=>
   refine .sv _ _ _ _ ?_
   cases hc with
   | sv0=>exact .sv0 _ _
   | svz=>exact .svz _ _ _ _
   | sv _ _ _ B o cap k h1 h2 h3=>exact .sv _ _ _ B o cap k h1 h2 fun i j a b=>by rw [<-h i j a b];exact h3 i j a b
theorem VW.nil (sz:Nat) (f:Nat->Nat->CV):VW .l0 (.sv sz 0 f):=by
 refine ⟨fun _=>rfl,?_⟩
 intro ρ x hx
 cases hx with
 | l0=>exact .sv _ _ _ _ (.sv0 _ _)
def VWL:List AV->List AV->Prop
 | [],[]=>True
 | a :: l,b :: r=>VW a b/\VWL l r
 | _,_=>False
theorem VWL.length:∀{l r:List AV},VWL l r->l.length=r.length
 | [],[],_=>rfl
 | a :: l,b :: r,h=>by simp [VWL.length h.2]
 | [],_ :: _,h=>h.elim
 | _ :: _,[],h=>h.elim
theorem VWL.get:∀{l r:List AV},VWL l r->∀(i:Nat) (v:AV),r[i]? =some v->∃u,l[i]? =some u/\VW u v
 | [],[],_,i,v,h=>by simp at h
 | a :: l,b :: r,h,0,v,hv=>by simp at hv;subst hv;exact ⟨a,rfl,h.1⟩
 | a :: l,b :: r,h,i+1,v,hv=>by simpa using VWL.get h.2 i v (by simpa using hv)
 | [],_ :: _,h,_,_,_=>h.elim
 | _ :: _,[],h,_,_,_=>h.elim
theorem VWL.vrs {ρ:Rho}:∀{l r:List AV} {vs:List Value},VWL l r->VRs ρ l vs->VRs ρ r vs
 | [],[],_,_,h=>h
 | a :: l,b :: r,vs,h,hv=>by
   cases hv with
   | cons _ _ _ _ h1 h2=>exact .cons _ _ _ _ (h.1.2 _ _ h1) (VWL.vrs h.2 h2)
 | [],_ :: _,_,h,_=>h.elim
 | _ :: _,[],_,h,_=>h.elim
def CW (c c':CV):Prop:=∀(ro:Nat->Nat->Option Value) (v:Value),CR ro c v->CR ro c' v
theorem CW.refl (c:CV):CW c c:=fun _ _ h=>h
theorem CW.of {c c':CV} (h:c=c'):CW c c':=fun _ _ q=>h▸q
theorem CW.opv {b:Bool} {sz:Nat} {f f':Nat->CV} (h:b=true->∀j,j<sz->CW (f j) (f' j)):CW (.opv b sz f) (.opv b sz f'):=by
 intro ro v hv
 cases hv with
 | op0=>exact .op0 _ _
 | op1 _ _ B o g a1 a2=>exact .op1 _ _ B o g a1 fun j hj=>h rfl j hj ro _ (a2 j hj)
theorem CW.sv {sz n:Nat} {f f':Nat->Nat->CV} (h:∀i j,i<n->j<sz->CW (f i j) (f' i j)):CW (.sv sz n f) (.sv sz n f'):=by
 intro ro v hv
 cases hv with
 | sv0=>exact .sv0 _ _
 | svz=>exact .svz _ _ _ _
 | sv _ _ _ B o cap k h1 h2 h3=>exact .sv _ _ _ B o cap k h1 h2 fun i j a b=>h i j a b ro _ (h3 i j a b)
theorem VW.svW {sz n:Nat} {f f':Nat->Nat->CV} (h:∀i j,i<n->j<sz->CW (f i j) (f' i j)):VW (.sv sz n f) (.sv sz n f'):=by
 refine ⟨fun h=>h,?_⟩
 intro ρ x hx
 cases hx with
 | sv _ _ _ _ hc=>exact .sv _ _ _ _ (CW.sv h _ _ hc)
def OX (o o':Option AObj):Prop:=∀x',o'=some x'->∃x,o=some x/\(x.void->x'.void)/\∀(ρ:Rho) p w,BR ρ x p w->BR ρ x' p w
def OV (o o':Option AObj):Prop:=o=o'\/(∃e dflt l l',o=some (cellsD e dflt l)/\o'=some (cellsD e dflt l')/\VWL l l')\/OX o o'
theorem OV.refl (o:Option AObj):OV o o:=.inl rfl
theorem OV.cells {e:TypeId} {l l':List AV} (h:VWL l l'):OV (some (cellsO e l)) (some (cellsO e l')):=.inr (.inl ⟨e,[],l,l',rfl,rfl,h⟩)
theorem OV.cellsD {e:TypeId} {dflt l l':List AV} (h:VWL l l'):OV (some (Sim.cellsD e dflt l)) (some (Sim.cellsD e dflt l')):=.inr (.inl ⟨e,dflt,l,l',rfl,rfl,h⟩)
theorem OV.x {o o':Option AObj} (h:OX o o'):OV o o':=.inr (.inr h)
theorem OV.some {o o':Option AObj} (h:OV o o') {x':AObj} (hx:o'=.some x'):∃x,o=.some x/\(x.void->x'.void)/\∀(ρ:Rho) p w,BR ρ x p w->BR ρ x' p w:=by
 rcases h with rfl | ⟨e,dflt,l,l',rfl,rfl,hl⟩ | hX
 · exact ⟨x',hx,fun h=>h,fun _ _ _ h=>h⟩
 · simp at hx;subst hx
   refine ⟨_,rfl,fun h=>h,?_⟩
   rintro ρ p w ⟨c,fr,h1,h2,h3,h4,h5⟩
   refine ⟨c,fr,h1,h2,h3,by rw [<-hl.length];exact h4,?_⟩
   intro i v hv
   have hi:i<l'.length:=by
    rcases Nat.lt_or_ge i l'.length with q | q
    · exact q
    · unfold cellAt at hv
      have hb:Nat.blt i l'.length=false:=by
       rw [Bool.eq_false_iff,ne_eq,Nat.blt_eq];omega
      rw [hb] at hv;simp at hv
   rw [cellsD_at hi] at hv
   obtain ⟨u,hu,hw⟩:=hl.get i v hv
   obtain ⟨v',k1,k2,k3⟩:=h5 i u (by rw [cellsD_at (by rw [hl.length];exact hi)];exact hu)
   exact ⟨v',k1,hw.2 _ _ k2,hw.1 k3⟩
 · exact hX x' hx
theorem OV.rowsW {e:TypeId} {sz n:Nat} {f f':Nat->Nat->CV} (h:∀i j,i<n->j<sz->CW (f i j) (f' i j)):OV (.some (.rows e sz n f)) (.some (.rows e sz n f')):=by
 refine .x ?_
 intro x' hx
 simp only [Option.some.injEq] at hx;subst hx
 refine ⟨_,rfl,fun h=>h,?_⟩
 rintro ρ p w ⟨c,fr,h1,h2,h3,h4,h5⟩
 refine ⟨c,fr,h1,h2,h3,h4,fun i j hi hj=>?_⟩
 obtain ⟨v',k1,k2⟩:=h5 i j hi hj
 exact ⟨v',k1,h i j hi hj _ _ k2⟩
def OVL:List (Option AObj)->List (Option AObj)->Prop
 | [],[]=>True
 | a :: l,b :: r=>OV a b/\OVL l r
 | _,_=>False
theorem OVL.refl:∀(l:List (Option AObj)),OVL l l
 | []=>trivial
 | a :: l=>⟨.refl a,OVL.refl l⟩
theorem OVL.length:∀{l r:List (Option AObj)},OVL l r->l.length=r.length
 | [],[],_=>rfl
 | a :: l,b :: r,h=>by simp [OVL.length h.2]
 | [],_ :: _,h=>h.elim
 | _ :: _,[],h=>h.elim
theorem OVL.get:∀{l r:List (Option AObj)},OVL l r->∀(A:Nat),OV ((l[A]?).join) ((r[A]?).join)
 | [],[],_,A=>.inl rfl
 | a :: l,b :: r,h,0=>by simpa using h.1
 | a :: l,b :: r,h,A+1=>by simpa using OVL.get h.2 A
 | [],_ :: _,h,_=>h.elim
 | _ :: _,[],h,_=>h.elim
theorem HR.ov {ρ:Rho} {l r:List (Option AObj)} {w:World} (h:HR ρ (mkH l) w) (ho:OVL l r):HR ρ (mkH r) w:=by
 have back:∀A o,(mkH r).get A=some o->∃u,(mkH l).get A=some u/\(u.void->o.void)/\∀p,BR ρ u p w->BR ρ o p w:=by
  intro A o hA
  rw [mkH_get] at hA
  obtain ⟨x,hx,h1,h2⟩:=(ho.get A).some hA
  exact ⟨x,by rw [mkH_get];exact hx,h1,fun p=>h2 ρ p w⟩
 refine ⟨?_,?_,h.range,h.ro,?_⟩
 · intro A o hA
   obtain ⟨u,h1,h2,h3⟩:=back A o hA
   rcases h.live A u h1 with ⟨p,hp,hb⟩ | ⟨hv,hn⟩
   · exact .inl ⟨p,hp,h3 p hb⟩
   · exact .inr ⟨h2 hv,hn⟩
 · intro A A' o o' x x' hA hA' hx hx' e
   obtain ⟨u,h1,_⟩:=back A o hA
   obtain ⟨u',h1',_⟩:=back A' o' hA'
   exact h.inj A A' u u' x x' h1 h1' hx hx' e
 · intro B j v hv A o x hA hx
   obtain ⟨u,h1,_⟩:=back A o hA
   exact h.rox B j v hv A u x h1 hx
theorem Con.post {P:Program} {g:FuncId} {pargs:List AV} {objs:List (Option AObj)} {v v':AV} {us us':List Upd} (h:Con P g pargs objs v us) (hv:VW v v') (hp:OVL (postL objs us) (postL objs us')):Con P g pargs objs v' us':=by
 intro ρ w args' hva hh hoff
 refine (h ρ w args' hva hh hoff).mono ?_
 rintro e w' ⟨u,ρ',rfl,k1,k2,k3⟩
 refine ⟨u,ρ',rfl,hv.2 _ _ k1,k2.ov hp,⟨?_,k3.ext,?_,k3.size,k3.frame,?_,k3.roimg,k3.tape,k3.os,k3.output⟩⟩
 · show objs.length<=(postL objs us').length
   rw [<-hp.length];exact k3.next
 · intro B x hB
   rcases k3.dom B x hB with q | ⟨q1,q2⟩
   · exact .inl q
   · refine .inr ⟨q1,?_⟩
     show B<(postL objs us').length
     rw [<-hp.length];exact q2
 · intro B o x hB hx
   rw [mkH_get] at hB
   obtain ⟨y,hy,_⟩:=(hp.get B).some hB
   exact k3.img B y x (by rw [mkH_get];exact hy) hx
theorem Con.pre {P:Program} {g:FuncId} {pargs pargs':List AV} {objs:List (Option AObj)} {v:AV} {us:List Upd} (h:Con P g pargs objs v us) (ha:VWL pargs' pargs):Con P g pargs' objs v us:=by
 intro ρ w args' hva hh hoff
 exact h ρ w args' (ha.vrs hva) hh hoff
theorem appZ_i {n:Nat} {f g:Nat->Nat->CV} {i j:Nat} {k:IntKind} {a b:Int} (h1:f i j=.i k a) (h2:g (i-n) j=.i k b):appZ n f g i j=.i k (if i<n then a else b):=by
 cases n with
 | zero=>
   rw [if_neg (Nat.not_lt_zero _)]
   exact h2
 | succ n=>
   show zipCV (Nat.blt i (n+1)) (f i j) (g (i-(n+1)) j)= _
   rw [h1,h2]
   by_cases h:i<n+1
   · have:Nat.blt i (n+1)=true:=by rw [Nat.blt_eq];exact h
     rw [this,if_pos h];simp [zipCV]
   · have:Nat.blt i (n+1)=false:=by rw [Bool.eq_false_iff,ne_eq,Nat.blt_eq];exact h
     rw [this,if_neg h];simp [zipCV]
theorem ret_is {objs:List (Option AObj)} {v v1:AV} {us:List Upd} {τ:List Nat} {H1:AH} (hv:v1=ren (nameIn (natsTo objs.length ++ τ) H1.next) v) (hbel:below us.length v=true) (hnd:nodupB (natsTo objs.length ++ τ)=true)
 (hlt:allLt H1.next (natsTo objs.length ++ τ)=true) (hlen:objs.length+τ.length=us.length) (hall:HasAll (nameIn (natsTo objs.length ++ τ) H1.next) us.length H1 (natsTo objs.length ++ τ) (postL objs us)):RetIs objs v us [] τ v1 H1:=
 ⟨H1,True,by simp only [frzAll,hv],trivial,hbel,hnd,hlt,hlen,hall⟩
noncomputable def hasL (k:Nat) (H:AH):List Nat->List (Option AObj)->List (Option AObj×Bool)
 | B :: σ,some o :: r=>(H.get B,belowO k o) :: hasL k H σ r
 | _ :: σ,none :: r=>hasL k H σ r
 | _,_=>[]
noncomputable def hasR (f:Nat->Nat):List Nat->List (Option AObj)->List (Option AObj×Bool)
 | _ :: σ,some o :: r=>(some (renO f o),true) :: hasR f σ r
 | _ :: σ,none :: r=>hasR f σ r
 | _,_=>[]
theorem hasAll_of {f:Nat->Nat} {k:Nat} {H:AH}:∀{σ:List Nat} {objs:List (Option AObj)},Nat.beq σ.length objs.length=true->hasL k H σ objs=hasR f σ objs->HasAll f k H σ objs
 | [],[],_,_=>trivial
 | B :: σ,some o :: r,hl,h=>by
   have h:(H.get B,belowO k o) :: hasL k H σ r=(some (renO f o),true) :: hasR f σ r:=h
   obtain ⟨h1,h2⟩:=List.cons.inj h
   exact ⟨(Prod.mk.inj h1).1,(Prod.mk.inj h1).2,hasAll_of hl h2⟩
 | B :: σ,none :: r,hl,h=>hasAll_of (σ:=σ) (objs:=r) hl h
 | [],_ :: _,hl,_=>by cases hl
 | _ :: _,[],hl,_=>by cases hl
theorem ret_k {objs:List (Option AObj)} {v v1:AV} {us:List Upd} {τ:List Nat} {H1:AH}
 (h:(v1,below us.length v,nodupB (natsTo objs.length ++ τ),allLt H1.next (natsTo objs.length ++ τ),Nat.beq (objs.length+τ.length) us.length,Nat.beq (natsTo objs.length ++ τ).length (postL objs us).length,hasL us.length H1 (natsTo objs.length ++ τ) (postL objs us)) =
   (ren (nameIn (natsTo objs.length ++ τ) H1.next) v,true,true,true,true,true,hasR (nameIn (natsTo objs.length ++ τ) H1.next) (natsTo objs.length ++ τ) (postL objs us))):RetIs objs v us [] τ v1 H1:=by
 simp only [Prod.mk.injEq] at h
 obtain ⟨h1,h2,h3,h4,h5,h6,h7⟩:=h
 exact ret_is h1 h2 h3 h4 (Nat.eq_of_beq_eq_true h5) (hasAll_of h6 h7)
theorem st_k {b:Nat} {tm1:T AV} {H1:AH} {l:List (Nat×AV)} {objs:List (Option AObj)} (σ:List Nat)
 (h:(getTs tm1 (l.map (·.1)),belows objs.length (l.map (·.2)),nodupB σ,allLt H1.next σ,Nat.beq σ.length objs.length,hasL objs.length H1 σ objs,σ.take b) =
   (some (rens (nameIn σ H1.next) (l.map (·.2))),true,true,true,true,hasR (nameIn σ H1.next) σ objs,natsTo b)):StIs b σ [] tm1 H1 l objs:=by
 simp only [Prod.mk.injEq] at h
 obtain ⟨h1,h2,h3,h4,h5,h6,h7⟩:=h
 exact st_is σ h1 h2 h3 h4 (hasAll_of h5 h6) h7
noncomputable def oc:Nat->Orc->Orc
 | 0,o=>o
 | n+1,o=>.c (oc n o)
noncomputable def frzG (fz:List Nat) (H:AH) (v:AV):AV×AH×Prop:=(frzAll fz H v).getD (v,H,False)
theorem ret_fz {objs:List (Option AObj)} {v v1:AV} {us:List Upd} {τ:List Nat} {H1:AH} (fz:List Nat) (p:Prop) (hs:(frzAll fz H1 v1).isSome=true) (hpe:(frzG fz H1 v1).2.2=p) (hp:p)
 (hv:(frzG fz H1 v1).1=ren (nameIn (natsTo objs.length ++ τ) (frzG fz H1 v1).2.1.next) v) (hbel:below us.length v=true) (hnd:nodupB (natsTo objs.length ++ τ)=true)
 (hlt:allLt (frzG fz H1 v1).2.1.next (natsTo objs.length ++ τ)=true) (hlen:objs.length+τ.length=us.length)
 (hall:HasAll (nameIn (natsTo objs.length ++ τ) (frzG fz H1 v1).2.1.next) us.length (frzG fz H1 v1).2.1 (natsTo objs.length ++ τ) (postL objs us)):RetIs objs v us fz τ v1 H1:=by
 obtain ⟨z,hz⟩:=Option.isSome_iff_exists.1 hs
 have e:frzG fz H1 v1=z:=by unfold frzG;rw [hz];rfl
 rw [e] at hpe hv hlt hall
 subst hpe
 exact ⟨z.2.1,z.2.2,by rw [hz,<-hv],hp,hbel,hnd,hlt,hlen,hall⟩
theorem LDoes.pre {P:Program} {c:Code} {n b:Nat} {l l0:List (Nat×AV)} {tm':T AV} {objs objs0 objs':List (Option AObj)} {x:XO} (h:LDoes P c n b (mkT l) objs x tm' objs')
 (hc:∀ρ (ts:Array Value) w,TR ρ (mkT l0) n ts->HR ρ (mkH objs0) w->(∀A,objs0.length<=A->ρ A=none)->∃ρ',TR ρ' (mkT l) n ts/\HR ρ' (mkH objs) w/\(∀A,objs.length<=A->ρ' A=none)/\ExtB b ρ (mkH objs0) w ρ' (mkH objs) w):LDoes P c n b (mkT l0) objs0 x tm' objs':=by
 intro r0 hro ρ a w Q ht hh hoff hQ
 obtain ⟨ρ',k1,k2,k3,k4⟩:=hc ρ a.tmps w ht hh hoff
 exact h r0 hro ρ' a w Q k1 k2 k3 fun a' w' ρ'' t1 t2 t3 t4 t5=>hQ a' w' ρ'' t1 t2 t3 t4 (k4.trans t5)
theorem OX.cellsRows {e:TypeId} {l:List AV} {n:Nat} {f:Nat->CV} (hl:l.length=n) (h:∀i,i<n->∃v,l[i]? =some v/\∀(ρ:Rho) (x:Value),VR ρ v x->CR ρ.ro (f i) x) :
 OX (some (cellsO e l)) (some (.rows e 1 n fun i _=>f i)):=by
 intro x' hx
 simp only [Option.some.injEq] at hx;subst hx
 refine ⟨_,rfl,fun h=>h.elim,?_⟩
 rintro ρ p w ⟨c,fr,h1,h2,h3,h4,h5⟩
 refine ⟨c,fr,h1,h2,h3,by rw [<-hl];omega,fun i j hi hj=>?_⟩
 obtain ⟨v,q1,q2⟩:=h i hi
 obtain ⟨v',m1,m2,_⟩:=h5 i v (by rw [cellsD_at (by omega)];exact q1)
 exact ⟨v',by rw [show p.2.1+i*1+j=p.2.1+i by omega];exact m1,q2 ρ v' m2⟩
def TVL:List (Nat×AV)->List (Nat×AV)->Prop
 | [],[]=>True
 | a :: l,b :: r=>a.1=b.1/\(∀(ρ:Rho) (x:Value),VR ρ a.2 x->VR ρ b.2 x)/\TVL l r
 | _,_=>False
theorem TVL.get:∀{l r:List (Nat×AV)},TVL l r->∀(t:Nat) (v:AV),(mkT r).get t=some v->∃u,(mkT l).get t=some u/\∀(ρ:Rho) (x:Value),VR ρ u x->VR ρ v x
 | [],[],_,t,v,h=>⟨v,h,fun _ _ h=>h⟩
 | (a,u) :: l,(b,v) :: r,h,t,w,hw=>by
   obtain ⟨rfl,h2,h3⟩:=h
   have hw':((mkT r).set a (some v)).get t=some w:=hw
   show ∃q,((mkT l).set a (some u)).get t=some q/\_
   rw [T.get_set] at hw'⊢
   by_cases e:t=a
   · rw [if_pos e] at hw'⊢
     simp at hw';subst hw'
     exact ⟨u,rfl,h2⟩
   · rw [if_neg e] at hw'⊢
     exact TVL.get h3 t w hw'
 | [],_ :: _,h,_,_,_=>h.elim
 | _ :: _,[],h,_,_,_=>h.elim
theorem VR.l_lr {ρ:Rho} {A len cap sz:Nat} {ex:Bool} {x:Value} (h:VR ρ (.l A 0 len cap sz ex) x):VR ρ (.lr A sz 0 len false) x:=by
 cases h with
 | l _ _ _ _ _ _ B d N cap' hr b1 b2 b3 b4=>
   have:=VR.lr (ρ:=ρ) A sz 0 len false B d N cap' hr (Nat.le_trans b4 b1) (fun q=>by simp at q) (by omega)
   simpa using this
end Go.Sim
/- Loops whose state may be told less exactly behind each round. -/
namespace Go.Sim
open Go
theorem ExtB.ov {b:Nat} {ρ ρ':Rho} {H:AH} {l r:List (Option AObj)} {w w':World} (h:ExtB b ρ H w ρ' (mkH l) w') (ho:OVL l r):ExtB b ρ H w ρ' (mkH r) w':=by
 refine ⟨h.nm,h.ro,h.size,h.frame,?_,h.roimg,h.tape,h.os,h.output⟩
 intro A o x hA hx
 rw [mkH_get] at hA
 obtain ⟨u,hu,_⟩:=(ho.get A).some hA
 exact h.img A u x (by rw [mkH_get];exact hu) hx
theorem TVL.refl:∀(l:List (Nat×AV)),TVL l l
 | []=>trivial
 | a :: l=>⟨rfl,fun _ _ h=>h,TVL.refl l⟩
theorem TVL.tr {ρ:Rho} {l r:List (Nat×AV)} {n:Nat} {ts:Array Value} (h:TVL l r) (ht:TR ρ (mkT l) n ts):TR ρ (mkT r) n ts:=by
 refine ⟨ht.size,fun t v hv=>?_⟩
 obtain ⟨u,hu,hw⟩:=h.get t v hv
 exact hw _ _ (ht.get t u hu)
def RoundV {D:Type} (b:Nat) (I:D->List (Nat×AV)×List (Option AObj)) (μ:D->Nat) (inv:D->Prop) (x:XO) (l':List (Nat×AV)) (objs':List (Option AObj)) (d:D) (r:Res):Prop:=
 (∃d' σ fz tm1 H1 l1 objs1,inv d'/\μ d'<μ d/\r=.st .nrm tm1 H1/\StIs b σ fz tm1 H1 l1 objs1/\TVL l1 (I d').1/\OVL objs1 (I d').2)\/
   (∃σ fz tm1 H1 l1 objs1,r=.st x tm1 H1/\x≠.nrm/\StIs b σ fz tm1 H1 l1 objs1/\TVL l1 l'/\OVL objs1 objs')
theorem loop_indQ {D:Type} {P:Program} {c:Code} {n b:Nat} {x:XO} {l':List (Nat×AV)} {objs':List (Option AObj)} (I:D->List (Nat×AV)×List (Option AObj)) (μ:D->Nat) (inv:D->Prop)
 (round:∀d,inv d->b<=(I d).2.length/\∃f o K,runK P f (.code c n (mkT (I d).1) (mkH (I d).2)) o K/\∀r o',K r o'->RoundV b I μ inv x l' objs' d r) :
 ∀d,inv d->LDoes P c n b (mkT (I d).1) (I d).2 x (mkT l') objs':=by
 suffices h:∀m d,μ d=m->inv d->LDoes P c n b (mkT (I d).1) (I d).2 x (mkT l') objs' from fun d hd=>h _ d rfl hd
 intro m
 induction m using Nat.strongRecOn with
 | _ m ih=>
 intro d hm hd
 obtain ⟨hb,f,o,K,hrun,hK⟩:=round d hd
 obtain ⟨r,o',hr,hdoes⟩:=runK_ok P f _ _ _ hrun
 have hr:=hK r o' hr
 intro r0 hro ρ a w Q ht hh hoff hQ
 rcases hr with ⟨d',σ,fz,tm1,H1,l1,objs1,hi,hmu,rfl,hst,htv,hov⟩ | ⟨σ,fz,tm1,H1,l1,objs1,rfl,hx,hst,htv,hov⟩
 · refine hdoes.2 r0 hro ρ a w _ ht hh (fun A q _=>hoff A q) ?_
   intro a1 w1 ρ1 ht1 hd1 hh1 he1
   obtain ⟨ρ2,k1,k2,k3,k4⟩:=st_ok hst hb ht1 hh1 he1
   refine loopWp_of (ih (μ d') (by omega) d' rfl hi r0 hro ρ2 a1 w1 Q (htv.tr k1) (k2.ov hov) (fun A hA=>k3 A (by rw [hov.length];exact hA)) ?_)
   intro a2 w2 ρ3 q1 q2 q3 q4 q5
   exact hQ a2 w2 ρ3 q1 (hd1.trans q2 (k2.ov hov) he1.size q5.frame) q3 q4 ((k4.ov hov).trans q5)
 · refine hdoes.2 r0 hro ρ a w _ ht hh (fun A q _=>hoff A q) ?_
   intro a1 w1 ρ1 ht1 hd1 hh1 he1
   obtain ⟨ρ2,k1,k2,k3,k4⟩:=st_ok hst hb ht1 hh1 he1
   have:=hQ a1 w1 ρ2 (htv.tr k1) hd1 (k2.ov hov) (fun A hA=>k3 A (by rw [hov.length];exact hA)) (k4.ov hov)
   cases x with
   | nrm=>exact absurd rfl hx
   | exit id=>exact this
   | ret=>exact this
theorem loop_indV {D:Type} {P:Program} {c:Code} {n b:Nat} {x:XO} {l':List (Nat×AV)} {objs':List (Option AObj)} (I:D->List (Nat×AV)×List (Option AObj)) (μ:D->Nat) (inv:D->Prop)
 (round:∀d,inv d->b<=(I d).2.length/\∃f o,runK P f (.code c n (mkT (I d).1) (mkH (I d).2)) o fun r _=>RoundV b I μ inv x l' objs' d r) :
 ∀d,inv d->LDoes P c n b (mkT (I d).1) (I d).2 x (mkT l') objs':=
 loop_indQ I μ inv fun d hd=>(round d hd).imp id fun ⟨f,o,h⟩=>⟨f,o,_,h,fun _ _ q=>q⟩
def retQ (objs:List (Option AObj)) (us:List Upd) (v:AV) (τ:List Nat) (r:Res):Prop:=match r with
 | .rv v1 H1=>(v1,below us.length v,nodupB (natsTo objs.length ++ τ),allLt H1.next (natsTo objs.length ++ τ),Nat.beq (objs.length+τ.length) us.length,Nat.beq (natsTo objs.length ++ τ).length (postL objs us).length,hasL us.length H1 (natsTo objs.length ++ τ) (postL objs us)) =
    (ren (nameIn (natsTo objs.length ++ τ) H1.next) v,true,true,true,true,true,hasR (nameIn (natsTo objs.length ++ τ) H1.next) (natsTo objs.length ++ τ) (postL objs us))
 | _=>False
noncomputable abbrev rtP (objs:List (Option AObj)) (us:List Upd) (v:AV) (τ:List Nat) (nx:Nat):AV×Bool×Bool×Bool×Bool×Bool×List (Option AObj×Bool):=
 (ren (nameIn (natsTo objs.length ++ τ) nx) v,true,true,true,true,true,hasR (nameIn (natsTo objs.length ++ τ) nx) (natsTo objs.length ++ τ) (postL objs us))
abbrev VQ (P:Program) (g:FuncId) (pargs:List AV) (objs:List (Option AObj)) (o:Orc) (v:AV) (us:List Upd) (τ:List Nat) (nx:Nat) (C:Prop->Prop):Prop:=
 runK P 1000000 (.call g pargs (mkH objs)) o (fun r _=>retQ objs us v τ r)=C (rtP objs us v τ nx=rtP objs us v τ nx)
theorem con_q {P:Program} {g:FuncId} {pargs:List AV} {objs:List (Option AObj)} {o:Orc} {v:AV} {us:List Upd} {τ:List Nat} {nx:Nat} {C:Prop->Prop} (h:VQ P g pargs objs o v us τ nx C) (hc:C (rtP objs us v τ nx=rtP objs us v τ nx)):Con P g pargs objs v us:=by
 obtain ⟨r,o',hr,hd⟩:=runK_ok P 1000000 _ _ _ (h.mpr hc)
 cases r with
 | rv v1 H1=>exact con_of_does (ret_k hr) hd
 | _=>exact hr.elim
def stQ (x:XO) (b:Nat) (σ:List Nat) (l:List (Nat×AV)) (objs:List (Option AObj)) (r:Res):Prop:=match r with
 | .st x1 tm1 H1=>(x1,getTs tm1 (l.map (·.1)),belows objs.length (l.map (·.2)),nodupB σ,allLt H1.next σ,Nat.beq σ.length objs.length,hasL objs.length H1 σ objs,σ.take b) =
    (x,some (rens (nameIn σ H1.next) (l.map (·.2))),true,true,true,true,hasR (nameIn σ H1.next) σ objs,natsTo b)
 | _=>False
noncomputable abbrev stP (x:XO) (b:Nat) (σ:List Nat) (l:List (Nat×AV)) (objs:List (Option AObj)) (nx:Nat):XO×Option (List AV)×Bool×Bool×Bool×Bool×List (Option AObj×Bool)×List Nat:=
 (x,some (rens (nameIn σ nx) (l.map (·.2))),true,true,true,true,hasR (nameIn σ nx) σ objs,natsTo b)
abbrev LQ (P:Program) (c:Code) (n b:Nat) (l0:List (Nat×AV)) (objs0:List (Option AObj)) (o:Orc) (x:XO) (σ:List Nat) (l:List (Nat×AV)) (objs:List (Option AObj)) (nx:Nat) (C:Prop->Prop):Prop:=
 runK P 1000000 (.code c n (mkT l0) (mkH objs0)) o (fun r _=>stQ x b σ l objs r)=C (stP x b σ l objs nx=stP x b σ l objs nx)
theorem stQ_is {x:XO} {b:Nat} {σ:List Nat} {l:List (Nat×AV)} {objs:List (Option AObj)} {r:Res} (h:stQ x b σ l objs r):∃tm1 H1,r=.st x tm1 H1/\StIs b σ [] tm1 H1 l objs:=by
 cases r with
 | st x1 tm1 H1=>
   have e:x1=x:=congrArg Prod.fst h
   have e2:=congrArg Prod.snd h
   subst e
   exact ⟨tm1,H1,rfl,st_k σ e2⟩
 | _=>exact h.elim
end Go.Sim
/- A contract whose argument is a row that nobody writes any more. -/
namespace Go.Sim
open Go
theorem FL.vrs {ρ ρ':Rho} {A:Nat} {z:Frz} (hle:Rho.le ρ ρ') (hA:∀B d N,ρ A=some (B,d,N)->FrzIn ρ'.ro B d z):∀{l r:List AV} {vs:List Value},FL A z l r->VRs ρ l vs->VRs ρ' r vs
 | [],[],_,_,h=>by cases h;exact .nil
 | a :: l,b :: r,_,h,hv=>by
   cases hv with | cons _ v _ vs h1 h2=>
   refine .cons _ v _ vs ?_ (FL.vrs hle hA h.2 h2)
   rcases h.1 with rfl | ⟨rfl,hp,_⟩
   · exact h1.mono hle
   · exact frz_VR hle hA hp h1
 | [],_ :: _,_,h,_=>h.elim
 | _ :: _,[],_,h,_=>h.elim
theorem Con.thawZ {P:Program} {g:FuncId} {pargs pargs0:List AV} {objs objs0:List (Option AObj)} {v:AV} {us us0:List Upd} (h:Con P g pargs objs v us) (A:Nat) {z:Frz}
 (hz:frzOf (mkH objs0) A=some z) (hL:FOL A z 0 objs0 objs) (ha:FL A z pargs0 pargs) (hp:postL objs0 us0=postL objs us):Con P g pargs0 objs0 v us0:=by
 intro ρ w args' hva hh hoff
 obtain ⟨ρ2,m1,m2,m3,m4,m5⟩:=freeze_ok hz hh (Ext.refl ρ (mkH objs0) w)
 have hF:∀B d N,ρ2 A=some (B,d,N)->FrzIn ρ2.ro B d z:=by
  intro B d N hB
  refine m3 B d N ?_
  have:ρ2.nm A=some (B,d,N):=hB
  rw [m1] at this;exact this
 have back:∀B o',(mkH objs).get B=some o'->∃o,(((mkH objs0).upd A none).get B=some o)/\(o.void->o'.void)/\∀p,BR ρ2 o p w->BR ρ2 o' p w:=by
  intro B o' hB
  rw [mkH_get] at hB
  obtain ⟨q1,q2⟩:=hL.get B o' hB
  obtain ⟨x,hx,hvd,hbr⟩:=q2.some hB
  refine ⟨x,?_,hvd,fun p=>hbr ρ2 p w hF⟩
  rw [AH.get_upd,if_neg (by omega),mkH_get];exact hx
 have hh2:HR ρ2 (mkH objs) w:=by
  refine ⟨?_,?_,m4.range,m4.ro,?_⟩
  · intro B o' hB
    obtain ⟨o,h1,h2,h3⟩:=back B o' hB
    rcases m4.live B o h1 with ⟨p,hp,hb⟩ | ⟨hv,hn⟩
    · exact .inl ⟨p,hp,h3 p hb⟩
    · exact .inr ⟨h2 hv,hn⟩
  · intro B B' o o' x x' hB hB' hx hx' he
    obtain ⟨q,h1,_⟩:=back B o hB
    obtain ⟨q',h1',_⟩:=back B' o' hB'
    exact m4.inj B B' q q' x x' h1 h1' hx hx' he
  · intro B j v hv C o x hC hx
    obtain ⟨q,h1,_⟩:=back C o hC
    exact m4.rox B j v hv C q x h1 hx
 have hx2:Ext ρ (mkH objs0) w ρ2 (mkH objs) w:=by
  refine ⟨?_,m5.ext,?_,m5.size,m5.frame,?_,m5.roimg,m5.tape,m5.os,m5.output⟩
  · have:=m5.next
    show objs0.length<=objs.length
    rw [<-hL.length];exact Nat.le_refl _
  · intro B x hB
    rcases m5.dom B x hB with q | ⟨q1,q2⟩
    · exact .inl q
    · refine .inr ⟨q1,?_⟩
      show B<objs.length
      rw [<-hL.length];exact q2
  · intro B o x hB hx
    obtain ⟨q,h1,_⟩:=back B o hB
    exact m5.img B q x h1 hx
 refine (h ρ2 w args' (FL.vrs m2 m3 ha hva) hh2 (fun B hB=>?_)).mono ?_
 · show ρ2.nm B=none
   rw [m1];exact hoff B (by rw [hL.length];exact hB)
 · rintro e' w' ⟨v',ρ',rfl,k1,k2,k3⟩
   rw [<-hp] at k2 k3
   exact ⟨v',ρ',rfl,k1,k2,hx2.trans k3⟩
theorem Con.thaw {P:Program} {g:FuncId} {pargs pargs0:List AV} {objs objs0:List (Option AObj)} {v:AV} {us us0:List Upd} (h:Con P g pargs objs v us) (A:Nat) {e:TypeId} {sz n:Nat} {f:Nat->Nat->CV}
 (hA:(objs0[A]?).join=some (.rows e sz n f)) (hL:FOL A (.rows sz n f) 0 objs0 objs) (ha:FL A (.rows sz n f) pargs0 pargs) (hp:postL objs0 us0=postL objs us):Con P g pargs0 objs0 v us0:=by
 refine h.thawZ A ?_ hL ha hp
 unfold frzOf
 rw [mkH_get,hA]
theorem Con.slot {P:Program} {g:FuncId} {pargs:List AV} {v:AV} (h:Con P g pargs [] v []) (hb:belows 0 pargs=true) (ha:rens (nameIn [] 1) pargs=pargs) (hv:ren (nameIn [] 1) v=v):Con P g pargs [none] v [.keep]:=by
 obtain ⟨_,hc⟩:=con_call h [] (H:=mkH [none]) rfl trivial ha hb
 have hv':embV [] (mkH [none]) v=v:=hv
 rw [hv'] at hc
 intro ρ w args' hva hh hoff
 refine (hc ρ w args' hva hh (fun A q1 _=>hoff A q1)).mono ?_
 rintro e w' ⟨v',ρ',rfl,k1,k2,k3⟩
 exact ⟨v',ρ',rfl,k1,k2,k3⟩
theorem LDoes.ovl {P:Program} {c:Code} {n b:Nat} {l:List (Nat×AV)} {tm':T AV} {objs objs0 objs':List (Option AObj)} {x:XO} (h:LDoes P c n b (mkT l) objs x tm' objs') (ho:OVL objs0 objs):LDoes P c n b (mkT l) objs0 x tm' objs':=by
 refine h.pre fun ρ ts w ht hh hoff=>?_
 have e:ExtB b ρ (mkH objs0) w ρ (mkH objs0) w:=⟨fun _ _=>rfl,fun _ _ _ h=>h,Nat.le_refl _,fun _ _ _=>rfl,fun A o x h1 h2=>.inr ⟨A,o,x,h1,h2,rfl⟩,fun _ _ _ h=>.inl h,rfl,rfl,rfl⟩
 exact ⟨ρ,ht,hh.ov ho,fun A hA=>hoff A (by rw [ho.length];exact hA),e.ov ho⟩
end Go.Sim
/- Rounds whose leaf is told by one kernel's equation. -/
namespace Go.Sim
open Go
def isN:XO->Bool
 | .nrm=>true
 | _=>false
def RdQ {D:Type} (P:Program) (c:Code) (n b:Nat) (I:D->List (Nat×AV)×List (Option AObj)) (μ:D->Nat) (inv:D->Prop) (x:XO) (l':List (Nat×AV)) (objs':List (Option AObj)) (d:D):Prop:=
 ∃f o K,runK P f (.code c n (mkT (I d).1) (mkH (I d).2)) o K/\∀r o',K r o'->RoundV b I μ inv x l' objs' d r
theorem loop_q {D:Type} {P:Program} {c:Code} {n b:Nat} {x:XO} {l':List (Nat×AV)} {objs':List (Option AObj)} (I:D->List (Nat×AV)×List (Option AObj)) (μ:D->Nat) (inv:D->Prop)
 (hb:∀d,b<=(I d).2.length) (round:∀d,inv d->RdQ P c n b I μ inv x l' objs' d):∀d,inv d->LDoes P c n b (mkT (I d).1) (I d).2 x (mkT l') objs':=
 loop_indQ I μ inv fun d hd=>⟨hb d,round d hd⟩
def VD (P:Program) (g:FuncId) (pargs:List AV) (objs:List (Option AObj)) (o:Orc) (v:AV) (us:List Upd) (τ:List Nat) (nx:Nat) (C:Prop->Prop):Prop:=VQ P g pargs objs o v us τ nx C
def LD (P:Program) (c:Code) (n b:Nat) (l0:List (Nat×AV)) (objs0:List (Option AObj)) (o:Orc) (x:XO) (σ:List Nat) (l:List (Nat×AV)) (objs:List (Option AObj)) (nx:Nat) (C:Prop->Prop):Prop:=LQ P c n b l0 objs0 o x σ l objs nx C
theorem con_d {P:Program} {g:FuncId} {pargs:List AV} {objs:List (Option AObj)} {o:Orc} {v:AV} {us:List Upd} {τ:List Nat} {nx:Nat} {C:Prop->Prop} (h:VD P g pargs objs o v us τ nx C) (hc:C (rtP objs us v τ nx=rtP objs us v τ nx)):Con P g pargs objs v us:=con_q h hc
section
variable {D:Type} {P:Program} {c:Code} {n b:Nat} {σ:List Nat} {l0 l1:List (Nat×AV)} {objs0 objs1:List (Option AObj)} {o:Orc} {nx:Nat} {C:Prop->Prop} {I:D->List (Nat×AV)×List (Option AObj)} {μ:D->Nat} {inv:D->Prop} {x:XO} {l':List (Nat×AV)} {objs':List (Option AObj)} {d:D}
theorem rd_nrm (h:LD P c n b l0 objs0 o .nrm σ l1 objs1 nx C) (hc:C (stP .nrm b σ l1 objs1 nx=stP .nrm b σ l1 objs1 nx)) (d':D) (hi:inv d') (hm:μ d'<μ d) (e:I d=(l0,objs0)) (tv:TVL l1 (I d').1) (ov:OVL objs1 (I d').2) :
 RdQ P c n b I μ inv x l' objs' d:=by
 have h:LQ P c n b l0 objs0 o _ σ l1 objs1 nx C:=h
 have h:=h.mpr hc
 refine ⟨1000000,o,_,by rw [e];exact h,fun r _ hr=>?_⟩
 obtain ⟨tm1,H1,e,st⟩:=stQ_is hr
 exact .inl ⟨d',σ,[],tm1,H1,l1,objs1,hi,hm,e,st,tv,ov⟩
theorem rd_out (h:LD P c n b l0 objs0 o x σ l1 objs1 nx C) (hc:C (stP x b σ l1 objs1 nx=stP x b σ l1 objs1 nx)) (e:I d=(l0,objs0)) (hx:isN x=false) (tv:TVL l1 l') (ov:OVL objs1 objs') :
 RdQ P c n b I μ inv x l' objs' d:=by
 have h:LQ P c n b l0 objs0 o _ σ l1 objs1 nx C:=h
 have h:=h.mpr hc
 refine ⟨1000000,o,_,by rw [e];exact h,fun r _ hr=>?_⟩
 obtain ⟨tm1,H1,e,st⟩:=stQ_is hr
 have hn:x≠.nrm:=by intro q;rw [q] at hx;cases hx
 exact .inr ⟨σ,[],tm1,H1,l1,objs1,e,hn,st,tv,ov⟩
end
theorem Con.moreG {P:Program} {g:FuncId} {pargs:List AV} {objs objs0:List (Option AObj)} {v:AV} {us us0:List Upd} (h:Con P g pargs objs v us) (σ:List Nat) (hok:namesOk σ objs us (mkH objs0)=true)
 (hall:HasAll (nameIn σ (mkH objs0).next) objs.length (mkH objs0) σ objs) (ha:rens (nameIn σ (mkH objs0).next) pargs=pargs) (hb:belows objs.length pargs=true) (hv:embV σ (mkH objs0) v=v)
 (ht:((natsTo (postL objs0 us0).length).map (embH σ (mkH objs0) us).get,(embH σ (mkH objs0) us).next)=(postL objs0 us0,(mkH (postL objs0 us0)).next)):Con P g pargs objs0 v us0:=by
 obtain ⟨_,hc⟩:=con_call h σ (H:=mkH objs0) hok hall ha hb
 rw [hv] at hc
 simp only [Prod.mk.injEq] at ht
 have hg:∀B o,(mkH (postL objs0 us0)).get B=some o->(embH σ (mkH objs0) us).get B=some o:=by
  intro B o hB
  rw [mkH_get] at hB
  have e:=congrArg (fun l=>l[B]?) ht.1
  simp only [List.getElem?_map] at e
  by_cases hl:B<(postL objs0 us0).length
  · rw [show (natsTo (postL objs0 us0).length)[B]? =some B by unfold natsTo;rw [List.getElem?_range hl]] at e
    rw [<-e] at hB
    exact hB
  · rw [List.getElem?_eq_none (by omega)] at hB
    cases hB
 intro ρ w args' hva hh hoff
 refine (hc ρ w args' hva hh (fun A q1 _=>hoff A q1)).mono ?_
 rintro e w' ⟨v',ρ',rfl,k1,k2,k3⟩
 exact ⟨v',ρ',rfl,k1,k2.sub hg,k3.sub hg ht.2.symm⟩
end Go.Sim
/- Short words for printed conditions. -/
namespace Go.Sim
open Go
noncomputable abbrev t0 {α:Type} (a b:T α):T α:=.n none a b
noncomputable abbrev t1 {α:Type} (v:α) (a b:T α):T α:=.n (some v) a b
noncomputable abbrev tl {α:Type} (v:α):T α:=.n (some v) .e .e
noncomputable abbrev inv (x:Nat):AV:=.i .i64 (Int.ofNat x)
abbrev rg (x:Int):Prop:=(-9223372036854775808)<=x/\x<=9223372036854775807
abbrev r2 (c q:Prop):Prop:=c/\c/\q
abbrev r3 (c q:Prop):Prop:=c/\c/\c/\q
abbrev r4 (c q:Prop):Prop:=c/\c/\c/\c/\q
abbrev r5 (c q:Prop):Prop:=c/\c/\c/\c/\c/\q
abbrev r6 (c q:Prop):Prop:=c/\c/\c/\c/\c/\c/\q
noncomputable def ot:Nat->Orc->Orc
 | 0,o=>o
 | n+1,o=>.t (ot n o)
noncomputable def of_:Nat->Orc->Orc
 | 0,o=>o
 | n+1,o=>.f (of_ n o)
abbrev kpI (kk L:Int):Int:=if L<if 0>kk then 0 else kk then L else if 0>kk then 0 else kk
end Go.Sim
/- What comes back with rows frozen, as one kernel's equation. -/
namespace Go.Sim
open Go
def retF (objs:List (Option AObj)) (us:List Upd) (v:AV) (fz τ:List Nat) (p:Prop) (r:Res):Prop:=match r with
 | .rv v1 H1=>((frzAll fz H1 v1).isSome,(frzG fz H1 v1).2.2,(frzG fz H1 v1).1,below us.length v,nodupB (natsTo objs.length ++ τ),allLt (frzG fz H1 v1).2.1.next (natsTo objs.length ++ τ),Nat.beq (objs.length+τ.length) us.length,Nat.beq (natsTo objs.length ++ τ).length (postL objs us).length,hasL us.length (frzG fz H1 v1).2.1 (natsTo objs.length ++ τ) (postL objs us)) =
    (true,p,ren (nameIn (natsTo objs.length ++ τ) (frzG fz H1 v1).2.1.next) v,true,true,true,true,true,hasR (nameIn (natsTo objs.length ++ τ) (frzG fz H1 v1).2.1.next) (natsTo objs.length ++ τ) (postL objs us))
 | _=>False
noncomputable abbrev rtF (objs:List (Option AObj)) (us:List Upd) (v:AV) (τ:List Nat) (p:Prop) (nx:Nat):Bool×Prop×AV×Bool×Bool×Bool×Bool×Bool×List (Option AObj×Bool):=
 (true,p,ren (nameIn (natsTo objs.length ++ τ) nx) v,true,true,true,true,true,hasR (nameIn (natsTo objs.length ++ τ) nx) (natsTo objs.length ++ τ) (postL objs us))
def VF (P:Program) (g:FuncId) (pargs:List AV) (objs:List (Option AObj)) (o:Orc) (v:AV) (us:List Upd) (fz τ:List Nat) (p:Prop) (nx:Nat) (C:Prop->Prop):Prop:=
 runK P 1000000 (.call g pargs (mkH objs)) o (fun r _=>retF objs us v fz τ p r)=C (rtF objs us v τ p nx=rtF objs us v τ p nx)
theorem con_f {P:Program} {g:FuncId} {pargs:List AV} {objs:List (Option AObj)} {o:Orc} {v:AV} {us:List Upd} {fz τ:List Nat} {p:Prop} {nx:Nat} {C:Prop->Prop} (h:VF P g pargs objs o v us fz τ p nx C) (hp:p)
 (hc:C (rtF objs us v τ p nx=rtF objs us v τ p nx)):Con P g pargs objs v us:=by
 obtain ⟨r,o',hr,hd⟩:=runK_ok P 1000000 _ _ _ (Eq.mpr h hc)
 cases r with
 | rv v1 H1=>
   refine con_of_does (fz:=fz) (τ:=τ) ?_ hd
   have hr:_= _:=hr
   simp only [Prod.mk.injEq] at hr
   obtain ⟨h0,h1,h2,h3,h4,h5,h6,h7,h8⟩:=hr
   exact ret_fz fz p h0 h1 hp h2 h3 h4 h5 (Nat.eq_of_beq_eq_true h6) (hasAll_of h7 h8)
 | _=>exact hr.elim
end Go.Sim
/- A closed call with arguments, told by the evaluator of closed runs. -/
namespace Go.Sim
open Go
end Go.Sim
/- A row frozen behind a loop, in the temporaries too. -/
namespace Go.Sim
open Go
end Go.Sim
/- A call that only reads may be told of rows that are written later. -/
namespace Go.Sim
open Go
theorem postL_keep:∀(objs:List (Option AObj)),postL objs (objs.map fun _=>Upd.keep)=objs
 | []=>rfl
 | a :: l=>by
   show postL (a :: l) (Upd.keep :: l.map fun _=>Upd.keep)=a :: l
   rw [postL_cons]
   show postG .keep (some a).join :: postL l _= _
   rw [postL_keep l]
   cases a<;>rfl
theorem Con.borrow {P:Program} {g:FuncId} {pargs pargs0:List AV} {objs:List (Option AObj)} {v:AV} (h:Con P g pargs [] v []) (fz:List Nat) (p:Prop)
 (hs:(frzAll fz (mkH objs) (.tup pargs0)).isSome=true) (he:(frzG fz (mkH objs) (.tup pargs0)).1=.tup pargs) (hq:(frzG fz (mkH objs) (.tup pargs0)).2.2=p) (hp:p) (hb:belows 0 pargs=true) (hr:rens (fun A=>A) pargs=pargs)
 (hv:∀(ρ ρ':Rho) (x:Value),VR ρ v x->VR ρ' v x):Con P g pargs0 objs v (objs.map fun _=>Upd.keep):=by
 intro ρ w args' hva hh hoff
 obtain ⟨z,hz⟩:=Option.isSome_iff_exists.1 hs
 have e:frzG fz (mkH objs) (.tup pargs0)=z:=by unfold frzG;rw [hz];rfl
 rw [e] at he hq
 obtain ⟨z1,z2,z3⟩:=z
 simp only at he hq
 subst he
 obtain ⟨ρ',m1,m2,m3,m4⟩:=frzAll_ok fz hz (hq▸hp) hh (Ext.refl ρ (mkH objs) w) (VR.tup _ _ hva)
 have m2':VRs ρ' pargs args':=by cases m2;assumption
 have q:VRs ⟨fun _=>none,ρ'.ro⟩ pargs args':=unrens_VR (ρ:=⟨fun _=>none,ρ'.ro⟩) (ρ':=ρ') (σ:=fun A=>A) (k:=0) (fun A hA=>absurd hA (Nat.not_lt_zero A)) (fun _ _ _ h=>h) hb (by rw [hr];exact m2')
 have hh0:HR ⟨fun _=>none,ρ'.ro⟩ (mkH []) w:=⟨fun A o hA=>(by rw [mkH_get] at hA;simp at hA),fun A A' o o' x x' hA=>(by rw [mkH_get] at hA;simp at hA),fun A x hx=>(by cases hx),m3.ro,fun B j u hu A o x hA=>(by rw [mkH_get] at hA;simp at hA)⟩
 refine (h ⟨fun _=>none,ρ'.ro⟩ w args' q hh0 (fun _ _=>rfl)).mono ?_
 rintro e' w' ⟨v',ρ1,rfl,k1,k2,k3⟩
 have same:∀B,B<w.heap.size->w'.heap[B]? =w.heap[B]?:=fun B hB=>k3.frame B hB fun A o x hA=>(by rw [mkH_get] at hA;simp at hA)
 rw [postL_keep]
 refine ⟨v',ρ,rfl,hv _ _ _ k1,⟨fun A o hA=>?_,hh.inj,fun A x hx=>Nat.lt_of_lt_of_le (hh.range A x hx) k3.size,fun B j u hu=>?_,hh.rox⟩,⟨Nat.le_refl _,.refl _,fun _ _ h=>.inl h,k3.size,fun B hB _=>same B hB,fun A o x hA hx=>.inr ⟨A,o,x,hA,hx,rfl⟩,fun _ _ _ h=>.inl h,k3.tape,k3.os,k3.output⟩⟩
 · rcases hh.live A o hA with ⟨x,hx,hbr⟩ | q
   · exact .inl ⟨x,hx,hbr.congr (same _ (hh.range A x hx))⟩
   · exact .inr q
 · obtain ⟨c,e,fr,h1,h2⟩:=hh.ro B j u hu
   exact ⟨c,e,fr,(same B (hh.rolt hu)).trans h1,h2⟩
end Go.Sim
/- A call told by its choices and a chain of what holds: no condition is written down. -/
namespace Go.Sim
open Go
def LI (P:Program) (c:Code) (n b:Nat) (l0:List (Nat×AV)) (objs0:List (Option AObj)) (x:XO) (l1:List (Nat×AV)) (objs1:List (Option AObj)):Prop:=∃(o:Orc) (σ:List Nat) (nx:Nat) (A:Prop),A/\LQ P c n b l0 objs0 o x σ l1 objs1 nx (fun _=>A)
section
variable {D:Type} {P:Program} {c:Code} {n b:Nat} {l0 l1:List (Nat×AV)} {objs0 objs1:List (Option AObj)} {I:D->List (Nat×AV)×List (Option AObj)} {μ:D->Nat} {inv:D->Prop} {x:XO} {l':List (Nat×AV)} {objs':List (Option AObj)} {d:D}
theorem ri_nrm (h:LI P c n b l0 objs0 .nrm l1 objs1) (d':D) (hi:inv d') (hm:μ d'<μ d) (e:I d=(l0,objs0)) (tv:TVL l1 (I d').1) (ov:OVL objs1 (I d').2):RdQ P c n b I μ inv x l' objs' d:=by
 obtain ⟨o,σ,nx,A,ha,h⟩:=h
 exact rd_nrm (C:=fun _=>A) (nx:=nx) h ha d' hi hm e tv ov
theorem ri_out (h:LI P c n b l0 objs0 x l1 objs1) (e:I d=(l0,objs0)) (hx:isN x=false) (tv:TVL l1 l') (ov:OVL objs1 objs'):RdQ P c n b I μ inv x l' objs' d:=by
 obtain ⟨o,σ,nx,A,ha,h⟩:=h
 exact rd_out (C:=fun _=>A) (nx:=nx) h ha e hx tv ov
end
theorem j0 {B:Prop} (l:B):True/\B:=⟨trivial,l⟩
end Go.Sim
/- From a contract to a row: arguments as values that name no row, and that they read as before. -/
namespace Go.Sim
open Go Go.ChangeShapes Go.WideShapes Go.ChangeAt Go.RowKit
noncomputable def roAll (w:World):Rho:=⟨fun _=>none,fun B j=>match w.heap[B]? with | some (.cells c _ _)=>c[j]? | _=>none⟩
theorem roAll_cell {w:World} {B o:Nat} {v:Value} (h:w.cell? ⟨B,o,none⟩=some v):(roAll w).ro B o=some v:=by
 show (match w.heap[B]? with | some (.cells c _ _)=>c[o]? | _=>none)=some v
 unfold World.cell? at h
 simp only at h
 split at h
 · rename_i c e fr hb;rw [hb];exact h
 · simp at h
theorem roAll_HR (w:World):HR (roAll w) (mkH []) w:=by
 refine ⟨fun A o h=>?_,fun A A' o o' x x' h=>?_,fun A x h=>by simp [roAll] at h,fun B j v hv=>?_,fun B j v hv A o x h hx=>by simp [roAll] at hx⟩
 · rw [mkH_get] at h;simp at h
 · rw [mkH_get] at h;simp at h
 · have hv':(match w.heap[B]? with | some (.cells c _ _)=>c[j]? | _=>none)=some v:=hv
   split at hv'
   · rename_i c e fr hb;exact ⟨c,e,fr,hb,hv'⟩
   · simp at hv'
theorem con_kept {P:Program} {g:FuncId} {pargs:List AV} {args:List Value} {w:World} (hc:Con P g pargs [] (.b true) []) (hv:VRs (roAll w) pargs args) :
 Calls P g args.toArray w (fun e w'=>e=.returned (.bool true)/\Kept w w'):=by
 refine (hc (roAll w) w args hv (roAll_HR w) (fun _ _=>rfl)).mono ?_
 rintro e w' ⟨v',ρ',rfl,h1,h2,h3⟩
 cases h1
 refine ⟨rfl,h3.size,fun B hB=>h3.frame B hB fun A o x hA=>?_,h3.tape,h3.os,h3.output⟩
 rw [mkH_get] at hA;simp at hA
end Go.Sim
/- What a reading says of the values behind it, as values that name no row; and that it reads as before. -/
namespace Go.Sim
open Go Go.ChangeShapes Go.WideShapes Go.ChangeAt Go.RowKit
theorem Kept.sameAt {w w':World} (hk:Kept w w') {p:MemPlace} (h:p.block<w.heap.size):w.sameAt w' p:=by
 cases p with
 | cell b off=>simp only [World.sameAt,World.cell?,hk.heap b h]
 | map b=>simp only [World.sameAt,hk.heap b h]
section
variable {H:Type} {enc:TypeId×Value->H} {P:Program} {w w':World} {T:TypeId->Prop}
theorem trod_again (hk:Kept w w') (K:Kids P T) (hz:∀t e,T t->P.underlying t=some (.slice e)->0<P.cellsOf e) {base:Nat} {sp:Nat->Bool} {t:TypeId} (hT:T t) {v:Value} {d:DataW H} {ps:List MemPlace}
 (h:DataW.Trod enc P w base (fun _=>true) true t v d ps) (hs:∀p∈ps,sp p.block=true):DataW.Trod enc P w' base sp true t v d ps:=by
 obtain ⟨n,hn⟩:=h.respare K hz hT hs
 exact ⟨n,DataW.trod_carry _ _ _ _ hn fun p hp=>hk.sameAt (DataW.trod_lt _ _ _ _ hn p hp)⟩
theorem args_again (hk:Kept w w') (K:Kids P T) (hz:∀t e,T t->P.underlying t=some (.slice e)->0<P.cellsOf e) {base:Nat} {sp:Nat->Bool}:∀{ts:List TypeId} {vs:List Value} {ds:List (DataW H)} {ps:List MemPlace},(∀t∈ts,T t)->
 DataW.TrodAll enc P w base (fun _=>true) true ts vs ds ps->(∀p∈ps,sp p.block=true)->DataW.TrodAll enc P w' base sp true ts vs ds ps
 | [],[],[],_,_,h,_=>h
 | _ :: _,_ :: _,_ :: _,_,hT,⟨p,q,h1,h2,e⟩,hs=>⟨p,q,trod_again hk K hz (hT _ (List.mem_cons.2 (Or.inl rfl))) h1 (fun x hx=>hs x (by rw [e];exact List.mem_append_left _ hx)),
     args_again hk K hz (fun t ht=>hT t (List.mem_cons.2 (Or.inr ht))) h2 (fun x hx=>hs x (by rw [e];exact List.mem_append_right _ hx)),e⟩
end
def okT (P:Program):Nat->TypeId->Bool
 | 0,_=>false
 | d+1,t=>match P.underlying t with
   | some .bool=>P.cellsOf t == 1
   | some (.int _)=>P.cellsOf t == 1
   | some .string=>P.cellsOf t == 1
   | some (.slice e)=>P.cellsOf t == 1 && (decide (0<P.cellsOf e) && okT P d e)
   | some (.struct fs)=>((List.range (P.cellsOf t)).all fun j=>(fs.toList.find? (fun g=>decide (g.offset<=j) && decide (j<g.offset+P.cellsOf g.type))).isSome) && (List.range fs.size).all fun i=>match fs[i]? with
     | none=>true
     | some f=>okT P d f.type && decide (f.offset+P.cellsOf f.type<=P.cellsOf t) &&
       (List.range (P.cellsOf f.type)).all fun j=>match fs.toList.find? (fun g=>decide (g.offset<=f.offset+j) && decide (f.offset+j<g.offset+P.cellsOf g.type)) with
         | some g=>g.offset == f.offset && g.type == f.type
         | none=>false
   | some (.array n e)=>okT P d e && n*P.cellsOf e == P.cellsOf t
   | _=>false
def Sh (P:Program):Nat->TypeId->(Nat->CV)->Prop
 | 0,_,_=>False
 | d+1,t,f=>match P.underlying t with
   | some .bool=>∃b,f 0=.b b
   | some (.int k)=>∃n,f 0=.i k n/\(Lit.int k n).wf=true
   | some .string=>∃l:List Nat,f 0=.s l/\(∀x∈l,x<256)/\l.length<=maxLen/\l.length<=reachBytes
   | some (.slice e)=>∃n g,f 0=.sv (P.cellsOf e) n g/\n<=maxLen/\n*P.bytesOf e<=reachBytes/\∀i,i<n->Sh P d e (g i)
   | some (.struct fs)=>∀(i:Nat) (fl:Field),fs[i]? =some fl->Sh P d fl.type (fun j=>f (fl.offset+j))
   | some (.array n e)=>∀i,i<n->Sh P d e (fun j=>f (i*P.cellsOf e+j))
   | _=>False
theorem Sh.congr {P:Program}:∀(d:Nat) (t:TypeId) (f f':Nat->CV),okT P d t=true->(∀j,j<P.cellsOf t->f j=f' j)->Sh P d t f->Sh P d t f'
 | 0,t,f,f',ho,_,_=>by simp [okT] at ho
 | d+1,t,f,f',ho,he,h=>by
   unfold okT at ho
   unfold Sh at h⊢
   cases hu:P.underlying t with
   | none=>rw [hu] at h;exact h.elim
   | some u=>
     rw [hu] at h ho
     try dsimp only at h ho⊢
     cases u<;>try dsimp only at h ho⊢
     case bool=>rw [<-he 0 (by simp at ho;omega)];exact h
     case int=>rw [<-he 0 (by simp at ho;omega)];exact h
     case string=>rw [<-he 0 (by simp at ho;omega)];exact h
     case slice e=>rw [<-he 0 (by simp at ho;omega)];exact h
     case struct fs=>
      intro i fl hi
      have hlt:=(Array.getElem?_eq_some_iff.1 hi).1
      rw [Bool.and_eq_true] at ho
      have:=List.all_eq_true.1 ho.2 i (List.mem_range.2 hlt)
      rw [hi] at this
      simp only [Bool.and_eq_true,decide_eq_true_eq] at this
      exact Sh.congr d _ _ _ this.1.1 (fun j hj=>he _ (by omega)) (h i fl hi)
     case array n e=>
      simp only [Bool.and_eq_true,beq_iff_eq] at ho
      intro i hi
      refine Sh.congr d _ _ _ ho.1 (fun j hj=>he _ ?_) (h i hi)
      rw [<-ho.2]
      calc i*P.cellsOf e+j<i*P.cellsOf e+P.cellsOf e:=by omega
       _=(i+1)*P.cellsOf e:=by rw [Nat.add_mul,Nat.one_mul]
       _<=n*P.cellsOf e:=Nat.mul_le_mul_right _ hi
     all_goals exact h.elim
theorem cells_get {w:World} {base n:Nat} {a:Addr} {l:List Value} (h:w.cells? base a n=some l):l.length=n/\∀j,j<n->w.cell? (a.add j)=l[j]?:=by
 unfold World.cells? at h
 split at h
 · have h1:=mapM_some_length h
   simp at h1
   refine ⟨h1,fun j hj=>?_⟩
   have:=mapM_some_get h j j (by simp [hj])
   exact this
 · simp at h
theorem mem_weightsAll {H:Type} {P:Program} {e:TypeId} {y:Nat}:∀{l:List (DataW H)} {i:Nat} {x:DataW H},l[i]? =some x->y∈x.weights P e->y∈DataW.weightsAll P e l
 | [],i,x,h,_=>by simp at h
 | a :: l,0,x,h,hy=>by simp at h;subst h;simp only [DataW.weightsAll];exact List.mem_append.2 (.inl hy)
 | a :: l,i+1,x,h,hy=>by simp only [DataW.weightsAll];exact List.mem_append.2 (.inr (mem_weightsAll (i:=i) (by simpa using h) hy))
theorem mem_weightsEach {H:Type} {P:Program} {y:Nat}:∀{ts:List TypeId} {l:List (DataW H)} {i:Nat} {t:TypeId} {x:DataW H},ts[i]? =some t->l[i]? =some x->y∈x.weights P t->y∈DataW.weightsEach P ts l
 | [],_,i,t,x,h,_,_=>by simp at h
 | _ :: _,[],i,t,x,_,h,_=>by simp at h
 | b :: ts,a :: l,0,t,x,ht,h,hy=>by simp at h ht;subst h;subst ht;simp only [DataW.weightsEach];exact List.mem_append.2 (.inl hy)
 | b :: ts,a :: l,i+1,t,x,ht,h,hy=>by simp only [DataW.weightsEach];exact List.mem_append.2 (.inr (mem_weightsEach (i:=i) (by simpa using ht) (by simpa using h) hy))
theorem trod_shape {H:Type} {enc:TypeId×Value->H} {P:Program} {w:World} {base:Nat} {held:Bool} {sp:Nat->Bool}:∀(d fuel:Nat) (t:TypeId) (cs:List Value) (x:DataW H×List MemPlace),okT P d t=true->
 DataW.trod enc P w base sp held fuel t cs=some x->(∀y∈x.1.weights P t,y<=reachBytes)->∃f:Nat->CV,cs.length=P.cellsOf t/\(∀(j:Nat) (v:Value),cs[j]? =some v->CR (roAll w).ro (f j) v)/\Sh P d t f
 | 0,fuel,t,cs,x,ho,_,_=>by simp [okT] at ho
 | d+1,fuel,t,cs,x,ho,h,hz=>by
   unfold okT at ho
   unfold Sh
   cases hu:P.underlying t with
   | none=>rw [hu] at ho;simp at ho
   | some u=>
     rw [hu] at ho
     try dsimp only at ho⊢
     cases u<;>try dsimp only at ho⊢
     case bool=>
      obtain ⟨b,rfl,_⟩:=DataW.trod_bool hu h
      refine ⟨fun _=>.b b,by simp at ho;simp [ho],fun j v hv=>?_,b,rfl⟩
      cases j<;>simp at hv
      subst hv;exact .b _
     case int k=>
      obtain ⟨n,rfl,_,hw⟩:=DataW.trod_int hu h
      refine ⟨fun _=>.i k n,by simp at ho;simp [ho],fun j v hv=>?_,n,rfl,hw⟩
      cases j<;>simp at hv
      subst hv;exact .i _ _
     case string=>
      obtain ⟨s,rfl,hx,hs⟩:=DataW.trod_string hu h
      have hzs:s.size<=reachBytes:=by
       have:=hz s.data.toList.length (by rw [hx];simp [DataW.weights])
       simpa using this
      refine ⟨fun _=>.s (s.data.toList.map UInt8.toNat),by simp at ho;simp [ho],fun j v hv=>?_,_,rfl,fun x hx=>?_,by simpa using hs,by simpa using hzs⟩
      · cases j<;>simp at hv
        subst hv;exact .s _ _ rfl
      · simp only [List.mem_map] at hx
        obtain ⟨b,_,rfl⟩:=hx
        exact b.toNat_lt
     case slice e=>
      simp only [Bool.and_eq_true,beq_iff_eq,decide_eq_true_eq] at ho
      rcases DataW.trod_slice hu h with ⟨rfl,_⟩ | ⟨a,len,cap,elems,rest,n,rfl,rfl,hx,hb,hl,hc,hel,hget,_,_⟩
      · refine ⟨fun _=>.sv (P.cellsOf e) 0 fun _ _=>.b true,by simp [ho.1],fun j v hv=>?_,0,_,rfl,by simp,by simp,fun i hi=>absurd hi (Nat.not_lt_zero i)⟩
        cases j<;>simp at hv
        subst hv;exact .sv0 _ _
      · have hzl:len*P.bytesOf e<=reachBytes:=by
         have:=hz ((elems.length+rest.length)*P.bytesOf e) (by rw [hx];simp [DataW.weights,hu])
         exact Nat.le_trans (Nat.mul_le_mul_right _ (by omega)) this
        have hze:∀(i:Nat) (q:DataW H×List MemPlace),elems[i]? =some q->∀y∈q.1.weights P e,y<=reachBytes:=by
         intro i q hq y hy
         refine hz y ?_
         rw [hx]
         simp only [DataW.weights,hu]
         refine List.mem_cons_of_mem _ (List.mem_append.2 (.inl (mem_weightsAll (i:=i) (x:=q.1) ?_ hy)))
         rw [List.getElem?_map,hq];rfl
        have one:∀i,i<len->∃f:Nat->CV,∃l:List Value,w.cells? base (a.add (i*P.cellsOf e)) (P.cellsOf e)=some l/\(∀(j:Nat) (v:Value),l[j]? =some v->CR (roAll w).ro (f j) v)/\Sh P d e f:=by
         intro i hi
         have h1:=hget i hi
         rw [List.getElem?_eq_getElem (by omega)] at h1
         obtain ⟨l,h2,h3⟩:=Option.bind_eq_some_iff.1 h1
         obtain ⟨f,_,h4,h5⟩:=trod_shape d n e l _ ho.2.2 h3 (hze i _ (List.getElem?_eq_getElem (by omega)))
         exact ⟨f,l,h2,h4,h5⟩
        rcases Nat.eq_zero_or_pos len with rfl | hpos
        · refine ⟨fun _=>.sv (P.cellsOf e) 0 fun _ _=>.b true,by simp [ho.1],fun j v hv=>?_,0,_,rfl,by simp,by simp,fun i hi=>absurd hi (Nat.not_lt_zero i)⟩
          cases j<;>simp at hv
          subst hv;exact .svz _ _ _ _
        · obtain ⟨G,hG⟩:=Classical.axiomOfChoice (r:=fun (i:Nat) (f:Nat->CV)=>i<len->∃l:List Value,w.cells? base (a.add (i*P.cellsOf e)) (P.cellsOf e)=some l/\(∀(j:Nat) (v:Value),l[j]? =some v->CR (roAll w).ro (f j) v)/\Sh P d e f)
           (fun i=>by
             by_cases hi:i<len
             · obtain ⟨f,hf⟩:=one i hi;exact ⟨f,fun _=>hf⟩
             · exact ⟨fun _=>.b true,fun h=>absurd h hi⟩)
          refine ⟨fun _=>.sv (P.cellsOf e) len G,by simp [ho.1],fun j v hv=>?_,len,G,rfl,by omega,hzl,fun i hi=>(hG i hi).choose_spec.2.2⟩
          cases j<;>simp at hv
          subst hv
          have hz0:=ho.2.1
          have hsp:a.spot=none:=by
           obtain ⟨l,h1,_⟩:=hG 0 hpos
           obtain ⟨h2,h3⟩:=cells_get h1
           have h4:=h3 0 hz0
           rw [List.getElem?_eq_getElem (by omega)] at h4
           unfold World.cell? at h4
           have e0:((a.add (0*P.cellsOf e)).add 0)=a:=by simp [Addr.add]
           rw [e0] at h4
           split at h4
           · split at h4
             · simp at h4
             · rename_i hn;simpa using hn
           · simp at h4
          obtain ⟨B,o,s⟩:=a
          simp only at hsp
          subst hsp
          refine .sv _ _ _ B o cap (fun i j=>((w.cell? ⟨B,o+i*P.cellsOf e+j,none⟩).getD undef)) hl (fun i j hi hj=>?_) (fun i j hi hj=>?_)
          all_goals
           obtain ⟨l,h1,h5,_⟩:=hG i hi
           obtain ⟨h2,h3⟩:=cells_get h1
           have h4:=h3 j hj
           have ea:((Addr.add ⟨B,o,none⟩ (i*P.cellsOf e)).add j)=⟨B,o+i*P.cellsOf e+j,none⟩:=by
            unfold Addr.add;split<;>split<;>simp_all
           rw [ea,List.getElem?_eq_getElem (by omega)] at h4
           rw [h4]
          · exact roAll_cell h4
          · exact h5 j _ (List.getElem?_eq_getElem _)
     case struct fs=>
      obtain ⟨xs,n,rfl,hx,hlen,hxs,hf⟩:=DataW.trod_struct hu h
      rw [Bool.and_eq_true] at ho
      have one:∀(i:Nat) (fl:Field),fs[i]? =some fl->∃f:Nat->CV,(∀(j:Nat) (v:Value),j<P.cellsOf fl.type->cs[fl.offset+j]? =some v->CR (roAll w).ro (f j) v)/\Sh P d fl.type f:=by
       intro i fl hi
       have hlt:=(Array.getElem?_eq_some_iff.1 hi).1
       have hoi:=List.all_eq_true.1 ho.2 i (List.mem_range.2 hlt)
       rw [hi] at hoi
       simp only [Bool.and_eq_true,decide_eq_true_eq] at hoi
       have h1:=hf i fl hi
       rw [List.getElem?_eq_getElem (by omega)] at h1
       obtain ⟨f,h2,h3,h4⟩:=trod_shape d n fl.type _ _ hoi.1.1 h1 (fun y hy=>hz y (by
        rw [hx]
        simp only [DataW.weights,hu]
        refine mem_weightsEach (i:=i) (t:=fl.type) (x:=(xs[i]'(by omega)).1) ?_ ?_ hy
        · rw [List.getElem?_map,Array.getElem?_toList,hi];rfl
        · rw [List.getElem?_map,List.getElem?_eq_getElem (by omega)];rfl))
       refine ⟨f,fun j v hj hv=>h3 j v ?_,h4⟩
       rw [List.getElem?_take,if_pos hj,List.getElem?_drop];exact hv
      obtain ⟨G,hG⟩:=Classical.axiomOfChoice (r:=fun (q:Nat×TypeId) (f:Nat->CV)=>(∃(i:Nat) (fl:Field),fs[i]? =some fl/\fl.offset=q.1/\fl.type=q.2)->(∀(j:Nat) (v:Value),j<P.cellsOf q.2->cs[q.1+j]? =some v->CR (roAll w).ro (f j) v)/\Sh P d q.2 f)
       (fun q=>by
         by_cases hq:∃(i:Nat) (fl:Field),fs[i]? =some fl/\fl.offset=q.1/\fl.type=q.2
         · obtain ⟨i,fl,h1,h2,h3⟩:=hq
           obtain ⟨f,hf⟩:=one i fl h1
           rw [h2,h3] at hf
           exact ⟨f,fun _=>hf⟩
         · exact ⟨fun _=>.b true,fun h=>absurd h hq⟩)
      refine ⟨fun j=>match fs.toList.find? (fun g=>decide (g.offset<=j) && decide (j<g.offset+P.cellsOf g.type)) with | some g=>G (g.offset,g.type) (j-g.offset) | none=>.b true,hlen,fun j v hv=>?_,fun i fl hi=>?_⟩
      · have hj:j<P.cellsOf t:=by rw [<-hlen];exact (List.getElem?_eq_some_iff.1 hv).1
        have h1:=List.all_eq_true.1 ho.1 j (List.mem_range.2 hj)
        obtain ⟨g,hg⟩:=Option.isSome_iff_exists.1 h1
        simp only [hg]
        have h2:=List.find?_some hg
        simp only [Bool.and_eq_true,decide_eq_true_eq] at h2
        obtain ⟨i,hi,hig⟩:=List.getElem_of_mem (List.mem_of_find?_eq_some hg)
        have hi':fs[i]? =some g:=by rw [<-Array.getElem?_toList,List.getElem?_eq_getElem hi,hig]
        refine (hG (g.offset,g.type) ⟨i,g,hi',rfl,rfl⟩).1 _ v (by simp only;omega) ?_
        simp only
        rw [show g.offset+(j-g.offset)=j by omega];exact hv
      · have hlt:=(Array.getElem?_eq_some_iff.1 hi).1
        have hoi:=List.all_eq_true.1 ho.2 i (List.mem_range.2 hlt)
        rw [hi] at hoi
        simp only [Bool.and_eq_true,decide_eq_true_eq] at hoi
        refine Sh.congr d _ _ _ hoi.1.1 (fun j hj=>?_) (hG (fl.offset,fl.type) ⟨i,fl,hi,rfl,rfl⟩).2
        have h1:=List.all_eq_true.1 hoi.2 j (List.mem_range.2 hj)
        split at h1
        · rename_i g hg
          simp only [Bool.and_eq_true,beq_iff_eq] at h1
          simp only [hg,h1.1,h1.2]
          congr 1;omega
        · simp at h1
     case array n e=>
      simp only [Bool.and_eq_true,beq_iff_eq] at ho
      obtain ⟨xs,m,rfl,hx,hlen,hxs,hf⟩:=DataW.trod_array hu h
      have one:∀(i:Nat),∃f:Nat->CV,i<n->(∀(j:Nat) (v:Value),j<P.cellsOf e->cs[i*P.cellsOf e+j]? =some v->CR (roAll w).ro (f j) v)/\Sh P d e f:=by
       intro i
       by_cases hi:i<n
       · have h1:=hf i hi
         rw [List.getElem?_eq_getElem (by omega)] at h1
         obtain ⟨f,h2,h3,h4⟩:=trod_shape d m e _ _ ho.1 h1 (fun y hy=>hz y (by
          rw [hx]
          simp only [DataW.weights,hu]
          refine mem_weightsAll (i:=i) (x:=(xs[i]'(by omega)).1) ?_ hy
          rw [List.getElem?_map,List.getElem?_eq_getElem (by omega)];rfl))
         refine ⟨f,fun _=>⟨fun j v hj hv=>h3 j v ?_,h4⟩⟩
         rw [List.getElem?_take,if_pos hj,List.getElem?_drop];exact hv
       · exact ⟨fun _=>.b true,fun h=>absurd h hi⟩
      obtain ⟨G,hG⟩:=Classical.axiomOfChoice one
      refine ⟨fun j=>G (j / P.cellsOf e) (j % P.cellsOf e),hlen,fun j v hv=>?_,fun i hi=>?_⟩
      · have hj:j<n*P.cellsOf e:=by rw [ho.2,<-hlen];exact (List.getElem?_eq_some_iff.1 hv).1
        have hz:0<P.cellsOf e:=by
         rcases Nat.eq_zero_or_pos (P.cellsOf e) with h0 | h0
         · rw [h0] at hj;omega
         · exact h0
        refine (hG _ ((Nat.div_lt_iff_lt_mul hz).2 hj)).1 _ v (Nat.mod_lt _ hz) ?_
        rw [Nat.mul_comm,Nat.div_add_mod];exact hv
      · refine Sh.congr d _ _ _ ho.1 (fun j hj=>?_) (hG i hi).2
        have hz:0<P.cellsOf e:=by omega
        simp only
        rw [Nat.mul_comm i,Nat.mul_add_div hz,Nat.mul_add_mod,Nat.div_eq_of_lt hj,Nat.mod_eq_of_lt hj,Nat.add_zero]
     all_goals simp at ho
theorem VRs_of_get {ρ:Rho}:∀(l:List AV) (vs:List Value),l.length=vs.length->(∀(j:Nat) (a:AV) (v:Value),l[j]? =some a->vs[j]? =some v->VR ρ a v)->VRs ρ l vs
 | [],[],_,_=>.nil
 | a :: l,v :: vs,hl,h=>.cons _ _ _ _ (h 0 a v rfl rfl) (VRs_of_get l vs (by simpa using hl) fun j a v h1 h2=>h (j+1) a v (by simpa using h1) (by simpa using h2))
 | [],_ :: _,hl,_=>by simp at hl
 | _ :: _,[],hl,_=>by simp at hl
noncomputable def argAV (P:Program) (t:TypeId) (f:Nat->CV):AV:=
 match P.underlying t with
 | some (.struct _) | some (.array _ _)=>.agg ((List.range (P.cellsOf t)).map fun j=>toAV (f j))
 | _=>toAV (f 0)
def CLe (a b:CV):Prop:=∀(ro:Nat->Nat->Option Value) (v:Value),CR ro a v->CR ro b v
theorem CLe.refl (a:CV):CLe a a:=fun _ _ h=>h
theorem CLe.of {a b:CV} (h:a=b):CLe a b:=by subst h;exact .refl _
theorem arg_shape {H:Type} {enc:TypeId×Value->H} {P:Program} {w:World} {base b0:Nat} {held:Bool} {r:Reach} {sp:Nat->Bool} {t:TypeId} {v:Value} {D:DataW H} {ps:List MemPlace} (d:Nat) (ho:okT P d t=true)
 (hval:Value.okWide P w r b0 t v) (hd:DataW.Trod enc P w base sp held t v D ps) (hz:∀y∈D.weights P t,y<=reachBytes):∃f:Nat->CV,(∀f':Nat->CV,(∀j,j<P.cellsOf t->CLe (f j) (f' j))->VR (roAll w) (argAV P t f') v)/\Sh P d t f:=by
 obtain ⟨fuel,hf⟩:=hd
 obtain ⟨f0,h1,h20,h3⟩:=trod_shape d fuel t _ _ ho hf hz
 refine ⟨f0,?_,h3⟩
 intro f hf'
 have h2:∀(j:Nat) (x:Value),v.cells.toList[j]? =some x->CR (roAll w).ro (f j) x:=fun j x hx=>hf' j (by rw [<-h1];exact (List.getElem?_eq_some_iff.1 hx).1) _ _ (h20 j x hx)
 have agg:∀cs:Array Value,v=.agg cs->VR (roAll w) (.agg ((List.range (P.cellsOf t)).map fun j=>toAV (f j))) v:=by
  intro cs hv
  subst hv
  have h1':cs.toList.length=P.cellsOf t:=h1
  have:=VR.agg (ρ:=roAll w) ((List.range (P.cellsOf t)).map fun j=>toAV (f j)) cs.toList (VRs_of_get _ _ (by simpa using h1'.symm) fun j a x ha hx=>by
   rw [List.getElem?_map,Option.map_eq_some_iff] at ha
   obtain ⟨i,hi,rfl⟩:=ha
   rw [List.getElem?_eq_some_iff] at hi
   obtain ⟨_,hi⟩:=hi
   rw [List.getElem_range] at hi
   subst hi
   exact toAV_VR (h2 _ _ hx))
  simpa using this
 unfold argAV
 cases d with
 | zero=>simp [okT] at ho
 | succ d=>
   unfold okT at ho
   cases hu:P.underlying t with
   | none=>rw [hu] at ho;simp at ho
   | some u=>
     rw [hu] at ho
     cases u<;>try dsimp only at ho⊢
     case bool=>obtain ⟨b,rfl⟩:=okWide_bool hu hval;exact toAV_VR (h2 0 _ rfl)
     case int k=>obtain ⟨n,rfl⟩:=okWide_int hu hval;exact toAV_VR (h2 0 _ rfl)
     case string=>obtain ⟨n,rfl⟩:=okWide_string hu hval;exact toAV_VR (h2 0 _ rfl)
     case slice e=>obtain ⟨a,l,c,rfl⟩:=okWide_slice hu hval;exact toAV_VR (h2 0 _ rfl)
     case struct fs=>obtain ⟨cs,rfl,_⟩:=okWide_struct hu hval;exact agg cs rfl
     case array n e=>
      simp only [Value.okWide,hu] at hval
      obtain ⟨cs,rfl,_⟩:=hval
      exact agg cs rfl
     all_goals simp at ho
def fld (P:Program) (t:TypeId) (i:Nat):Option (TypeId×Nat):=
 match P.underlying t with
 | some (.struct fs)=>fs[i]?.map fun f=>(f.type,f.offset)
 | _=>none
structure Shp (P:Program) (d:Nat) (t:TypeId) (f:Nat->CV):Prop where
 sh:Sh P d t f
theorem weigh {H:Type} {P:Program} {ts:List TypeId} {ds:List (DataW H)} (h:(DataW.weightsEach P ts ds).all (·<=reachBytes)=true) {i:Nat} {t:TypeId} {x:DataW H} (ht:ts[i]? =some t) (hx:ds[i]? =some x):∀y∈x.weights P t,y<=reachBytes:=by
 intro y hy
 simpa using List.all_eq_true.1 h y (mem_weightsEach ht hx hy)
theorem arg_shp {H:Type} {enc:TypeId×Value->H} {P:Program} {w:World} {base b0:Nat} {held:Bool} {r:Reach} {sp:Nat->Bool} {t:TypeId} {v:Value} {D:DataW H} {ps:List MemPlace} (d:Nat) (ho:okT P d t=true)
 (hval:Value.okWide P w r b0 t v) (hd:DataW.Trod enc P w base sp held t v D ps) (hz:∀y∈D.weights P t,y<=reachBytes):∃f:Nat->CV,(∀f':Nat->CV,(∀j,j<P.cellsOf t->CLe (f j) (f' j))->VR (roAll w) (argAV P t f') v)/\Shp P d t f:=
 let ⟨f,h1,h2⟩:=arg_shape d ho hval hd hz
 ⟨f,h1,⟨h2⟩⟩
section
variable {P:Program} {D:Nat} (d:Nat) {t:TypeId} {f:Nat->CV}
theorem Shp.int {k:IntKind} (hD:D=d+1) (h:Shp P D t f) (hu:P.underlying t=some (.int k)):∃n,f 0=.i k n/\(Lit.int k n).wf=true:=by
 have h:=h.sh
 subst hD;unfold Sh at h;rw [hu] at h;exact h
theorem Shp.string (hD:D=d+1) (h:Shp P D t f) (hu:P.underlying t=some .string):∃l:List Nat,f 0=.s l/\(∀x∈l,x<256)/\l.length<=maxLen/\l.length<=reachBytes:=by
 have h:=h.sh
 subst hD;unfold Sh at h;rw [hu] at h;exact h
theorem Shp.field {i:Nat} {e:TypeId} {o:Nat} (hD:D=d+1) (h:Shp P D t f) (hf:fld P t i=some (e,o)):Shp P d e (fun j=>f (o+j)):=by
 have h:=h.sh
 subst hD;unfold Sh at h
 unfold fld at hf
 split at hf
 · rename_i fs hu
   rw [hu] at h
   rw [Option.map_eq_some_iff] at hf
   obtain ⟨fl,h1,h2⟩:=hf
   simp only [Prod.mk.injEq] at h2
   have:=h i fl h1
   rw [h2.1,h2.2] at this
   exact ⟨this⟩
 · simp at hf
end
end Go.Sim
