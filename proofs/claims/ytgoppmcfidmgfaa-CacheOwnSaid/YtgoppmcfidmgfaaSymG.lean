/- Runs over unknown values, told by the kernel: part SymG. -/
import Derived.Test.YtgoppmcfidmgfaaSymF
import Derived.WalkKit
import Derived.ProofKit
import Derived.OpenShut
set_option linter.unusedSimpArgs false
set_option linter.unusedVariables false
/- A run tells what the model does. -/
namespace Go.Sim
open Go
theorem Node.congr {P:Program} {ops:Array Oper} {n:Nat} {H0:AH} {tmf tmf':Nat->T AV} {nxf nxf':Nat->Nat} {recf recf':Nat->List DRec} {val val':Nat->AV} {i:Nat} {o:Oper}
 (h:Node P ops n H0 tmf nxf recf val i o) (t1:tmf' i=tmf i) (t2:tmf' (i+1)=tmf (i+1)) (n1:nxf' i=nxf i) (n2:nxf' (i+1)=nxf (i+1)) (r1:recf' i=recf i) (r2:recf' (i+1)=recf (i+1)) (v1:val' i=val i) :
 Node P ops n H0 tmf' nxf' recf' val' i o:=
 ⟨by rw [t1,t2,v1];exact h.put,by
   rcases h.step with ⟨hw,Hi,H',hn,h3,h4⟩ | hs
   · refine .inl ⟨by rw [t1];exact hw,Hi,H',⟨by rw [n1];exact hn.next,hn.log,by rw [r1];exact hn.sub,by rw [t1,v1];exact hn.does,by rw [r1];exact hn.chk⟩,by rw [n2];exact h3,by rw [r2,r1,v1];exact h4⟩
   · rw [t1,n1,n2,r1,r2,v1];exact .inr hs⟩
theorem masks_length:∀(l:List Oper) (prev:List Nat),(masks l prev).length=prev.length+l.length
 | [],prev=>rfl
 | o :: r,prev=>by simp only [masks,masks_length r,List.length_append,List.length_cons,List.length_nil];omega
def left (m:Nat) (listed:Array Bool):Nat:=((List.range m).filter fun i=>!listed.getD i false).length
theorem left_step {m i:Nat} {listed:Array Bool} (hs:listed.size=m) (hi:i<m) (h:listed.getD i false=false):left m (listed.setIfInBounds i true)+1=left m listed:=by
 unfold left
 have key:∀(l:List Nat),l.Nodup->(i∈l->(l.filter fun j=>!(listed.setIfInBounds i true).getD j false).length+1=(l.filter fun j=>!listed.getD j false).length)/\
  (i∉l->(l.filter fun j=>!(listed.setIfInBounds i true).getD j false).length=(l.filter fun j=>!listed.getD j false).length):=by
  intro l
  induction l with
  | nil=>intro _;simp
  | cons x l ih=>
    intro hnd
    obtain ⟨hx,hnd⟩:=List.nodup_cons.1 hnd
    obtain ⟨ih1,ih2⟩:=ih hnd
    have hset:(listed.setIfInBounds i true).getD i false=true:=by simp [hs,hi]
    have hne:∀j,j≠i->(listed.setIfInBounds i true).getD j false=listed.getD j false:=fun j hj=>getD_set_ne false (Ne.symm hj)
    constructor
    · intro hm
      by_cases e:x=i
      · subst e
        simp only [List.filter_cons,hset,h,Bool.not_true,Bool.false_eq_true,if_false,Bool.not_false,if_true,List.length_cons]
        rw [ih2 hx]
      · have hm':i∈l:=by
         cases hm with
         | head=>exact absurd rfl e
         | tail _ hm=>exact hm
        simp only [List.filter_cons,hne x e]
        split
        · simp only [List.length_cons];have:=ih1 hm';omega
        · exact ih1 hm'
    · intro hm
      simp only [List.mem_cons,not_or] at hm
      have e:x≠i:=fun q=>hm.1 q.symm
      simp only [List.filter_cons,hne x e]
      split
      · simp only [List.length_cons];rw [ih2 hm.2]
      · exact ih2 hm.2
 exact (key _ (List.nodup_range)).1 (List.mem_range.2 hi)
theorem left_zero {m:Nat} {listed:Array Bool} (h:left m listed=0):∀j,j<m->listed.getD j false=true:=by
 intro j hj
 unfold left at h
 rw [List.length_eq_zero_iff,List.filter_eq_nil_iff] at h
 have:=h j (List.mem_range.2 hj)
 simpa using this
section
variable {P:Program} {ops:Array Oper} {n:Nat} {H0:AH} {tmf:Nat->T AV} {nxf:Nat->Nat} {recf:Nat->List DRec} {val:Nat->AV}
theorem draw_any {r0:Option Nat} (hreg:regOk P ops=true) (hn:∀i o,ops[i]? =some o->Node P ops n H0 tmf nxf recf val i o) (h0:recf 0=[]) (hnx:nxf 0=H0.next)
 {ρ0:Rho} {w0:World} {ds:List Deferred} (hfresh:Fresh ρ0 H0 (nxf ops.size)) {Q:Exit->Act->World->Prop}
 (hQ:∀a w ρ,Inv ops n H0 (tmf 0) nxf recf val ρ0 w0 ds (fun j=>decide (j<ops.size)) a w ρ->Q .normal a w) :
 ∀(fuel:Nat) (listed:Array Bool) (a:Act) (w:World) (ρ:Rho),listed.size=ops.size->left ops.size listed=fuel->
  (∀j,listed.getD j false=true->∀k,(mk ops j).testBit k=true->listed.getD k false=true)->
  Inv ops n H0 (tmf 0) nxf recf val ρ0 w0 ds (fun j=>listed.getD j false) a w ρ->wpAnyIn (FR r0) 0 P .any ops Q fuel listed a w:=by
 have hedge:edgesBack ops.toList 0=true:=by
  simp only [regOk,Bool.and_eq_true] at hreg;exact hreg.2.1
 have hall:∀(listed:Array Bool),listed.size=ops.size->Region.ready .any ops listed=[]->∀j,j<ops.size->listed.getD j false=true:=by
  intro listed hs hr j
  induction j using Nat.strongRecOn with
  | _ j ih=>
    intro hj
    cases hl:listed.getD j false with
    | true=>rfl
    | false=>
      exfalso
      obtain ⟨o,ho⟩:∃o,ops[j]? =some o:=⟨_,Array.getElem?_eq_getElem hj⟩
      have hlt:listed.getD j true=false:=by
       have hjs:j<listed.size:=by omega
       simpa [hjs] using hl
      have:j∈Region.ready .any ops listed:=by
       rw [mem_ready]
       refine ⟨hlt,o,ho,?_⟩
       intro e he hb
       have:=edgesBack_at ops.toList 0 j o hedge (by simpa using ho) e he hb
       exact ih e.on (by omega) (by omega)
      rw [hr] at this;simp at this
 have hfin:∀(listed:Array Bool) (a:Act) (w:World) (ρ:Rho),listed.size=ops.size->(∀j,j<ops.size->listed.getD j false=true)->Inv ops n H0 (tmf 0) nxf recf val ρ0 w0 ds (fun j=>listed.getD j false) a w ρ->Q .normal a w:=by
  intro listed a w ρ hs hl inv
  refine hQ a w ρ ?_
  have:(fun j=>listed.getD j false)=fun j=>decide (j<ops.size):=by
   funext j
   by_cases hj:j<ops.size
   · rw [hl j hj];simp [hj]
   · have:¬j<listed.size:=by omega
     simp [this,hj]
  rw [<-this];exact inv
 intro fuel
 induction fuel with
 | zero=>
   intro listed a w ρ hs hleft hcl inv
   have hl:=left_zero hleft
   refine ⟨?_,hfin listed a w ρ hs hl inv⟩
   rw [List.eq_nil_iff_forall_not_mem]
   intro j hj
   rw [mem_ready] at hj
   obtain ⟨h1,o,ho,_⟩:=hj
   have hj':j<ops.size:=(Array.getElem?_eq_some_iff.1 ho).1
   have h2:=hl j hj'
   have hjs:j<listed.size:=by omega
   simp [hjs] at h1 h2
   rw [h1] at h2;simp at h2
 | succ fuel ih=>
   intro listed a w ρ hs hleft hcl inv
   refine ⟨fun hr=>hfin listed a w ρ hs (hall listed hs hr) inv,?_⟩
   intro i hi
   rw [mem_ready] at hi
   obtain ⟨h1,o,ho,hedges⟩:=hi
   have hlt:i<ops.size:=(Array.getElem?_eq_some_iff.1 ho).1
   have his:i<listed.size:=by omega
   have hDi:listed.getD i false=false:=by simp [his] at h1⊢;exact h1
   have hready:∀k,(mk ops i).testBit k=true->listed.getD k false=true:=by
    intro k hk
    rw [mk_bit ho] at hk
    obtain ⟨e,he,hb,hk | ⟨_,hk⟩⟩:=hk
    · rw [hk];exact hedges e he hb
    · exact hcl e.on (hedges e he hb) k hk
   have hD':∀j,(listed.setIfInBounds i true).getD j false=if j=i then true else listed.getD j false:=by
    intro j
    by_cases e:j=i
    · subst e;simp [his]
    · rw [if_neg e];exact getD_set_ne false (Ne.symm e)
   have step:=draw_step (r0:=r0) (K:=wpAnyIn (FR r0) 0 P .any ops Q fuel (listed.setIfInBounds i true)) (Q:=Q) hreg hn h0 hnx hfresh (D:=fun j=>listed.getD j false) (D':=fun j=>(listed.setIfInBounds i true).getD j false) ho hDi hD' (fun j hj=>by
    rcases Nat.lt_or_ge j listed.size with h | h
    · omega
    · have hj':listed.getD j false=true:=hj
      have:¬j<listed.size:=by omega
      simp [this] at hj') hcl hready inv (fun a' w' ρ' inv'=>ih _ a' w' ρ' (by simp [hs]) (by have:=left_step hs hlt hDi;omega) (by
       intro j hj k hk
       rw [hD'] at hj⊢
       split
       · rfl
       · split at hj
         · rename_i e;subst e;exact hready k hk
         · exact hcl j hj k hk) inv')
   unfold wpOpIn
   rw [ho]
   simp only
   split
   · rename_i hw;rw [if_pos hw] at step;exact step
   · rename_i hw;rw [if_neg hw] at step;exact step
end
theorem region_nodes {r0:Option Nat} {P:Program} {ops:Array Oper} {id n:Nat} {tm:T AV} {H:AH} (hreg:regOk P ops=true) {tmf:Nat->T AV} {nxf:Nat->Nat} {recf:Nat->List DRec} {val:Nat->AV} (e1:tmf 0=tm) (e2:nxf 0=H.next) (e3:recf 0=[])
 (hn':∀i o,ops[i]? =some o->Node P ops n H tmf nxf recf val i o) {ρ:Rho} {a:Act} {w:World} {Q:Exit->Act->World->Prop}
 (ht:TR ρ tm n a.tmps) (hh:HR ρ H w) (hf:Fresh ρ H (nxf ops.size))
 (hQ:∀a' w' ρ',TR ρ' (tmf ops.size) n a'.tmps->a'.defers=a.defers->HR ρ' { tree:=appSel (fun _=>true) (recf ops.size) H.tree,next:=nxf ops.size,log:=allIds (recf ops.size) H.log} w'->
   Ext ρ H w ρ' { tree:=appSel (fun _=>true) (recf ops.size) H.tree,next:=nxf ops.size,log:=allIds (recf ops.size) H.log} w'->Q .normal a' w'):(Code.region id ops true).wpIn (FR r0) 0 P Q a w:=by
 have hmix:P.follows .mixedOrders=true:=by simp only [regOk,Bool.and_eq_true] at hreg;exact hreg.1
 have hd:dstsOk ops.toList=true:=by simp only [regOk,Bool.and_eq_true] at hreg;exact hreg.2.2.2.1
 refine wpIn_region_any hmix ?_
 have hK0:∀A,(KD ops H nxf recf fun _=>false).get A=H.get A:=by
  intro A
  show (appSel (fun _=>false) (recf ops.size) H.tree).get A=H.tree.get A
  exact appSel_none _ fun r _ hp=>by simp at hp
 have hmono:H.next<=nxf ops.size:=by
  have:=nxf_mono hn' ops.size 0 (by omega)
  simpa [e2] using this
 refine draw_any hreg hn' e3 e2 (ρ0:=ρ) (w0:=w) (ds:=a.defers) hf ?_ ops.size _ a _ ρ (by simp) ?_ ?_ ?_
 · -- the end
   intro a' w' ρ' inv
   have hKe:∀A,(KD ops H nxf recf fun j=>decide (j<ops.size)).get A=(appSel (fun _=>true) (recf ops.size) H.tree).get A:=by
    intro A
    refine appSel_get_agree _ ?_
    intro r hr _
    have:=recf_low hn' e3 ops.size (Nat.le_refl _) r hr
    simp [this]
   refine hQ a' w' ρ' ⟨inv.size,?_⟩ inv.defers (inv.heap.sub fun A o hA=>?_) (inv.ext.sub (fun A o hA=>?_) rfl)
   · intro t v hv
     rw [tmf_eq hd hn' ops.size (Nat.le_refl _) t] at hv
     exact inv.frame t v hv
   · rw [hKe];exact hA
   · rw [hKe];exact hA
 · unfold left
   have:((List.range ops.size).filter fun i=>!(Array.replicate ops.size false).getD i false)=List.range ops.size:=by
    rw [List.filter_eq_self]
    intro i hi
    have:=List.mem_range.1 hi
    simp [this]
   rw [this];simp
 · intro j hj
   have:(Array.replicate ops.size false).getD j false=false:=by
    by_cases hlt:j<ops.size<;>simp [hlt]
   rw [this] at hj;simp at hj
 · have hD:(fun j=>(Array.replicate ops.size false).getD j false)=fun _=>false:=by
    funext j
    by_cases hlt:j<ops.size<;>simp [hlt]
   rw [hD]
   refine ⟨ht.size,rfl,?_,?_,?_,fun A x hA=>.inl hA⟩
   · intro t v hv
     have:frD ops (tmf 0) val (fun _=>false) t=(tmf 0).get t:=by
      unfold frD;split<;>simp
     rw [this,e1] at hv;exact ht.get t v hv
   · exact (hh.sub fun A o hA=>by rw [hK0] at hA;exact hA).drew
   · exact ⟨hmono,.refl _,fun _ _ h=>.inl h,Nat.le_refl _,fun _ _ _=>rfl,fun A o x hA hx=>.inr ⟨A,o,x,by rw [hK0] at hA;exact hA,hx,rfl⟩,fun _ _ _ h=>.inl h,rfl,rfl,rfl⟩
end Go.Sim
/- A run tells what the model does: code, loops, operations, calls. -/
namespace Go.Sim
open Go
def XO.ex:XO->Exit
 | .nrm=>.normal
 | .exit id=>.exit id
 | .ret=>.ret
def LoopWp (r:Option Nat) (P:Program) (c:Code) (Q:Exit->Act->World->Prop) (a:Act) (w:World):Prop:=
 ∀(b:Frame) (k:List Item) (cs:List Frame),b.roundOf=r->∃e a' w',Q e a' w'/\ArrivesIn (Machine.fenced P (FR r)) P (lone (b.atR a (.inLoop c :: k)) cs w) b k cs e a' w'
theorem loop_round {r:Option Nat} {P:Program} {c:Code} {Q:Exit->Act->World->Prop} {a:Act} {w:World} (h:c.wpIn (FR r) 0 P (Exit.then (LoopWp r P c Q) Q) a w) (b:Frame) (k:List Item) (cs:List Frame) (hro:b.roundOf=r) :
 ∃e a' w',Q e a' w'/\ArrivesIn (Machine.fenced P (FR r)) P (lone (b.atR a (.code c :: .inLoop c :: k)) cs w) b k cs e a' w':=by
 obtain ⟨e,a₁,w₁,hq,harr⟩:=h b (.inLoop c :: k) cs hro trivial (room_FR r _)
 cases e with
 | normal=>
   obtain ⟨e₂,a₂,w₂,hq₂,harr₂⟩:=hq b k cs hro
   exact ⟨e₂,a₂,w₂,hq₂,.of_steps harr harr₂⟩
 | exit id=>exact ⟨_,a₁,w₁,hq,.pass (x:=.inLoop c) rfl (fun _ _=>.inl (by simp)) harr⟩
 | goto l=>exact ⟨_,a₁,w₁,hq,.pass (x:=.inLoop c) rfl (fun _ _=>.inl (by simp)) harr⟩
 | ret=>exact ⟨_,a₁,w₁,hq,.pass (x:=.inLoop c) rfl (fun _ _=>.inl (by simp)) harr⟩
 | panic ch=>exact ⟨_,a₁,w₁,hq,.pass (x:=.inLoop c) rfl (fun _ _=>.inl (by simp)) harr⟩
 | outgrown=>exact ⟨_,a₁,w₁,hq,.pass (x:=.inLoop c) rfl (fun _ _=>.inl (by simp)) harr⟩
theorem loopWp_of {r:Option Nat} {P:Program} {c:Code} {Q:Exit->Act->World->Prop} {a:Act} {w:World} (h:c.wpIn (FR r) 0 P (Exit.then (LoopWp r P c Q) Q) a w):LoopWp r P c Q a w:=by
 intro b k cs hro
 obtain ⟨e,a',w',q,r'⟩:=loop_round h b k cs hro
 exact ⟨e,a',w',q,.of_steps (.one (fenced_calm (F:=FR r) (n:=0) trivial (room_FR r _) rfl) stepR_inLoop) r'⟩
theorem wp_loop_of {r:Option Nat} {P:Program} {c:Code} {Q:Exit->Act->World->Prop} {a:Act} {w:World} (h:c.wpIn (FR r) 0 P (Exit.then (LoopWp r P c Q) Q) a w):(Code.loop c).wpIn (FR r) 0 P Q a w:=by
 intro b k cs hro _ _
 obtain ⟨e,a',w',q,r'⟩:=loop_round h b k cs hro
 exact ⟨e,a',w',q,.of_steps (.one (fenced_calm (F:=FR r) (n:=0) trivial (room_FR r _) rfl) stepR_loop) r'⟩
noncomputable def rfC (c:Code):Bool:=
 Code.rec (motive:=fun _=>Bool) false (fun _ _ _=>false) (fun _ _ a b=>a || b) (fun _ _ _ a b=>a || b) (fun _ _ a=>a) (fun _ a=>a) (fun _ _ _ _ _ _=>true) (fun _=>false) (fun _ a=>a) (fun _=>false) (fun _=>false) false (fun _=>false) c
theorem rfC_seq (a b:Code):rfC (.seq a b)=(rfC a || rfC b):=rfl
theorem rfC_cond (x:Operand) (a b:Code):rfC (.cond x a b)=(rfC a || rfC b):=rfl
def RfOk (r0:Option Nat) (c:Code):Prop:=rfC c=true->r0=none
theorem RfOk.mono {r0:Option Nat} {c d:Code} (h:RfOk r0 c) (hs:rfC d=true->rfC c=true):RfOk r0 d:=fun q=>h (hs q)
theorem RfOk.l {r0:Option Nat} {a b:Code} (h:RfOk r0 (.seq a b)):RfOk r0 a:=h.mono fun q=>by simp [rfC_seq,q]
theorem RfOk.r {r0:Option Nat} {a b:Code} (h:RfOk r0 (.seq a b)):RfOk r0 b:=h.mono fun q=>by simp [rfC_seq,q]
def markD (D:Nat):Deferred:={ target:=.collected D,args:=#[]}
def Dfr (ds:List Deferred) (w:World) (ds':List Deferred) (w':World):Prop:=
 ∃Ds:List Nat,ds'=Ds.map markD ++ ds/\Ds.Nodup/\∀D,D∈Ds->w.heap.size<=D/\w'.heap[D]? =some (.deferred (some []))
theorem Dfr.of_eq {ds ds':List Deferred} {w w':World} (h:ds'=ds):Dfr ds w ds' w':=⟨[],by simp [h],.nil,by simp⟩
theorem HR.notDef {ρ:Rho} {H:AH} {w:World} (h:HR ρ H w) {D:Nat} {l:Option (List Deferred)} (hd:w.heap[D]? =some (.deferred l)):∀A o x,H.get A=some o->ρ A=some x->x.1≠D:=by
 rintro A o x hA hx rfl
 rcases h.live A o hA with ⟨x',hx',hb⟩ | ⟨_,hn⟩
 · rw [hx] at hx';simp at hx';subst hx'
   cases o with
   | cells e size dflt cs=>obtain ⟨c,fr,h1,_⟩:=hb;rw [h1] at hd;simp at hd
   | map es cl=>obtain ⟨es',h1,_⟩:=hb;rw [h1] at hd;simp at hd
   | rows e sz n f=>obtain ⟨c,fr,h1,_⟩:=hb;rw [h1] at hd;simp at hd
   | segs e sz l qs=>obtain ⟨c,fr,h1,_⟩:=hb;rw [h1] at hd;simp at hd
   | lp st n prm asg body tm=>obtain ⟨r,h1,_⟩:=hb;rw [h1] at hd;simp at hd
   | mp b k z g f c=>obtain ⟨_,_,es,h1,_⟩:=hb;rw [h1] at hd;simp at hd
 · rw [hx] at hn;simp at hn
theorem heap_lt {w:World} {D:Nat} {o:Obj} (h:w.heap[D]? =some o):D<w.heap.size:=by
 rcases Nat.lt_or_ge D w.heap.size with q | q
 · exact q
 · rw [Array.getElem?_eq_none q] at h;simp at h
theorem Dfr.trans {ds ds1 ds2:List Deferred} {w w1 w2:World} {ρ1:Rho} {H1:AH} (h1:Dfr ds w ds1 w1) (h2:Dfr ds1 w1 ds2 w2) (hh:HR ρ1 H1 w1) (hs:w.heap.size<=w1.heap.size)
 (hf:∀B,B<w1.heap.size->(∀A o x,H1.get A=some o->ρ1 A=some x->x.1≠B)->w2.heap[B]? =w1.heap[B]?):Dfr ds w ds2 w2:=by
 obtain ⟨Ds1,e1,n1,k1⟩:=h1
 obtain ⟨Ds2,e2,n2,k2⟩:=h2
 refine ⟨Ds2 ++ Ds1,by rw [e2,e1];simp,List.nodup_append.2 ⟨n2,n1,?_⟩,?_⟩
 · rintro D h2 D' h1 rfl
   have:=heap_lt (k1 D h1).2
   have:=(k2 D h2).1
   omega
 · intro D hD
   rcases List.mem_append.1 hD with hD | hD
   · exact ⟨Nat.le_trans hs (k2 D hD).1,(k2 D hD).2⟩
   · have hd:=(k1 D hD).2
     exact ⟨(k1 D hD).1,by rw [hf D (heap_lt hd) (hh.notDef hd)];exact hd⟩
structure Shut (Ds:List Nat) (w w':World):Prop where
 size:w'.heap.size=w.heap.size
 heap:∀B,B∉Ds->w'.heap[B]? =w.heap[B]?
 tape:w'.tape=w.tape
 os:w'.os=w.os
 output:w'.output=w.output
theorem leaves_marks {F:Fence} {n:Nat} {P:Program} {fn:Func} {tmps:Array Value} {R:Ending->World->Prop}:∀(Ds:List Nat) (w:World),Ds.Nodup->(∀D,D∈Ds->w.heap[D]? =some (.deferred (some [])))->
 (∀w',Shut Ds w w'->LeavesIn F n P fn tmps R [] .returning w')->LeavesInM F n P fn tmps R (Ds.map markD ++ []) .returning w
 | [],w,_,_,h=>h w ⟨rfl,fun _ _=>rfl,rfl,rfl,rfl⟩
 | D :: Ds,w,hn,hd,h=>by
   have hD:=hd D (List.mem_cons_self ..)
   refine ⟨by simp,.inl ⟨D,_,rfl,run_takeDeferred hD,?_⟩⟩
   have hn':=List.nodup_cons.1 hn
   refine leaves_marks Ds _ hn'.2 (fun D' h'=>?_) (fun w' hs=>?_)
   · rw [World.putObj_heap_other (by rintro rfl;exact hn'.1 h')];exact hd D' (List.mem_cons_of_mem _ h')
   · refine h w' ⟨hs.size.trans World.putObj_size,fun B hB=>?_,hs.tape,hs.os,hs.output⟩
     rw [List.mem_cons,not_or] at hB
     rw [hs.heap B hB.2,World.putObj_heap_other hB.1]
theorem HR.shut {ρ:Rho} {H:AH} {w w':World} {Ds:List Nat} (h:HR ρ H w) (hd:∀D,D∈Ds->w.heap[D]? =some (.deferred (some []))) (hs:Shut Ds w w'):HR ρ H w':=by
 refine ⟨fun A o hA=>?_,h.inj,fun A x hx=>by rw [hs.size];exact h.range A x hx,fun B j v hv=>?_,h.rox⟩
 · rcases h.live A o hA with ⟨x,hx,hb⟩ | hv
   · exact .inl ⟨x,hx,hb.congr (hs.heap _ fun hm=>h.notDef (hd _ hm) A o x hA hx rfl)⟩
   · exact .inr hv
 · obtain ⟨c,e,fr,h1,h2⟩:=h.ro B j v hv
   refine ⟨c,e,fr,?_,h2⟩
   rw [hs.heap B fun hm=>by rw [hd B hm] at h1;simp at h1];exact h1
theorem Ext.shut {ρ ρ':Rho} {H H':AH} {w w1 w2:World} {Ds:List Nat} (h:Ext ρ H w ρ' H' w1) (hd:∀D,D∈Ds->w.heap.size<=D) (hs:Shut Ds w1 w2):Ext ρ H w ρ' H' w2 where
 next:=h.next
 ext:=h.ext
 dom:=h.dom
 size:=by rw [hs.size];exact h.size
 frame:=fun B hB hn=>by
  rw [hs.heap B fun hm=>by have:=hd B hm;omega];exact h.frame B hB hn
 img:=h.img
 roimg:=h.roimg
 tape:=hs.tape.trans h.tape
 os:=hs.os.trans h.os
 output:=hs.output.trans h.output
theorem post_marks {F:Fence} {n:Nat} {P:Program} {fn:Func} {R:Ending->World->Prop} {e:Exit} {a:Act} {w0 w:World} (he:e=.normal\/e=.ret) (hd:Dfr [] w0 a.defers w)
 (h:∀Ds w',(∀D,D∈Ds->w0.heap.size<=D/\w.heap[D]? =some (.deferred (some [])))->Shut Ds w w'->∃v,(results fn a.tmps).run P w'=.ok v w'/\R (.returned v) w'):bodyPostM F n P fn R e a w:=by
 obtain ⟨Ds,e1,n1,k1⟩:=hd
 have:LeavesInM F n P fn a.tmps R a.defers .returning w:=by
  rw [e1]
  exact leaves_marks Ds w n1 (fun D hD=>(k1 D hD).2) fun w' hs=>h Ds w' k1 hs
 rcases he with rfl | rfl<;>exact this
def Then (n:Nat) (ρ:Rho) (H:AH) (w:World) (a:Act) (x:XO) (tm':T AV) (H':AH) (Q:Exit->Act->World->Prop):Prop:=
 ∀a' w' ρ',TR ρ' tm' n a'.tmps->Dfr a.defers w a'.defers w'->HR ρ' H' w'->Ext ρ H w ρ' H' w'->Q x.ex a' w'
theorem Then.after {n:Nat} {ρ ρ1:Rho} {H H1 H':AH} {w w1:World} {a a1:Act} {x:XO} {tm':T AV} {Q:Exit->Act->World->Prop} (h:Then n ρ H w a x tm' H' Q) (hd:Dfr a.defers w a1.defers w1) (hh1:HR ρ1 H1 w1) (he:Ext ρ H w ρ1 H1 w1):Then n ρ1 H1 w1 a1 x tm' H' Q:=
 fun a' w' ρ' ht hd' hh hx=>h a' w' ρ' ht (hd.trans hd' hh1 he.size hx.frame) hh (he.trans hx)
theorem Then.skip {n:Nat} {ρ:Rho} {H:AH} {w:World} {a:Act} {x:XO} {tm:T AV} {Q:Exit->Act->World->Prop} (h:Then n ρ H w a x tm H Q) (ht:TR ρ tm n a.tmps) (hh:HR ρ H w):Q x.ex a w:=
 h a w ρ ht (.of_eq rfl) hh (Ext.refl _ _ _)
theorem resOf_sound {P:Program} {tm:T AV} {H:AH} {n:Nat} {a:Act} {ρ:Rho} {w:World} (ht:TR ρ tm n a.tmps) (hh:HR ρ H w):∀(rs:List ResultVar) (l:List AV),resOf P tm H rs=some l->
 ∃vs:List Value,(rs.mapM (fun | .tmp t=>Pure.pure (a.tmps.getD t undef) | .cell b t=>do loadVar t (<-asAddr (a.tmps.getD b undef)):ResultVar->Sem Value)).run P w=.ok vs w/\VRs ρ l vs
 | [],l,h=>by simp [resOf] at h;subst h;exact ⟨[],by simp,.nil⟩
 | .tmp t :: r,l,h=>by
   simp only [resOf,ob_some] at h
   obtain ⟨v,hv,l',hl,e⟩:=h
   simp at e;subst e
   have hv':=evalO_VR ht hv
   simp only [Act.eval] at hv'
   obtain ⟨vs,h1,h2⟩:=resOf_sound ht hh r l' hl
   refine ⟨a.tmps.getD t undef :: vs,?_,.cons _ _ _ _ hv' h2⟩
   simp only [List.mapM_cons,Sem.run_bind,Sem.run_pure,Result.andThen_ok,h1]
 | .cell b t :: r,l,h=>by
   simp only [resOf,ob_some] at h
   obtain ⟨p,hp,v,hv,l',hl,e⟩:=h
   simp at e;subst e
   have hp':=evalO_VR ht hp
   simp only [Act.eval] at hp'
   obtain ⟨v',ρ',w',g1,g2,g3,g4⟩:=oLoad_sound (P:=P) hv hh hp'
   obtain ⟨vs,h1,h2⟩:=resOf_sound ht hh r l' hl
   unfold oLoad at hv
   split at hv
   · rename_i A o
     generalize hx:a.tmps.getD b undef=x at hp' g1⊢
     cases hp' with | p _ _ B d N hr=>
     -- a load leaves the world alone
     have hsame:∃v'',VR ρ v v''/\(loadVar t ⟨B,d+o,none⟩).run P w=.ok v'' w:=by
      split at hv
      · rename_i e size dflt cs hA
        split at hv
        · rename_i hg
          simp only [ob_some] at hv
          obtain ⟨m,hm,l2,hl2,e2⟩:=hv
          simp at e2;subst e2
          obtain ⟨ws,k1,k2,k3⟩:=hh.readN (P:=P) hA hr hl2
          exact ⟨_,.agg _ _ k1,by simp [loadVar,run_isAgg' hg,run_sizeOf' hm,k3]⟩
        · rename_i hg
          obtain ⟨c,fr,q1,_,_,_,q5⟩:=hh.row hA hr
          obtain ⟨v'',k1,k2,k3⟩:=q5 _ _ hv
          exact ⟨v'',k2,by simp [loadVar,run_isAgg' hg,cell?_of_heap q1,k1]⟩
        · simp at hv
      · simp at hv
     obtain ⟨v'',k1,k2⟩:=hsame
     have hq:(asAddr (a.tmps.getD b undef)).run P w=.ok ⟨B,d+o,none⟩ w:=by rw [hx];rfl
     refine ⟨v'' :: vs,?_,.cons _ _ _ _ k1 h2⟩
     simp only [List.mapM_cons,Sem.run_bind,hq,Result.andThen_ok,k2,h1,Sem.run_pure]
   · simp at hv
theorem results_sound {P:Program} {fn:Func} {tm:T AV} {H:AH} {n:Nat} {a:Act} {ρ:Rho} {w:World} {l:List AV} (ht:TR ρ tm n a.tmps) (hh:HR ρ H w) (h:resOf P tm H fn.results.toList=some l) :
 ∃v',(results fn a.tmps).run P w=.ok v' w/\VR ρ (oneRes l) v':=by
 obtain ⟨vs,h1,h2⟩:=resOf_sound ht hh _ _ h
 have hm:(fn.results.mapM (fun | .tmp t=>Pure.pure (a.tmps.getD t undef) | .cell b t=>do loadVar t (<-asAddr (a.tmps.getD b undef)):ResultVar->Sem Value)).run P w=.ok vs.toArray w:=by
  rw [Array.mapM_eq_mapM_toList]
  simp only [Sem.run_map,h1,Result.andThen_ok]
 refine ⟨if h:vs.toArray.size=1 then vs.toArray[0] else .tuple vs.toArray,?_,?_⟩
 · unfold results
   simp only [Sem.run_bind]
   have:∀g:ResultVar->Sem Value,(∀r,g r=(match r with | .tmp t=>Pure.pure (a.tmps.getD t undef) | .cell b t=>do loadVar t (<-asAddr (a.tmps.getD b undef))))->(fn.results.mapM g).run P w=.ok vs.toArray w:=by
    intro g hg
    rw [show g= _ from funext hg];exact hm
   rw [this _ (fun r=>by cases r<;>rfl)]
   simp only [Result.andThen_ok,Sem.run_pure]
 · cases h2 with
   | nil=>simp [oneRes];exact undef_VR ρ
   | cons v v' r r' hv hr=>
     cases hr with
     | nil=>simpa [oneRes] using hv
     | cons v2 v2' r2 r2' hv2 hr2=>
       simp only [oneRes]
       rw [dif_neg (by simp)]
       exact .tup _ _ (.cons _ _ _ _ hv (.cons _ _ _ _ hv2 hr2))
structure Kept (w w':World):Prop where
 size:w.heap.size<=w'.heap.size
 heap:∀B,B<w.heap.size->w'.heap[B]? =w.heap[B]?
 tape:w'.tape=w.tape
 os:w'.os=w.os
 output:w'.output=w.output
end Go.Sim
/- From a call that leaves all that was there to a row's post. -/
namespace Go.Sim
open Go Go.ChangeShapes Go.WideShapes Go.ChangeAt Go.RowKit
theorem Kept.keptBut {w w':World} (h:Kept w w') (may:MemPlace->Prop):w.keptBut w' may:=by
 refine ⟨h.os,h.output,fun i hi=>?_⟩
 rw [h.heap i hi]
 cases w.heap[i]? with
 | none=>rfl
 | some o=>cases o<;>simp
theorem Kept.frozen {w w':World} (h:Kept w w') (a:Addr) (ha:a.block<w.heap.size):w'.frozen? a=w.frozen? a:=by
 simp only [World.frozen?,h.heap _ ha]
theorem post_of_kept {H:Type} {enc:TypeId×Value->H} {P:Program} {f:Func} {s:ChangeSpec} {apart fresh handsOn again:Bool} {W W':World} {args:Array Value} {v:Value} {ds gs:List (DataW H)} {before pa pv:List MemPlace}
 (hW:DataW.Whole enc P f.params.toList s.vars apart W args.toList ds gs before)
 (hres:∀(b:Nat) (sp:Nat->Bool) (hd:Bool),DataW.TrodAll enc P W' b sp hd f.resultTypes.toList (v.resultList f.resultTypes.size) (s.fn H (ds ++ gs)).results [])
 (hargs:∀sp:Nat->Bool,(∀p∈before,sp p.block=true)->DataW.TrodAll enc P W' 0 sp true f.params.toList args.toList (s.fn H (ds ++ gs)).args pa)
 (hvars:∀sp:Nat->Bool,(∀p∈before,sp p.block=true)->DataW.TrodVars enc P W' sp s.vars (s.fn H (ds ++ gs)).vars pv)
 (hps:before=pa ++ pv) (hk:Kept W W')
 (hok:∀(j:Nat) (t:TypeId) (r:Value),f.resultTypes[j]? =some t->(v.resultList f.resultTypes.size)[j]? =some r->Value.okWide P W' .any 0 t r) :
 s.post enc P f apart fresh handsOn again W args v W':=by
 have hold:∀p∈before,(fun b=>decide (b<W.heap.size)) p.block=true:=fun p hp=>by simpa using hW.lt p hp
 have hlt:=hW.lt
 refine ⟨ds,gs,before,[],pa,pv,hW,hres _ _ _,hargs _ hold,hvars _ hold,World.keptBut_mono (fun p hp=>⟨hp,?_⟩) (hk.keptBut (·∈before)),fun _=>?_⟩
 · rw [hps,List.mem_append] at hp
   exact Or.inr hp
 · obtain ⟨_,_,_,_,_,hz,hn⟩:=hW
   refine ⟨hok,_,_,([] ++ pa) ++ pv,⟨[] ++ pa,pv,trodAll_append (hargs _ (fun _ _=>rfl)) (hres _ _ _),hvars _ (fun _ _=>rfl),rfl,?_,?_⟩,?_⟩
   · intro b off hp
     have hm:MemPlace.cell b off∈before:=by rw [hps];simpa using hp
     rw [hk.frozen _ (hlt _ hm)]
     exact hz b off hm
   · intro ha
     have:=hn ha
     rw [hps] at this
     simpa using this
   · intro p hp _
     rw [hps]
     simpa using hp
end Go.Sim
