/- Runs over unknown values, told by the kernel: part GC. -/
import Derived.Test.YtgoppmcfidmgfaaGB
set_option linter.unusedSimpArgs false
set_option linter.unusedVariables false
set_option maxRecDepth 100000
namespace Go.Proofs.Ly
open Go Go.Sim Go.Proofs Go.Proofs.Cl Go.Proofs.Ytgoppmcfidmgfaa Go.RowKit
noncomputable def op9:Array Oper:=match regAt Try.prog 7 9 with | .region _ o _=>o | _=>#[]
noncomputable def op9i (i:Nat):Oper:=match op9[i]? with | some o=>o | none=>{ dst:=none,op:=.assign (.tmp 0),type:=0,pos:="",after:=#[],guard:=none}
theorem op9_0:op9[0]? =some (op9i 0)/\(op9i 0).op=.load 26 (.tmp 4)/\(op9i 0).dst=some 28/\(op9i 0).guard=none:=by refine ⟨?_,?_,?_,?_⟩<;>kernel_rfl
theorem op9_1:op9[1]? =some (op9i 1)/\(op9i 1).op=.load 27 (.tmp 5)/\(op9i 1).dst=some 29/\(op9i 1).guard=none:=by refine ⟨?_,?_,?_,?_⟩<;>kernel_rfl
theorem op9_2:op9[2]? =some (op9i 2)/\(op9i 2).op=.store 26 (.tmp 2) (.tmp 28)/\(op9i 2).dst=none/\(op9i 2).guard=none:=by refine ⟨?_,?_,?_,?_⟩<;>kernel_rfl
theorem op9_3:op9[3]? =some (op9i 3)/\(op9i 3).op=.store 27 (.tmp 3) (.tmp 29)/\(op9i 3).dst=none/\(op9i 3).guard=none:=by refine ⟨?_,?_,?_,?_⟩<;>kernel_rfl
noncomputable def rdy9 (l:Array Bool):Bool:=(Region.ready .any op9 l).all (fun i=>Nat.blt i 4 && (!l.getD i false && ((!Nat.beq i 2 || l.getD 0 false) && (!Nat.beq i 3 || l.getD 1 false)))) && (!(Region.ready .any op9 l).isEmpty || (l.getD 0 false && l.getD 1 false && l.getD 2 false && l.getD 3 false))
theorem rdy9_ok:∀l0 l1 l2 l3:Bool,rdy9 #[l0,l1,l2,l3]=true:=by
 intro l0 l1 l2 l3
 cases l0<;>cases l1<;>cases l2<;>cases l3<;>kernel_rfl
theorem one_all {A:Array Value} (h:∀v∈A.toList,v.oneCell'=true):A.all (·.oneCell')=true:=by
 rw [Array.all_eq_true_iff_forall_mem]
 intro v hv;exact h v (by simpa using hv)
structure R9 (b0 b1 b2 b3:Nat) (A B:Array Value) (d:List Deferred) (w0:World) (l0 l1 l2 l3:Bool) (a:Act) (w:World):Prop where
 size:a.tmps.size=30
 t2:a.tmps.getD 2 undef=.pointer (some ⟨b0,0,none⟩)
 t3:a.tmps.getD 3 undef=.pointer (some ⟨b1,0,none⟩)
 t4:a.tmps.getD 4 undef=.pointer (some ⟨b2,0,none⟩)
 t5:a.tmps.getD 5 undef=.pointer (some ⟨b3,0,none⟩)
 t28:l0=true->a.tmps.getD 28 undef=.agg A
 t29:l1=true->a.tmps.getD 29 undef=.agg B
 defs:a.defers=d
 h2:w.heap[b2]? =some (.cells A 26 (0,0))
 h3:w.heap[b3]? =some (.cells B 27 (0,0))
 h0:∃X,w.heap[b0]? =some (.cells X 26 (0,0))/\X.size=256/\(l2=true->X=A)
 h1:∃X,w.heap[b1]? =some (.cells X 27 (0,0))/\X.size=128/\(l3=true->X=B)
 fr:w0.heap.size=w.heap.size/\w.tape=w0.tape/\w.os=w0.os/\w.output=w0.output/\∀C,C≠b0->C≠b1->w.heap[C]? =w0.heap[C]?
theorem put_get {a:Act} {t:Nat} {v:Value} (h:t<a.tmps.size) (s:Nat):(a.put (some t) v).tmps.getD s undef=if s=t then v else a.tmps.getD s undef:=by
 simp only [Act.put,Array.getD_eq_getD_getElem?,Array.getElem?_setIfInBounds]
 by_cases e:t=s
 · subst e;simp [h]
 · simp [e,Ne.symm e]
theorem reg9_wp {b0 b1 b2 b3:Nat} {A B:Array Value} {d:List Deferred} {w0:World} {Q:Exit->Act->World->Prop} (hA:A.size=256) (hB:B.size=128) (hA1:A.all (·.oneCell')=true) (hB1:B.all (·.oneCell')=true)
 (u26:∃x,Try.prog.underlying 26=some (.array 128 x)) (u27:∃x,Try.prog.underlying 27=some (.array 128 x)) (i26:(Try.prog.info? 26).map (·.size)=some 256) (i27:(Try.prog.info? 27).map (·.size)=some 128)
 (hne:b0≠b1/\b0≠b2/\b0≠b3/\b1≠b2/\b1≠b3) (hQ:∀a w,R9 b0 b1 b2 b3 A B d w0 true true true true a w->Q .normal a w) :
 ∀(fuel:Nat) (l0 l1 l2 l3:Bool) (a:Act) (w:World),fuel=(if l0 then 0 else 1)+(if l1 then 0 else 1)+(if l2 then 0 else 1)+(if l3 then 0 else 1)->R9 b0 b1 b2 b3 A B d w0 l0 l1 l2 l3 a w->wpAny Try.prog .any op9 Q fuel #[l0,l1,l2,l3] a w:=by
 intro fuel
 induction fuel with
 | zero=>
   intro l0 l1 l2 l3 a w hf hr
   have hl:l0=true/\l1=true/\l2=true/\l3=true:=by cases l0<;>cases l1<;>cases l2<;>cases l3<;>simp at hf⊢
   obtain ⟨rfl,rfl,rfl,rfl⟩:=hl
   exact wpAny_done (by kernel_rfl) (hQ a w hr) 0
 | succ n ih=>
   intro l0 l1 l2 l3 a w hf hr
   have hk:=rdy9_ok l0 l1 l2 l3
   unfold rdy9 at hk
   rw [Bool.and_eq_true,List.all_eq_true] at hk
   obtain ⟨k1,k2⟩:=hk
   refine wpAny_all rfl ?_ ?_
   · intro he
     rw [he] at k2
     simp at k2
     obtain ⟨⟨⟨rfl,rfl⟩,rfl⟩,rfl⟩:=k2
     simp at hf
   · intro i hi
     have hi':=k1 i hi
     simp only [Bool.and_eq_true,Nat.blt_eq,Bool.not_eq_true',Bool.or_eq_true] at hi'
     obtain ⟨h4,hl,d2,d3⟩:=hi'
     obtain ⟨e26,u26⟩:=u26
     obtain ⟨e27,u27⟩:=u27
     match i,h4 with
     | 0,_=>
       have hl0:l0=false:=hl
       subst hl0
       obtain ⟨o1,o2,o3,o4⟩:=op9_0
       refine wpOp_step o1 fun K' hK'=>?_
       rw [if_pos (by unfold Region.wanted;rw [o4])]
       refine wp_load_row 26 (.tmp 4) o2 b2 (by show a.tmps.getD 4 undef= _;exact hr.t4) 26 A (0,0) _ hr.h2 u26 rfl (by rw [i26,hA]) ?_
       refine hK' _ _ (ih true l1 l2 l3 _ w (by cases l1<;>cases l2<;>cases l3<;>simp at hf⊢<;>omega) ?_)
       rw [o3]
       have g:=fun s=>put_get (a:=a) (t:=28) (v:=.agg A) (by rw [hr.size];omega) s
       exact ⟨by simp [Act.put,hr.size],by rw [g];exact hr.t2,by rw [g];exact hr.t3,by rw [g];exact hr.t4,by rw [g];exact hr.t5,fun _=>by rw [g];rfl,fun q=>by rw [g];exact hr.t29 q,hr.defs,hr.h2,hr.h3,hr.h0,hr.h1,hr.fr⟩
     | 1,_=>
       have hl0:l1=false:=hl
       subst hl0
       obtain ⟨o1,o2,o3,o4⟩:=op9_1
       refine wpOp_step o1 fun K' hK'=>?_
       rw [if_pos (by unfold Region.wanted;rw [o4])]
       refine wp_load_row 27 (.tmp 5) o2 b3 (by show a.tmps.getD 5 undef= _;exact hr.t5) 27 B (0,0) _ hr.h3 u27 rfl (by rw [i27,hB]) ?_
       refine hK' _ _ (ih l0 true l2 l3 _ w (by cases l0<;>cases l2<;>cases l3<;>simp at hf⊢<;>omega) ?_)
       rw [o3]
       have g:=fun s=>put_get (a:=a) (t:=29) (v:=.agg B) (by rw [hr.size];omega) s
       exact ⟨by simp [Act.put,hr.size],by rw [g];exact hr.t2,by rw [g];exact hr.t3,by rw [g];exact hr.t4,by rw [g];exact hr.t5,fun q=>by rw [g];exact hr.t28 q,fun _=>by rw [g];rfl,hr.defs,hr.h2,hr.h3,hr.h0,hr.h1,hr.fr⟩
     | 2,_=>
       have hl0:l2=false:=hl
       subst hl0
       have hd:l0=true:=by simpa using d2
       subst hd
       obtain ⟨o1,o2,o3,o4⟩:=op9_2
       obtain ⟨X,x1,x2,x3⟩:=hr.h0
       refine wpOp_step o1 fun K' hK'=>?_
       rw [if_pos (by unfold Region.wanted;rw [o4])]
       refine wp_store_row 26 (.tmp 2) (.tmp 28) o2 b0 A (by show a.tmps.getD 2 undef= _;exact hr.t2) (by show a.tmps.getD 28 undef= _;exact hr.t28 rfl) 26 X x1 (by rw [i26,hA]) (by rw [x2,hA]) hA1 ?_
       refine hK' _ _ (ih true l1 true l3 _ _ (by cases l1<;>cases l3<;>simp at hf⊢<;>omega) ?_)
       rw [o3]
       obtain ⟨Y,y1,y2,y3⟩:=hr.h1
       obtain ⟨f1,f2,f3,f4,f5⟩:=hr.fr
       exact ⟨hr.size,hr.t2,hr.t3,hr.t4,hr.t5,hr.t28,hr.t29,hr.defs,by rw [setRow_other _ _ _ _ (Ne.symm hne.2.1)];exact hr.h2,by rw [setRow_other _ _ _ _ (Ne.symm hne.2.2.1)];exact hr.h3,⟨A,setRow_heap _ _ _ _ _ _ x1,hA,fun _=>rfl⟩,
        ⟨Y,by rw [setRow_other _ _ _ _ (Ne.symm hne.1)];exact y1,y2,y3⟩,by rw [size_setRow];exact f1,f2,f3,f4,fun C c0 c1=>by rw [setRow_other _ _ _ _ c0];exact f5 C c0 c1⟩
     | 3,_=>
       have hl0:l3=false:=hl
       subst hl0
       have hd:l1=true:=by simpa using d3
       subst hd
       obtain ⟨o1,o2,o3,o4⟩:=op9_3
       obtain ⟨X,x1,x2,x3⟩:=hr.h1
       refine wpOp_step o1 fun K' hK'=>?_
       rw [if_pos (by unfold Region.wanted;rw [o4])]
       refine wp_store_row 27 (.tmp 3) (.tmp 29) o2 b1 B (by show a.tmps.getD 3 undef= _;exact hr.t3) (by show a.tmps.getD 29 undef= _;exact hr.t29 rfl) 27 X x1 (by rw [i27,hB]) (by rw [x2,hB]) hB1 ?_
       refine hK' _ _ (ih l0 true l2 true _ _ (by cases l0<;>cases l2<;>simp at hf⊢<;>omega) ?_)
       rw [o3]
       obtain ⟨Y,y1,y2,y3⟩:=hr.h0
       obtain ⟨f1,f2,f3,f4,f5⟩:=hr.fr
       exact ⟨hr.size,hr.t2,hr.t3,hr.t4,hr.t5,hr.t28,hr.t29,hr.defs,by rw [setRow_other _ _ _ _ (Ne.symm hne.2.2.2.1)];exact hr.h2,by rw [setRow_other _ _ _ _ (Ne.symm hne.2.2.2.2)];exact hr.h3,
        ⟨Y,by rw [setRow_other _ _ _ _ hne.1];exact y1,y2,y3⟩,⟨B,setRow_heap _ _ _ _ _ _ x1,hB,fun _=>rfl⟩,by rw [size_setRow];exact f1,f2,f3,f4,fun C c0 c1=>by rw [setRow_other _ _ _ _ c1];exact f5 C c0 c1⟩
def dkA (S:Int->Bool) (V:Int->Int) (ss:Nat->ByteArray):Array Value:=(l2 (fun k=>Value.int .i64 (bif S k then V k else 0)) (fun k=>Value.string (ss k)) 128).toArray
theorem dkA_size (S:Int->Bool) (V:Int->Int) (ss:Nat->ByteArray):(dkA S V ss).size=256:=by unfold dkA;rw [List.size_toArray,l2_len]
theorem un26:Try.prog.underlying 26=some (.array 128 24):=by kernel_rfl
theorem un27:Try.prog.underlying 27=some (.array 128 4):=by kernel_rfl
theorem in26:(Try.prog.info? 26).map (·.size)=some 256:=by kernel_rfl
theorem in27:(Try.prog.info? 27).map (·.size)=some 128:=by kernel_rfl
def dkB (S:Int->Bool):Array Value:=(l1 (fun k=>Value.bool (S k)) 128).toArray
theorem dkA_one (S:Int->Bool) (V:Int->Int) (ss:Nat->ByteArray):(dkA S V ss).all (·.oneCell')=true:=by
 refine one_all fun v hv=>?_
 unfold dkA l2 at hv
 simp only [List.mem_flatMap] at hv
 obtain ⟨k,_,hk⟩:=hv
 simp at hk
 rcases hk with rfl | rfl<;>rfl
theorem dkB_one (S:Int->Bool):(dkB S).all (·.oneCell')=true:=by
 refine one_all fun v hv=>?_
 unfold dkB l1 at hv
 simp only [List.mem_map] at hv
 obtain ⟨k,_,rfl⟩:=hv
 rfl
theorem alloc4 (w:World) (o0 o1 o2 o3:Obj):((((w.alloc o0).alloc o1).alloc o2).alloc o3).heap[w.heap.size]? =some o0/\((((w.alloc o0).alloc o1).alloc o2).alloc o3).heap[w.heap.size+1]? =some o1/\
 ((((w.alloc o0).alloc o1).alloc o2).alloc o3).heap[w.heap.size+1+1]? =some o2/\((((w.alloc o0).alloc o1).alloc o2).alloc o3).heap[w.heap.size+1+1+1]? =some o3:=by
 have e:∀(w:World) o,(w.alloc o).heap=w.heap.push o:=fun _ _=>rfl
 refine ⟨?_,?_,?_,?_⟩<;>simp only [e,Array.getElem?_push,Array.size_push]<;>repeat (first | rfl | (rw [if_pos rfl]) | (rw [if_neg (by omega)]))
theorem f7res:Try.f7.results=#[.cell 2 26,.cell 3 27]:=by kernel_rfl
theorem res7 (w:World) (tmps:Array Value) {b0 b1:Nat} {x y:Value} (h2:tmps.getD 2 undef=.pointer (some ⟨b0,0,none⟩)) (h3:tmps.getD 3 undef=.pointer (some ⟨b1,0,none⟩)) (hx:(loadVar 26 ⟨b0,0,none⟩).run Try.prog w=.ok x w) (hy:(loadVar 27 ⟨b1,0,none⟩).run Try.prog w=.ok y w) :
 (results Try.f7 tmps).run Try.prog w=.ok (.tuple #[x,y]) w:=by
 have h2':tmps[2]?.getD undef=.pointer (some ⟨b0,0,none⟩):=by simpa using h2
 have h3':tmps[3]?.getD undef=.pointer (some ⟨b1,0,none⟩):=by simpa using h3
 simp [results,f7res,h2',h3',asAddr,hx,hy]
theorem dkA_get0 (S:Int->Bool) (V:Int->Int) (ss:Nat->ByteArray) (k:Nat) (h:k<128):(dkA S V ss)[k*2]? =some (.int .i64 (bif S k then V k else 0)):=by
 rw [Nat.mul_comm];unfold dkA;rw [List.getElem?_toArray];exact l2_0 _ _ _ _ h
theorem dkA_get1 (S:Int->Bool) (V:Int->Int) (ss:Nat->ByteArray) (k:Nat) (h:k<128) (v:Value):((dkA S V ss).setIfInBounds (k*2) v)[k*2+1]? =some (.string (ss k)):=by
 rw [Nat.mul_comm];unfold dkA;rw [List.setIfInBounds_toArray,List.getElem?_toArray,l2_set0 _ _ _ _ _ h];exact l2_1 _ _ _ _ h
theorem dkB_size (S:Int->Bool):(dkB S).size=128:=by unfold dkB;rw [List.size_toArray,l1_len]
theorem dkB_get (S:Int->Bool) (k:Nat) (h:k<128):(dkB S)[k]? =some (.bool (S k)):=by
 unfold dkB;rw [List.getElem?_toArray];exact l1_get _ _ _ h
theorem dkA_set (S:Int->Bool) (V:Int->Int) (ss:Nat->ByteArray) (n:Int) (s:ByteArray) (h0:0<=n) (h:n.toNat<128):((dkA S V ss).setIfInBounds (n.toNat*2) (.int .i64 (V n))).setIfInBounds (n.toNat*2+1) (.string s)=dkA (mgSet S n) V (updF ss n.toNat s):=by
 rw [Nat.mul_comm];unfold dkA
 rw [List.setIfInBounds_toArray,List.setIfInBounds_toArray,l2_set0 _ _ _ _ _ h,l2_set1 _ _ _ _ _ h]
 congr 2
 · funext k
   unfold updF mgSet
   by_cases e:k=n.toNat
   · have:(k:Int)=n:=by omega
     simp [e,this,Int.toNat_of_nonneg h0]
   · have:¬(k:Int)=n:=by omega
     simp [e,this]
 · funext k
   unfold updF
   by_cases e:k=n.toNat
   · simp [e]
   · simp [e]
theorem dkB_set (S:Int->Bool) (n:Int) (h0:0<=n) (h:n.toNat<128):(dkB S).setIfInBounds n.toNat (.bool true)=dkB (mgSet S n):=by
 unfold dkB
 rw [List.setIfInBounds_toArray,l1_set _ _ _ _ h]
 congr 2
 funext k
 unfold updF mgSet
 by_cases e:k=n.toNat
 · have:(k:Int)=n:=by omega
   simp [e,this,Int.toNat_of_nonneg h0]
 · have:¬(k:Int)=n:=by omega
   simp [e,this]
set_option maxHeartbeats 4000000 in
theorem disk_walk (bc oc bs:Nat) (V:Int->Int) (D:Int->List Nat) (Y:Int->Bool) (U:Int->Int) (g:Int->Bool) (c:Nat) (ro:Nat->Nat->Option Value) (es:Array MapEntry) (w:World) (hc:w.cell? ⟨bc,oc,none⟩=some (.map (some bs))) (hs:w.heap[bs]? =some (.map es c)) (mo:MapOk ro .i64 z4 g (f4 V D Y U) c es) (hg:∀n,g n=true->0<=n/\n<128) (hbc:bc<w.heap.size) :
 Calls Try.prog 7 #[.pointer (some ⟨bc,oc,none⟩)] w fun e w'=>(∃ss:Nat->ByteArray,(∀k,k<128->(ss k).data.toList.map UInt8.toNat=bif g k then D k else [])/\e=.returned (.tuple #[.agg (l2 (fun k=>Value.int .i64 (bif g k then V k else 0)) (fun k=>Value.string (ss k)) 128).toArray,.agg (l1 (fun k=>Value.bool (g k)) 128).toArray]))/\w.grownBy w' none:=by
 have hbs:=heap_lt hs
 have hc4:((((w.alloc (.cells Try.zeroCells26 26 (0,0))).alloc (.cells Try.zeroCells27 27 (0,0))).alloc (.cells Try.zeroCells26 26 (0,0))).alloc (.cells Try.zeroCells27 27 (0,0))).cell? ⟨bc,oc,none⟩=some (.map (some bs)):=by
  have b4:=((((Below.refl w.heap.size w).alloc (Nat.le_refl _) (.cells Try.zeroCells26 26 (0,0))).alloc (by simp) (.cells Try.zeroCells27 27 (0,0))).alloc (by simp;omega) (.cells Try.zeroCells26 26 (0,0))).alloc (by simp;omega) (.cells Try.zeroCells27 27 (0,0))
  rw [b4.cell (p:=⟨bc,oc,none⟩) hbc];exact hc
 have hs4:((((w.alloc (.cells Try.zeroCells26 26 (0,0))).alloc (.cells Try.zeroCells27 27 (0,0))).alloc (.cells Try.zeroCells26 26 (0,0))).alloc (.cells Try.zeroCells27 27 (0,0))).heap[bs]? =some (.map es c):=by
  have b4:=((((Below.refl w.heap.size w).alloc (Nat.le_refl _) (.cells Try.zeroCells26 26 (0,0))).alloc (by simp) (.cells Try.zeroCells27 27 (0,0))).alloc (by simp;omega) (.cells Try.zeroCells26 26 (0,0))).alloc (by simp;omega) (.cells Try.zeroCells27 27 (0,0))
  exact (b4.block bs hbs).trans hs
 go_enter Try.func7,Try.ntmps7
 go_wp2_with (first
  | (at_range;(refine wpList_range_mp rfl _ 56 3 60 rfl t56 rfl hs4 mo ?_;intro w0 r0 hr0' hrg0 hg0 hs0))
  | go_in)
 try go_frame
 go_loopw [17] (fun _ wr=>∃(S:Int->Bool) (cnt:Nat) (ss:Nat->ByteArray),Rg wr ro .i64 z4 g (f4 V D Y U) c bs r0 S cnt/\(∀n,S n=true->g n=true)/\wr.heap[w.heap.size+1+1]? =some (.cells (dkA S V ss) 26 (0,0))/\wr.heap[w.heap.size+1+1+1]? =some (.cells (dkB S) 27 (0,0))/\
  (∀k,k<128->(ss k).data.toList.map UInt8.toNat=bif S k then D k else [])/\
  wr.heap[w.heap.size]? =some (.cells Try.zeroCells26 26 (0,0))/\wr.heap[w.heap.size+1]? =some (.cells Try.zeroCells27 27 (0,0))/\w.grownBy wr none)
  (fun _ wr=>wr.rangeLeft bs r0)
 case atStart=>
  have z0:dkA (fun _=>false) V (fun _=>⟨#[]⟩)=Try.zeroCells26:=by rw [zc26];rfl
  have z1:dkB (fun _=>false)=Try.zeroCells27:=by rw [zc27];rfl
  have hw4:=hg0
  refine ⟨_,_,fun _=>⟨#[]⟩,hrg0,fun n h=>by simp at h,?_,?_,fun k _=>rfl,?_,?_,?_⟩
  · rw [z0,hg0.block _ (by simp) (by simp)];exact (alloc4 w _ _ _ _).2.2.1
  · rw [z1,hg0.block _ (by simp) (by simp)];exact (alloc4 w _ _ _ _).2.2.2
  · rw [hg0.block _ (by simp;omega) (by simp)];exact (alloc4 w _ _ _ _).1
  · rw [hg0.block _ (by simp) (by simp)];exact (alloc4 w _ _ _ _).2.1
  · exact ((((World.grownBy_alloc w _ none).andThen (World.grownBy_alloc _ _ none) (fun j hj=>by simp at hj)).andThen (World.grownBy_alloc _ _ none) (fun j hj=>by simp at hj)).andThen (World.grownBy_alloc _ _ none) (fun j hj=>by simp at hj)).andThen hg0 (fun j hj=>by simp at hj)
 case round=>
  obtain ⟨S,cnt,ss,hrg,hSg,hcd,hck,hss,hr0,hr1,hgw⟩:=hrel
  go_wp2_with (first
   | (at_next;refine wpList_next_mp rfl _ rfl rfl hrg ?_ ?_)
   | go_in)
  · intro hall
    go_wp2
    rename_i K1 hK1
    have hS:S=g:=by
     funext n
     cases hg:g n with
     | true=>exact hall n hg
     | false=>cases hs:S n with
       | false=>rfl
       | true=>rw [hSg n hs] at hg;simp at hg
    subst hS
    refine Eq.mp (congrArg (fun c=>Code.wp Try.prog c _ _ _) (?e:Code.region 9 op9 true= _)) ?_
    case e=>kernel_rfl
    refine wp_region_any (by kernel_rfl) ?_
    refine reg9_wp (b0:=w.heap.size) (b1:=w.heap.size+1) (b2:=w.heap.size+1+1) (b3:=w.heap.size+1+1+1) (A:=dkA S V ss) (B:=dkB S) (d:=[]) (w0:=wr) (dkA_size S V ss) (dkB_size S) (dkA_one S V ss) (dkB_one S) ⟨_,un26⟩ ⟨_,un27⟩ in26 in27 (by omega) ?_ 4 false false false false _ _ rfl
     ⟨rfl,rfl,rfl,rfl,rfl,fun h=>by simp at h,fun h=>by simp at h,rfl,hcd,hck,⟨_,hr0,by rw [zc26,List.size_toArray,l2_len],fun h=>by simp at h⟩,⟨_,hr1,by rw [zc27,List.size_toArray,l1_len],fun h=>by simp at h⟩,rfl,rfl,rfl,rfl,fun C _ _=>rfl⟩
    intro a' w' hr
    refine hK1 _ _ (wp_ret ?_)
    obtain ⟨X,x1,_,x2⟩:=hr.h0
    obtain ⟨Z,z1,_,z2⟩:=hr.h1
    rw [x2 rfl] at x1
    rw [z2 rfl] at z1
    have q2:=hr.t2
    have q3:=hr.t3
    obtain ⟨f1,f2,f3,f4,f5⟩:=hr.fr
    refine ⟨hr.defs,_,res7 w' a'.tmps q2 q3 (run_loadVar_row (P:=Try.prog) w' _ 26 26 _ (0,0) _ x1 un26 rfl (by rw [in26,dkA_size])) (run_loadVar_row (P:=Try.prog) w' _ 27 27 _ (0,0) _ z1 un27 rfl (by rw [in27,dkB_size])),⟨ss,hss,rfl⟩,?_⟩
    exact ⟨f3.trans hgw.os,f2.trans hgw.tape,f4.trans hgw.output,by rw [<-f1];exact hgw.size,fun C hC _=>(f5 C (by omega) (by omega)).trans (hgw.block C hC (by simp))⟩
  · intro n vs w1 cnt1 hgn hSn hcr hrg1 hlt hg1 hs1 hen
    obtain ⟨s,hse,rfl⟩:=crs4 hcr
    obtain ⟨hn0,hn1⟩:=hg n hgn
    have hk:n.toNat<128:=by omega
    have hlr:=hrg.lt
    have hr2:w.heap.size+1+1+1<r0:=by simp at hr0';omega
    have hcd1:(w1.alloc (.cells #[Value.int .i64 (V n),Value.string s,Value.bool (Y n),Value.int .i64 (U n)] 60)).heap[w.heap.size+1+1]? =some (.cells (dkA S V ss) 26 (0,0)):=(heap_alloc_old _ _ (by have:=heap_lt hcd;omega)).trans ((hg1.block _ (heap_lt hcd) (fun e=>by have:=Option.some.inj e;omega)).trans hcd)
    have hck1:(w1.alloc (.cells #[Value.int .i64 (V n),Value.string s,Value.bool (Y n),Value.int .i64 (U n)] 60)).heap[w.heap.size+1+1+1]? =some (.cells (dkB S) 27 (0,0)):=(heap_alloc_old _ _ (by have:=heap_lt hck;omega)).trans ((hg1.block _ (heap_lt hck) (fun e=>by have:=Option.some.inj e;omega)).trans hck)
    have c1:=cell_heap hcd1 (dkA_get0 S V ss n.toNat hk)
    have f1:=free_heap (i:=n.toNat*2) hcd1
    have hcd2:=set_heap (i:=n.toNat*2) (v:=.int .i64 (V n)) hcd1
    have c2:=cell_heap hcd2 (dkA_get1 S V ss n.toNat hk _)
    have f2:=free_heap (i:=n.toNat*2+1) hcd2
    have hcd3:=set_heap (i:=n.toNat*2+1) (v:=.string s) hcd2
    have hck3:=((set_grown _ (w.heap.size+1+1) (n.toNat*2+1) (.string s)).block _ (heap_lt (((set_grown _ (w.heap.size+1+1) (n.toNat*2) (.int .i64 (V n))).block _ (heap_lt hck1) (by simp)).trans hck1)) (by simp)).trans (((set_grown _ (w.heap.size+1+1) (n.toNat*2) (.int .i64 (V n))).block _ (heap_lt hck1) (by simp)).trans hck1)
    have c3:=cell_heap hck3 (dkB_get S n.toNat hk)
    have f3:=free_heap (i:=n.toNat) hck3
    go_wp2
    go_roundw
    case rel=>
     have g1:=set_grown (w1.alloc (.cells #[Value.int .i64 (V n),Value.string s,Value.bool (Y n),Value.int .i64 (U n)] 60)) (w.heap.size+1+1) (n.toNat*2) (.int .i64 (V n))
     have g2:=set_grown ((w1.alloc (.cells #[Value.int .i64 (V n),Value.string s,Value.bool (Y n),Value.int .i64 (U n)] 60)).setCell ⟨w.heap.size+1+1,n.toNat*2,none⟩ (.int .i64 (V n))) (w.heap.size+1+1) (n.toNat*2+1) (.string s)
     have g3:=set_grown (((w1.alloc (.cells #[Value.int .i64 (V n),Value.string s,Value.bool (Y n),Value.int .i64 (U n)] 60)).setCell ⟨w.heap.size+1+1,n.toNat*2,none⟩ (.int .i64 (V n))).setCell ⟨w.heap.size+1+1,n.toNat*2+1,none⟩ (.string s)) (w.heap.size+1+1+1) n.toNat (.bool true)
     have ga:=World.grownBy_alloc w1 (.cells #[Value.int .i64 (V n),Value.string s,Value.bool (Y n),Value.int .i64 (U n)] 60) none
     have keep:∀B,B<wr.heap.size->B≠r0->B≠w.heap.size+1+1->B≠w.heap.size+1+1+1->((((w1.alloc (.cells #[Value.int .i64 (V n),Value.string s,Value.bool (Y n),Value.int .i64 (U n)] 60)).setCell ⟨w.heap.size+1+1,n.toNat*2,none⟩ (.int .i64 (V n))).setCell ⟨w.heap.size+1+1,n.toNat*2+1,none⟩ (.string s)).setCell ⟨w.heap.size+1+1+1,n.toNat,none⟩ (.bool true)).heap[B]? =wr.heap[B]?:=by
      intro B hB h1 h2 h3
      have s1:=hg1.size;have s2:=ga.size;have s3:=g1.size;have s4:=g2.size
      rw [g3.block B (by omega) (fun e=>h3 (Option.some.inj e)),g2.block B (by omega) (fun e=>h2 (Option.some.inj e)),g1.block B (by omega) (fun e=>h2 (Option.some.inj e)),ga.block B (by omega) (by simp),hg1.block B hB (fun e=>h1 (Option.some.inj e))]
     refine ⟨mgSet S n,cnt1,updF ss n.toNat s,?_,?_,?_,?_,?_,?_,?_,?_⟩
     · exact (((hrg1.kept ga (by simp) (by simp)).kept g1 (fun e=>by have:=Option.some.inj e;have:=heap_lt hs;omega) (fun e=>by have:=Option.some.inj e;omega)).kept g2 (fun e=>by have:=Option.some.inj e;omega) (fun e=>by have:=Option.some.inj e;omega)).kept g3 (fun e=>by have:=Option.some.inj e;omega) (fun e=>by have:=Option.some.inj e;omega)
     · intro x hx
       unfold mgSet at hx
       by_cases hxn:x=n
       · subst hxn;exact hgn
       · simp [hxn] at hx;exact hSg x hx
     · rw [<-dkA_set S V ss n s hn0 hk]
       exact (g3.block _ (heap_lt hcd3) (fun e=>by have:=Option.some.inj e;omega)).trans hcd3
     · rw [<-dkB_set S n hn0 hk]
       exact set_heap hck3
     · intro k hk'
       unfold updF mgSet
       by_cases e:k=n.toNat
       · have:(k:Int)=n:=by omega
         simp [e,this,Int.toNat_of_nonneg hn0,hse]
       · have:¬(k:Int)=n:=by omega
         simp [e,this];exact hss k hk'
     · rw [keep _ (heap_lt hr0) (by omega) (by omega) (by omega)];exact hr0
     · rw [keep _ (heap_lt hr1) (by omega) (by omega) (by omega)];exact hr1
     · exact ((((hgw.andThen hg1 (fun j hj=>.inl (by cases hj;omega))).andThen ga (fun j hj=>by simp at hj)).andThen g1 (fun j hj=>.inl (by cases hj;omega))).andThen g2 (fun j hj=>.inl (by cases hj;omega))).andThen g3 (fun j hj=>.inl (by cases hj;omega))
    case measure=>rw [((((hrg1.kept (World.grownBy_alloc w1 _ none) (by simp) (by simp)).kept (set_grown _ (w.heap.size+1+1) _ _) (fun e=>by have:=Option.some.inj e;have:=heap_lt hs;omega) (fun e=>by have:=Option.some.inj e;omega)).kept (set_grown _ (w.heap.size+1+1) _ _) (fun e=>by have:=Option.some.inj e;omega) (fun e=>by have:=Option.some.inj e;omega)).kept (set_grown _ (w.heap.size+1+1+1) _ _) (fun e=>by have:=Option.some.inj e;omega) (fun e=>by have:=Option.some.inj e;omega)).left_eq,hrg.left_eq];exact hlt
set_option maxHeartbeats 4000000 in
theorem disk_nil (bc oc:Nat) (w:World) (hc:w.cell? ⟨bc,oc,none⟩=some (.map none)) (hbc:bc<w.heap.size) :
 Calls Try.prog 7 #[.pointer (some ⟨bc,oc,none⟩)] w fun e w'=>e=.returned (.tuple #[.agg (dkA (fun _=>false) (fun _=>0) fun _=>⟨#[]⟩),.agg (dkB fun _=>false)])/\w.grownBy w' none:=by
 have hc4:((((w.alloc (.cells Try.zeroCells26 26 (0,0))).alloc (.cells Try.zeroCells27 27 (0,0))).alloc (.cells Try.zeroCells26 26 (0,0))).alloc (.cells Try.zeroCells27 27 (0,0))).cell? ⟨bc,oc,none⟩=some (.map none):=by
  have b4:=((((Below.refl w.heap.size w).alloc (Nat.le_refl _) (.cells Try.zeroCells26 26 (0,0))).alloc (by simp) (.cells Try.zeroCells27 27 (0,0))).alloc (by simp;omega) (.cells Try.zeroCells26 26 (0,0))).alloc (by simp;omega) (.cells Try.zeroCells27 27 (0,0))
  rw [b4.cell (p:=⟨bc,oc,none⟩) hbc];exact hc
 have hal:=alloc4 w (.cells Try.zeroCells26 26 (0,0)) (.cells Try.zeroCells27 27 (0,0)) (.cells Try.zeroCells26 26 (0,0)) (.cells Try.zeroCells27 27 (0,0))
 have hga:w.grownBy ((((w.alloc (.cells Try.zeroCells26 26 (0,0))).alloc (.cells Try.zeroCells27 27 (0,0))).alloc (.cells Try.zeroCells26 26 (0,0))).alloc (.cells Try.zeroCells27 27 (0,0))) none:=((((World.grownBy_alloc w _ none).andThen (World.grownBy_alloc _ _ none) (fun j hj=>by simp at hj)).andThen (World.grownBy_alloc _ _ none) (fun j hj=>by simp at hj)).andThen (World.grownBy_alloc _ _ none) (fun j hj=>by simp at hj))
 have hrg:=run_range_nilMap (P:=Try.prog) ((((w.alloc (.cells Try.zeroCells26 26 (0,0))).alloc (.cells Try.zeroCells27 27 (0,0))).alloc (.cells Try.zeroCells26 26 (0,0))).alloc (.cells Try.zeroCells27 27 (0,0))) 56 _ _ t56
 have hnx:∀ty,(Instr.next (.pointer (some ⟨((((w.alloc (.cells Try.zeroCells26 26 (0,0))).alloc (.cells Try.zeroCells27 27 (0,0))).alloc (.cells Try.zeroCells26 26 (0,0))).alloc (.cells Try.zeroCells27 27 (0,0))).heap.size,0,none⟩)) false ty).run Try.prog (((((w.alloc (.cells Try.zeroCells26 26 (0,0))).alloc (.cells Try.zeroCells27 27 (0,0))).alloc (.cells Try.zeroCells26 26 (0,0))).alloc (.cells Try.zeroCells27 27 (0,0))).alloc (.mapIter none 0 #[] 0))= _:=fun ty=>run_next_nilMap _ ty 0 0 #[]
 have z0:dkA (fun _=>false) (fun _=>0) (fun _=>⟨#[]⟩)=Try.zeroCells26:=by rw [zc26];rfl
 have z1:dkB (fun _=>false)=Try.zeroCells27:=by rw [zc27];rfl
 have hsz:((((w.alloc (.cells Try.zeroCells26 26 (0,0))).alloc (.cells Try.zeroCells27 27 (0,0))).alloc (.cells Try.zeroCells26 26 (0,0))).alloc (.cells Try.zeroCells27 27 (0,0))).heap.size=w.heap.size+1+1+1+1:=by simp
 have hnx2:∀ty,(Instr.next (.pointer (some ⟨w.heap.size+1+1+1+1,0,none⟩)) false ty).run Try.prog (((((w.alloc (.cells Try.zeroCells26 26 (0,0))).alloc (.cells Try.zeroCells27 27 (0,0))).alloc (.cells Try.zeroCells26 26 (0,0))).alloc (.cells Try.zeroCells27 27 (0,0))).alloc (.mapIter none 0 #[] 0))=.ok (.tuple #[.bool false]) (((((w.alloc (.cells Try.zeroCells26 26 (0,0))).alloc (.cells Try.zeroCells27 27 (0,0))).alloc (.cells Try.zeroCells26 26 (0,0))).alloc (.cells Try.zeroCells27 27 (0,0))).alloc (.mapIter none 0 #[] 0)):=fun ty=>by have h:=hnx ty;rw [hsz] at h;exact h
 go_enter Try.func7,Try.ntmps7
 go_wp2
 refine wp_loop_rounds 1 ?_
 rw [rounds_succ]
 go_wp2
 rename_i K1 hK1
 refine Eq.mp (congrArg (fun c=>Code.wp Try.prog c _ _ _) (?e:Code.region 9 op9 true= _)) ?_
 case e=>kernel_rfl
 have e:∀(w:World) o,(w.alloc o).heap=w.heap.push o:=fun _ _=>rfl
 have keep:∀{B:Nat} {o:Obj},(((((w.alloc (.cells Try.zeroCells26 26 (0,0))).alloc (.cells Try.zeroCells27 27 (0,0))).alloc (.cells Try.zeroCells26 26 (0,0))).alloc (.cells Try.zeroCells27 27 (0,0)))).heap[B]? =some o->((((((w.alloc (.cells Try.zeroCells26 26 (0,0))).alloc (.cells Try.zeroCells27 27 (0,0))).alloc (.cells Try.zeroCells26 26 (0,0))).alloc (.cells Try.zeroCells27 27 (0,0)))).alloc (.mapIter none 0 #[] 0)).heap[B]? =some o:=fun h=>(heap_alloc_old _ _ (heap_lt h)).trans h
 have g0:=keep hal.1
 have g1:=keep hal.2.1
 have g2:=keep hal.2.2.1
 have g3:=keep hal.2.2.2
 have hgb:=hga.andThen (World.grownBy_alloc _ (.mapIter none 0 #[] 0) none) (fun j hj=>by simp at hj)
 refine wp_region_any (by kernel_rfl) ?_
 refine reg9_wp (b0:=w.heap.size) (b1:=w.heap.size+1) (b2:=w.heap.size+1+1) (b3:=w.heap.size+1+1+1) (A:=dkA (fun _=>false) (fun _=>0) fun _=>⟨#[]⟩) (B:=dkB fun _=>false) (d:=[]) (w0:=_) (dkA_size _ _ _) (dkB_size _) (dkA_one _ _ _) (dkB_one _) ⟨_,un26⟩ ⟨_,un27⟩ in26 in27 (by omega) ?_ 4 false false false false _ _ rfl
  ⟨rfl,rfl,rfl,rfl,rfl,fun h=>by simp at h,fun h=>by simp at h,rfl,by rw [z0];exact g2,by rw [z1];exact g3,⟨_,g0,by rw [zc26,List.size_toArray,l2_len],fun h=>by simp at h⟩,⟨_,g1,by rw [zc27,List.size_toArray,l1_len],fun h=>by simp at h⟩,rfl,rfl,rfl,rfl,fun C _ _=>rfl⟩
 intro a' w' hr
 refine hK1 _ _ (wp_ret ?_)
 obtain ⟨X,x1,_,x2⟩:=hr.h0
 obtain ⟨Z,z1',_,z2⟩:=hr.h1
 rw [x2 rfl] at x1
 rw [z2 rfl] at z1'
 have q2:=hr.t2
 have q3:=hr.t3
 obtain ⟨f1,f2,f3,f4,f5⟩:=hr.fr
 refine ⟨hr.defs,_,res7 w' a'.tmps q2 q3 (run_loadVar_row (P:=Try.prog) w' _ 26 26 _ (0,0) _ x1 un26 rfl (by rw [in26,dkA_size])) (run_loadVar_row (P:=Try.prog) w' _ 27 27 _ (0,0) _ z1' un27 rfl (by rw [in27,dkB_size])),rfl,?_⟩
 exact ⟨f3.trans hgb.os,f2.trans hgb.tape,f4.trans hgb.output,by rw [<-f1];exact hgb.size,fun C hC _=>(f5 C (by omega) (by omega)).trans (hgb.block C hC (by simp))⟩
theorem hr_grown {ρ:Rho} {H:AH} {w w':World} (h:HR ρ H w) (hg:w.grownBy w' none):HR ρ H w'/\Ext ρ H w ρ H w':=by
 have blk:∀C,C<w.heap.size->w'.heap[C]? =w.heap[C]?:=fun C hC=>hg.block C hC (by simp)
 refine ⟨⟨?_,h.inj,fun C x hC=>Nat.lt_of_lt_of_le (h.range C x hC) hg.size,?_,h.rox⟩,⟨Nat.le_refl _,.refl _,fun _ _ q=>.inl q,hg.size,fun C hC _=>blk C hC,fun A o x q r=>.inr ⟨A,o,x,q,r,rfl⟩,fun _ _ _ q=>.inl q,hg.tape,hg.os,hg.output⟩⟩
 · intro C q hC
   rcases h.live C q hC with ⟨x,hx1,b1⟩ | hv
   · exact .inl ⟨x,hx1,b1.congr (blk _ (h.range _ _ hx1))⟩
   · exact .inr hv
 · intro C j v hv
   obtain ⟨cc,e,fr,h1,h2⟩:=h.ro C j v hv
   exact ⟨cc,e,fr,(blk C (h.rolt hv)).trans h1,h2⟩
noncomputable def kO (b:Bool) (A:Nat) (R:AV):AObj:=cellsO 58 [.mq b A,R]
noncomputable def kM (b:Bool) (g:Int->Bool) (V:Int->Int) (D:Int->List Nat) (Y:Int->Bool) (U:Int->Int) (c:Nat):AObj:=.mp b .i64 z4 g (f4 V D Y U) c
theorem kO_cell {ρ:Rho} {b:Bool} {A:Nat} {R:AV} {B d N:Nat} {w:World} {H:AH} (hh:HR ρ H w) (hA:H.get 0=some (kO b A R)) (hr:ρ 0=some (B,d,N)):∃v',w.cell? ⟨B,d+0,none⟩=some v'/\VR ρ (.mq b A) v':=by
 rcases hh.live _ _ hA with ⟨x,hx,hb⟩ | hv
 · rw [hr] at hx;simp at hx;subst hx
   obtain ⟨c,fr,h1,_,_,_,h5⟩:=hb
   obtain ⟨v',q1,q2,_⟩:=h5 0 (.mq b A) rfl
   exact ⟨v',by simp only [World.cell?,h1];simpa using q1,q2⟩
 · exact hv.1.elim
theorem f4_z {V:Int->Int} {D:Int->List Nat} {Y:Int->Bool} {U:Int->Int} {n:Int} (h:f4 V D Y U n=z4):V n=0/\D n=[]/\Y n=false/\U n=0:=by
 unfold f4 z4 at h;simp at h;exact h
theorem disk_con (b:Bool) (R:AV) (g:Int->Bool) (V:Int->Int) (D:Int->List Nat) (Y:Int->Bool) (U:Int->Int) (c:Nat) (hg:∀n,g n=true->0<=n/\n<128) :
 Con Try.prog 7 [.p 0 0] [some (kO b 1 R),some (kM b g V D Y U c)] (.tup [.agg (l2 (fun k=>.i .i64 (V k)) (fun k=>.s (D k)) 128),.agg (l1 (fun k=>.b (g k)) 128)]) [.keep,.keep]:=by
 intro ρ w args' ha hr hno
 obtain ⟨d,rfl,hd⟩:=ha.one
 have A0:(mkH [some (kO b 1 R),some (kM b g V D Y U c)]).get 0=some (kO b 1 R):=by rw [mkH_get];rfl
 have A1:(mkH [some (kO b 1 R),some (kM b g V D Y U c)]).get 1=some (.mp b .i64 z4 g (f4 V D Y U) c):=by rw [mkH_get];rfl
 cases hd with | p _ _ B d N hB=>
 obtain ⟨v',hc,hv⟩:=kO_cell hr A0 hB
 have hlt:B<w.heap.size:=hr.range _ _ hB
 have fin:∀(w':World) (V':Int->Int) (ss:Nat->ByteArray),w.grownBy w' none->(∀k,k<128->(ss k).data.toList.map UInt8.toNat=D k)->(∀k:Nat,k<128->(bif g k then V' k else 0)=V k)->
  ∃v' ρ',Ending.returned (.tuple #[.agg (dkA g V' ss),.agg (dkB g)])=.returned v'/\VR ρ' (.tup [.agg (l2 (fun k=>.i .i64 (V k)) (fun k=>.s (D k)) 128),.agg (l1 (fun k=>.b (g k)) 128)]) v'/\
   HR ρ' (mkH (postL [some (kO b 1 R),some (kM b g V D Y U c)] [.keep,.keep])) w'/\Ext ρ (mkH [some (kO b 1 R),some (kM b g V D Y U c)]) w ρ' (mkH (postL [some (kO b 1 R),some (kM b g V D Y U c)] [.keep,.keep])) w':=by
  intro w' V' ss hgw hss hV
  obtain ⟨g1,g2⟩:=hr_grown hr hgw
  refine ⟨_,ρ,rfl,.tup _ [_,_] (.cons _ _ _ _ ?_ (.cons _ _ _ _ ?_ .nil)),g1,g2⟩
  · refine .agg _ _ (VRs.flat 128 fun k hk=>⟨?_,.s _ _ (hss k hk)⟩)
    rw [hV k hk];exact .i _ _
  · exact .agg _ _ (VRs.line 128 fun k hk=>.b _)
 cases hv with
 | mq1 _ B2 N2 hB2=>
   obtain ⟨_,es,k1,k2⟩:=hr.mpRow A1 hB2
   refine (disk_walk B (d+0) B2 V D Y U g c ρ.ro es w hc k1 k2 hg hlt).mono ?_
   rintro e w' ⟨⟨ss,hss,rfl⟩,hgw⟩
   refine fin w' V ss hgw (fun k hk=>?_) (fun k hk=>?_)
   · rw [hss k hk]
     cases hgk:g k with
     | true=>rfl
     | false=>exact (f4_z (k2.zer _ hgk)).2.1.symm
   · cases hgk:g k with
     | true=>rfl
     | false=>exact (f4_z (k2.zer _ hgk)).1.symm
 | mq0=>
   have hz:=hr.mpNil A1
   refine (disk_nil B (d+0) w hc hlt).mono ?_
   rintro e w' ⟨rfl,hgw⟩
   have e1:g=fun _=>false:=funext fun n=>(hz n).1
   have:=fin w' (fun _=>0) (fun _=>⟨#[]⟩) hgw (fun k hk=>(f4_z (hz k).2).2.1.symm) (fun k hk=>by rw [(f4_z (hz k).2).1,e1];rfl)
   rw [e1] at this⊢
   exact this
theorem dirty_walk (bc oc bs:Nat) (V:Int->Int) (D:Int->List Nat) (Y:Int->Bool) (U:Int->Int) (g:Int->Bool) (c:Nat) (ro:Nat->Nat->Option Value) (es:Array MapEntry) (w:World) (hc:w.cell? ⟨bc,oc,none⟩=some (.map (some bs))) (hs:w.heap[bs]? =some (.map es c)) (mo:MapOk ro .i64 z4 g (f4 V D Y U) c es) (hbc:bc<w.heap.size) :
 Calls Try.prog 17 #[.pointer (some ⟨bc,oc,none⟩)] w fun e w'=>(∃r,e=.returned (.bool r)/\(r=true↔∃n,Y n=true))/\w.grownBy w' none:=by
 have hbs:=heap_lt hs
 go_enter Try.func17,Try.ntmps17
 go_wp2_with (first
  | (at_range;refine wpList_range_mp rfl _ 56 3 60 rfl t56 rfl hs mo ?_;intro w0 r0 hr0 hrg0 hg0 hs0)
  | go_in)
 try go_frame
 go_loopw [12] (fun _ wr=>∃(S:Int->Bool) (cnt:Nat),Rg wr ro .i64 z4 g (f4 V D Y U) c bs r0 S cnt/\(∀n,S n=true->Y n=false)/\w.grownBy wr none) (fun _ wr=>wr.rangeLeft bs r0)
 case atStart=>exact ⟨_,_,hrg0,fun n h=>by simp at h,hg0⟩
 case round=>
  obtain ⟨S,cnt,hrg,hSg,hgw⟩:=hrel
  go_wp2_with (first
   | (at_next;refine wpList_next_mp rfl _ rfl rfl hrg ?_ ?_)
   | go_in)
  · intro hall
    go_wp2
    go_ret
    refine ⟨⟨false,rfl,?_⟩,hgw⟩
    simp
    intro n
    cases hg:g n with
    | true=>exact hSg n (hall n hg)
    | false=>exact (f4_z (mo.zer n hg)).2.2.1
  · intro n vs w1 cnt1 hgn hSn hcr hrg1 hlt hg1 hs1 hen
    obtain ⟨s,hse,rfl⟩:=crs4 hcr
    have hlr:=hrg.lt
    have hga:=World.grownBy_alloc w1 (.cells #[Value.int .i64 (V n),Value.string s,Value.bool (Y n),Value.int .i64 (U n)] 60) none
    have hgn1:=(hgw.andThen hg1 (fun j hj=>.inl (by cases hj;omega))).andThen hga (fun j hj=>by simp at hj)
    cases hy:Y n with
    | true=>
      go_wp2
      go_ret
      exact ⟨⟨true,rfl,by simp;exact ⟨n,hy⟩⟩,by rw [hy] at hgn1;exact hgn1⟩
    | false=>
      go_wp2
      go_roundw
      case rel=>
       refine ⟨mgSet S n,cnt1,?_,?_,by rw [hy] at hgn1;exact hgn1⟩
       · rw [hy] at hga;exact hrg1.kept hga (by simp) (by simp)
       · intro x hx
         unfold mgSet at hx
         by_cases hxn:x=n
         · subst hxn;exact hy
         · simp [hxn] at hx;exact hSg x hx
      case measure=>
       rw [hy] at hga
       rw [(hrg1.kept hga (by simp) (by simp)).left_eq,hrg.left_eq];exact hlt
theorem dirty_nil (bc oc:Nat) (w:World) (hc:w.cell? ⟨bc,oc,none⟩=some (.map none)) (hbc:bc<w.heap.size) :
 Calls Try.prog 17 #[.pointer (some ⟨bc,oc,none⟩)] w fun e w'=>e=.returned (.bool false)/\w.grownBy w' none:=by
 have hrg:=run_range_nilMap (P:=Try.prog) w 56 _ _ t56
 have hnx:∀ty,(Instr.next (.pointer (some ⟨w.heap.size,0,none⟩)) false ty).run Try.prog (w.alloc (.mapIter none 0 #[] 0))= _:=fun ty=>run_next_nilMap _ ty 0 0 #[]
 have hga:=World.grownBy_alloc w (.mapIter none 0 #[] 0) none
 go_enter Try.func17,Try.ntmps17
 go_wp2
 refine wp_loop_rounds 1 ?_
 rw [rounds_succ]
 go_wp2
 go_ret
 exact ⟨rfl,hga⟩
theorem dirty_con (b:Bool) (R:AV) (g:Int->Bool) (V:Int->Int) (D:Int->List Nat) (Y:Int->Bool) (U:Int->Int) (c:Nat) (r:Bool) (hr:r=true↔∃n,Y n=true) :
 Con Try.prog 17 [.p 0 0] [some (kO b 1 R),some (kM b g V D Y U c)] (.b r) [.keep,.keep]:=by
 intro ρ w args' ha hh hno
 obtain ⟨d,rfl,hd⟩:=ha.one
 have A0:(mkH [some (kO b 1 R),some (kM b g V D Y U c)]).get 0=some (kO b 1 R):=by rw [mkH_get];rfl
 have A1:(mkH [some (kO b 1 R),some (kM b g V D Y U c)]).get 1=some (.mp b .i64 z4 g (f4 V D Y U) c):=by rw [mkH_get];rfl
 cases hd with | p _ _ B d N hB=>
 obtain ⟨v',hc,hv⟩:=kO_cell hh A0 hB
 have hlt:B<w.heap.size:=hh.range _ _ hB
 cases hv with
 | mq1 _ B2 N2 hB2=>
   obtain ⟨_,es,k1,k2⟩:=hh.mpRow A1 hB2
   refine (dirty_walk B (d+0) B2 V D Y U g c ρ.ro es w hc k1 k2 hlt).mono ?_
   rintro e w' ⟨⟨q,rfl,hq⟩,hgw⟩
   obtain ⟨g1,g2⟩:=hr_grown hh hgw
   have:q=r:=Bool.eq_iff_iff.2 (hq.trans hr.symm)
   subst this
   exact ⟨_,ρ,rfl,.b _,g1,g2⟩
 | mq0=>
   have hz:=hh.mpNil A1
   refine (dirty_nil B (d+0) w hc hlt).mono ?_
   rintro e w' ⟨rfl,hgw⟩
   obtain ⟨g1,g2⟩:=hr_grown hh hgw
   have:r=false:=by
    cases h:r with
    | false=>rfl
    | true=>obtain ⟨n,hn⟩:=hr.1 h;rw [(f4_z (hz n).2).2.2.1] at hn;simp at hn
   subst this
   exact ⟨_,ρ,rfl,.b _,g1,g2⟩
end Go.Proofs.Ly
namespace Go.Proofs.Ly
open Go Go.Sim Go.Proofs Go.Proofs.Cd Go.Proofs.St Go.Proofs.Cl Go.Proofs.Ytgoppmcfidmgfaa
def hmB (b:Int):Bool:=decide (1<=b) && decide (b<80)
noncomputable def rcF (rn:Nat->Nat) (rB rV:Nat->Nat->Int) (rD:Nat->Nat->List Nat) (i _:Nat):CV:=.sv 3 (rn i+1) (uF (rB i) (rV i) (rD i))
noncomputable def kMf (b:Bool) (g:Int->Bool) (f:Int->List CV) (c:Nat):AObj:=.mp b .i64 z4 g f c
def iS {α:Type} (F:Int->α) (n:Int) (v:α) (x:Int):α:=bif decide (x=n) then v else F x
theorem f4_set (V:Int->Int) (D:Int->List Nat) (Y:Int->Bool) (U:Int->Int) (n v u:Int) (t:List Nat) (y:Bool):mfSet (f4 V D Y U) n [.i .i64 v,.s t,.b y,.i .i64 u]=f4 (iS V n v) (iS D n t) (iS Y n y) (iS U n u):=by
 funext x
 unfold mfSet f4 iS
 cases decide (x=n)<;>rfl
set_option maxRecDepth 20000
set_option maxHeartbeats 4000000
theorem home0_vq (b:Int) (h0:decide (1<=b)=true):VD Try.prog 29 [.i .i64 b] [] (Orc.t (Orc.t (Orc.t Orc.z))) (.b (decide (b<80))) [] [] 0 (fun Lf=>decide (1<=b) =
 true/\decide (1<=b)=true/\decide (1<=b)=true/\Lf):=by unfold VD VQ;kernel_rfl
theorem home1_vq (b:Int) (h0:decide (1<=b)=false):VD Try.prog 29 [.i .i64 b] [] (Orc.f (Orc.f (Orc.f Orc.z))) (.b false) [] [] 0 (fun Lf=>decide (1<=b)=false/\
 decide (1<=b)=false/\decide (1<=b)=false/\Lf):=by unfold VD VQ;kernel_rfl
theorem home_con (b:Int):Con Try.prog 29 [.i .i64 b] [] (.b (hmB b)) []:=by
 unfold hmB
 cases h0:decide (1<=b) with
 | true=>
   exact con_d (home0_vq (b:=b) (h0:=h0)) (by repeat' first | exact trivial | assumption | exact rfl | exact nT (by assumption) | exact nF (by assumption) | apply And.intro | decide)
 | false=>
   exact con_d (home1_vq (b:=b) (h0:=h0)) (by repeat' first | exact trivial | assumption | exact rfl | exact nT (by assumption) | exact nF (by assumption) | apply And.intro | decide)
theorem chg0_vq (v0 u0 b1 v1:Int) (t0 t1:List Nat) (y0:Bool):VD Try.prog 33 [.agg [.i .i64 v0,.s t0,.b y0,.i .i64 u0],.agg [.i .i64 b1,.i .i64 v1,.s t1]] []
 (Orc.z) (.agg [.i .i64 v1,.s t1,.b true,.i .i64 (u0+1)]) [] [] 3 (fun Lf=>True/\True/\True/\rg (u0+1)/\Lf):=by unfold VD VQ;kernel_rfl
theorem chg_con (v0 u0 b1 v1:Int) (t0 t1:List Nat) (y0:Bool) (hu:0<=u0/\u0<1099511627776):Con Try.prog 33 [.agg [.i .i64 v0,.s t0,.b y0,.i .i64 u0],.agg [.i .i64 b1,.i .i64 v1,.s t1]] [] (.agg [.i .i64 v1,.s t1,.b true,.i .i64 (u0+1)]) []:=by
 exact con_d (chg0_vq (v0:=v0) (u0:=u0) (b1:=b1) (v1:=v1) (t0:=t0) (t1:=t1) (y0:=y0)) (by repeat' first | exact trivial | assumption | exact rfl | exact nT (by assumption) | exact nF (by assumption) | (unfold rg;omega) | apply And.intro | decide)
theorem lgd0_vq (v0 u0:Int) (t0:List Nat) (y0:Bool):VD Try.prog 35 [.agg [.i .i64 v0,.s t0,.b y0,.i .i64 u0]] [] (Orc.z) (.agg [.i .i64 v0,.s t0,.b y0,.i .i64 (u0
 - 1)]) [] [] 2 (fun Lf=>True/\rg (u0-1)/\True/\Lf):=by unfold VD VQ;kernel_rfl
theorem lgd_con (v0 u0:Int) (t0:List Nat) (y0:Bool) (hu:-1099511627776<=u0/\u0<1099511627776):Con Try.prog 35 [.agg [.i .i64 v0,.s t0,.b y0,.i .i64 u0]] [] (.agg [.i .i64 v0,.s t0,.b y0,.i .i64 (u0-1)]) []:=by
 exact con_d (lgd0_vq (v0:=v0) (u0:=u0) (t0:=t0) (y0:=y0)) (by repeat' first | exact trivial | assumption | exact rfl | exact nT (by assumption) | exact nF (by assumption) | (unfold rg;omega) | apply And.intro | decide)
theorem rdy0_vq (v0 u0:Int) (t0:List Nat) (y0:Bool) (h0:y0=true):VD Try.prog 36 [.agg [.i .i64 v0,.s t0,.b y0,.i .i64 u0]] [] (Orc.t (Orc.t (Orc.t (Orc.t
 Orc.z)))) (.b (decide (u0=0))) [] [] 1 (fun Lf=>True/\y0=true/\True/\y0=true/\y0=true/\y0=true/\Lf):=by unfold VD VQ;kernel_rfl
theorem rdy1_vq (v0 u0:Int) (t0:List Nat) (y0:Bool) (h0:y0=false):VD Try.prog 36 [.agg [.i .i64 v0,.s t0,.b y0,.i .i64 u0]] [] (Orc.f (Orc.f (Orc.f (Orc.f
 Orc.z)))) (.b false) [] [] 1 (fun Lf=>True/\y0=false/\y0=false/\y0=false/\y0=false/\Lf):=by unfold VD VQ;kernel_rfl
theorem rdy_con (v0 u0:Int) (t0:List Nat) (y0:Bool):Con Try.prog 36 [.agg [.i .i64 v0,.s t0,.b y0,.i .i64 u0]] [] (.b (y0 && decide (u0=0))) []:=by
 cases y0 with
 | true=>
   exact con_d (rdy0_vq (v0:=v0) (u0:=u0) (t0:=t0) (y0:=true) (h0:=rfl)) (by repeat' first | exact trivial | assumption | exact rfl | exact nT (by assumption) | exact nF (by assumption) | apply And.intro | decide)
 | false=>
   exact con_d (rdy1_vq (v0:=v0) (u0:=u0) (t0:=t0) (y0:=false) (h0:=rfl)) (by repeat' first | exact trivial | assumption | exact rfl | exact nT (by assumption) | exact nF (by assumption) | apply And.intro | decide)
theorem isv0_vq (et:List Nat) (ee:Int) (v:Int) (s:List Nat):VD Try.prog 30 [.agg [.i .i64 v,.s s]] [] (Orc.cal [] (.tup [.s et,.i .i64 ee]) [] Orc.z) (.b (decide
 (ee=0))) [] [] 1 (fun Lf=>Con Try.prog 42 [.agg [.i .i64 v,.s s]] [] (.tup [.s et,.i .i64 ee]) []/\Lf):=by unfold VD VQ;kernel_rfl
theorem isv_con (v:Int) (s:List Nat) (et:List Nat) (ee:Int) (keb:Con Try.prog 42 [.agg [.i .i64 v,.s s]] [] (.tup [.s et,.i .i64 ee]) []):Con Try.prog 30 [.agg [.i .i64 v,.s s]] [] (.b (decide (ee=0))) []:=by
 exact con_d (isv0_vq (et:=et) (ee:=ee) (v:=v) (s:=s)) (by repeat' first | exact trivial | assumption | exact rfl | exact nT (by assumption) | exact nF (by assumption) | assumption | apply And.intro | decide)
theorem part0_vq (bb:Bool) (gg:Int->Bool) (VV:Int->Int) (DD:Int->List Nat) (YY:Int->Bool) (UU:Int->Int) (cc:Nat) (NN:Nat) (FF:Nat->Nat->CV):VD
 Try.prog 28 [.p 0 0] [some (kO bb 1 (.sv 1 NN FF)),some (kM bb gg VV DD YY UU cc)] (Orc.cal [2,1] (.tup []) [.set (kM true gg VV DD YY UU (cntI gg)),.keep] Orc.z) (.tup
 []) [.set (kO true 2 (.sv 1 NN FF)),.keep,.set (kM true gg VV DD YY UU (cntI gg))] [2] 3 (fun Lf=>True/\bb=bb/\True/\Con Try.prog 41 [AV.mq true 0,AV.mq bb 1] [some
 (AObj.map [] 0),some (kM bb gg VV DD YY UU cc)] (.tup []) [.set (kM true gg VV DD YY UU (cntI gg)),.keep]/\True/\Lf):=by unfold VD VQ;kernel_rfl
theorem part_con (bb:Bool) (gg:Int->Bool) (VV:Int->Int) (DD:Int->List Nat) (YY:Int->Bool) (UU:Int->Int) (cc:Nat) (NN:Nat) (FF:Nat->Nat->CV):Con Try.prog 28 [.p 0 0] [some (kO bb 1 (.sv 1 NN FF)),some (kM bb gg VV DD YY UU cc)] (.tup []) [.set (kO true 2 (.sv 1 NN FF)),.keep,.set (kM true gg VV DD YY UU (cntI gg))]:=by
 exact con_d (part0_vq (bb:=bb) (gg:=gg) (VV:=VV) (DD:=DD) (YY:=YY) (UU:=UU) (cc:=cc) (NN:=NN) (FF:=FF)) (by repeat' first | exact trivial | assumption | exact rfl | exact nT (by assumption) | exact nF (by assumption) | exact copy_con _ _ _ _ _ _ _ | apply And.intro | decide)
set_option maxRecDepth 20000
set_option maxHeartbeats 4000000
theorem ldA0_vq (hb:Bool) (b v:Int) (s:List Nat) (bb:Bool) (gg:Int->Bool) (VV:Int->Int) (DD:Int->List Nat) (YY:Int->Bool) (UU:Int->Int) (cc:Nat) (NN :
 Nat) (FF:Nat->Nat->CV) (q0:hb=false):VD Try.prog 12 [.p 0 0,.i .i64 b,.agg [.i .i64 v,.s s]] [some (kO bb 1 (.sv 1 NN FF)),some (kM bb gg VV DD YY UU cc)]
 (Orc.c (Orc.cal [] (.b hb) [] (Orc.f (Orc.f (Orc.f (Orc.t (Orc.c Orc.z))))))) (.i .i64 2) [.keep,.keep] [] 3 (fun Lf=>True/\Con Try.prog 29 [.i .i64 b] [] (.b hb) []/\
 True/\(!!hb)=false/\(!!hb)=false/\(!!hb)=false/\(!hb)=true/\Lf):=by unfold VD VQ;kernel_rfl
theorem ldA_con (b v:Int) (s:List Nat) (bb:Bool) (gg:Int->Bool) (VV:Int->Int) (DD:Int->List Nat) (YY:Int->Bool) (UU:Int->Int) (cc:Nat) (NN:Nat) (FF:Nat->Nat->CV) (hb vb:Bool) (q0:hb=false) (khm:Con Try.prog 29 [.i .i64 b] [] (.b hb) []):Con Try.prog 12 [.p 0 0,.i .i64 b,.agg [.i .i64 v,.s s]] [some (kO bb 1 (.sv 1 NN FF)),some (kM bb gg VV DD YY UU cc)] (.i .i64 2) [.keep,.keep]:=by
 exact con_d (ldA0_vq (hb:=hb) (b:=b) (v:=v) (s:=s) (bb:=bb) (gg:=gg) (VV:=VV) (DD:=DD) (YY:=YY) (UU:=UU) (cc:=cc) (NN:=NN) (FF:=FF) (q0:=q0)) (by repeat' first | exact trivial | assumption | exact rfl | exact nT (by assumption) | exact nF (by assumption) | exact nnT (by assumption) | exact nnF (by assumption) | assumption | apply And.intro | decide)
theorem ldB0_vq (hb:Bool) (vb:Bool) (b v:Int) (s:List Nat) (bb:Bool) (gg:Int->Bool) (VV:Int->Int) (DD:Int->List Nat) (YY:Int->Bool) (UU:Int->Int) (cc :
 Nat) (NN:Nat) (FF:Nat->Nat->CV) (q0:hb=true) (q1:vb=false):VD Try.prog 12 [.p 0 0,.i .i64 b,.agg [.i .i64 v,.s s]] [some (kO bb 1 (.sv 1 NN FF)),some (kM
 bb gg VV DD YY UU cc)] (Orc.c (Orc.cal [] (.b hb) [] (Orc.t (Orc.t (Orc.cal [] (.b vb) [] (Orc.t (Orc.f (Orc.t Orc.z)))))))) (.i .i64 2) [.keep,.keep] [] 3 (fun Lf=>True/\
 Con Try.prog 29 [.i .i64 b] [] (.b hb) []/\True/\(!!hb)=true/\(!!hb)=true/\Con Try.prog 30 [.agg [.i .i64 v,.s s]] [] (.b vb) []/\(!!hb)=true/\True/\(!hb) =
 false/\(!vb)=true/\Lf):=by unfold VD VQ;kernel_rfl
theorem ldB_con (b v:Int) (s:List Nat) (bb:Bool) (gg:Int->Bool) (VV:Int->Int) (DD:Int->List Nat) (YY:Int->Bool) (UU:Int->Int) (cc:Nat) (NN:Nat) (FF:Nat->Nat->CV) (hb vb:Bool) (q0:hb=true) (q1:vb=false) (khm:Con Try.prog 29 [.i .i64 b] [] (.b hb) []) (kiv:Con Try.prog 30 [.agg [.i .i64 v,.s s]] [] (.b vb) []):Con Try.prog 12 [.p 0 0,.i .i64 b,.agg [.i .i64 v,.s s]] [some (kO bb 1 (.sv 1 NN FF)),some (kM bb gg VV DD YY UU cc)] (.i .i64 2) [.keep,.keep]:=by
 exact con_d (ldB0_vq (hb:=hb) (vb:=vb) (b:=b) (v:=v) (s:=s) (bb:=bb) (gg:=gg) (VV:=VV) (DD:=DD) (YY:=YY) (UU:=UU) (cc:=cc) (NN:=NN) (FF:=FF) (q0:=q0) (q1:=q1)) (by repeat' first | exact trivial | assumption | exact rfl | exact nT (by assumption) | exact nF (by assumption) | exact nnT (by assumption) | exact nnF (by assumption) | assumption | assumption | apply And.intro | decide)
theorem ldC0_vq (hb:Bool) (vb:Bool) (b v:Int) (s:List Nat) (bb:Bool) (gg:Int->Bool) (VV:Int->Int) (DD:Int->List Nat) (YY:Int->Bool) (UU:Int->Int) (cc :
 Nat) (NN:Nat) (FF:Nat->Nat->CV) (q0:hb=true) (q1:vb=true) (q2:YY b=true):VD Try.prog 12 [.p 0 0,.i .i64 b,.agg [.i .i64 v,.s s]] [some (kO bb 1 (.sv 1
 NN FF)),some (kM bb gg VV DD YY UU cc)] (Orc.c (Orc.cal [] (.b hb) [] (Orc.t (Orc.t (Orc.cal [] (.b vb) [] (Orc.t (Orc.f (Orc.f (Orc.t Orc.z))))))))) (.i .i64 26) [.keep,
 .keep] [] 3 (fun Lf=>True/\Con Try.prog 29 [.i .i64 b] [] (.b hb) []/\True/\(!!hb)=true/\(!!hb)=true/\Con Try.prog 30 [.agg [.i .i64 v,.s s]] [] (.b vb) []/\
 (!!hb)=true/\True/\(!hb)=false/\(!vb)=false/\True/\bb=bb/\YY b=true/\Lf):=by unfold VD VQ;kernel_rfl
theorem ldC_con (b v:Int) (s:List Nat) (bb:Bool) (gg:Int->Bool) (VV:Int->Int) (DD:Int->List Nat) (YY:Int->Bool) (UU:Int->Int) (cc:Nat) (NN:Nat) (FF:Nat->Nat->CV) (hb vb:Bool) (q0:hb=true) (q1:vb=true) (q2:YY b=true) (khm:Con Try.prog 29 [.i .i64 b] [] (.b hb) []) (kiv:Con Try.prog 30 [.agg [.i .i64 v,.s s]] [] (.b vb) []):Con Try.prog 12 [.p 0 0,.i .i64 b,.agg [.i .i64 v,.s s]] [some (kO bb 1 (.sv 1 NN FF)),some (kM bb gg VV DD YY UU cc)] (.i .i64 26) [.keep,.keep]:=by
 exact con_d (ldC0_vq (hb:=hb) (vb:=vb) (b:=b) (v:=v) (s:=s) (bb:=bb) (gg:=gg) (VV:=VV) (DD:=DD) (YY:=YY) (UU:=UU) (cc:=cc) (NN:=NN) (FF:=FF) (q0:=q0) (q1:=q1) (q2:=q2)) (by repeat' first | exact trivial | assumption | exact rfl | exact nT (by assumption) | exact nF (by assumption) | exact nnT (by assumption) | exact nnF (by assumption) | assumption | assumption | apply And.intro | decide)
theorem ldD0_vq (hb:Bool) (vb:Bool) (b v:Int) (s:List Nat) (bb:Bool) (gg:Int->Bool) (VV:Int->Int) (DD:Int->List Nat) (YY:Int->Bool) (UU:Int->Int) (cc :
 Nat) (NN:Nat) (FF:Nat->Nat->CV) (q0:hb=true) (q1:vb=true) (q2:YY b=false):VD Try.prog 12 [.p 0 0,.i .i64 b,.agg [.i .i64 v,.s s]] [some (kO bb 1 (.sv 1
 NN FF)),some (kM bb gg VV DD YY UU cc)] (Orc.c (Orc.cal [] (.b hb) [] (Orc.t (Orc.t (Orc.cal [] (.b vb) [] (Orc.t (Orc.f (Orc.f (Orc.f (Orc.cal [0,1] (.tup []) [.set (kO
 true 2 (.sv 1 NN FF)),.keep,.set (kM true gg VV DD YY UU (cntI gg))] Orc.z)))))))))) (.i .i64 0) [.set (kO true 2 (.sv 1 NN FF)),.keep,.set (kMf true (mgSet gg b) (mfSet
 (f4 VV DD YY UU) b [.i .i64 v,.s s,.b false,.i .i64 0]) (bif gg b then cntI gg else cntI gg+1))] [3] 4 (fun Lf=>True/\Con Try.prog 29 [.i .i64 b] [] (.b hb) []/\True
 /\(!!hb)=true/\(!!hb)=true/\Con Try.prog 30 [.agg [.i .i64 v,.s s]] [] (.b vb) []/\(!!hb)=true/\True/\(!hb)=false/\(!vb)=false/\True/\bb=bb/\YY b =
 false/\Con Try.prog 28 [.p 0 0] [some (kO bb 1 (.sv 1 NN FF)),some (kM bb gg VV DD YY UU cc)] (.tup []) [.set (kO true 2 (.sv 1 NN FF)),.keep,.set (kM true gg VV DD YY UU
 (cntI gg))]/\True/\true=true/\Lf):=by unfold VD VQ;kernel_rfl
theorem ldD_con (b v:Int) (s:List Nat) (bb:Bool) (gg:Int->Bool) (VV:Int->Int) (DD:Int->List Nat) (YY:Int->Bool) (UU:Int->Int) (cc:Nat) (NN:Nat) (FF:Nat->Nat->CV) (hb vb:Bool) (q0:hb=true) (q1:vb=true) (q2:YY b=false) (khm:Con Try.prog 29 [.i .i64 b] [] (.b hb) []) (kiv:Con Try.prog 30 [.agg [.i .i64 v,.s s]] [] (.b vb) []):Con Try.prog 12 [.p 0 0,.i .i64 b,.agg [.i .i64 v,.s s]] [some (kO bb 1 (.sv 1 NN FF)),some (kM bb gg VV DD YY UU cc)] (.i .i64 0) [.set (kO true 2 (.sv 1 NN FF)),.keep,.set (kMf true (mgSet gg b) (mfSet (f4 VV DD YY UU) b [.i .i64 v,.s s,.b false,.i .i64 0]) (bif gg b then cntI gg else cntI gg+1))]:=by
 exact con_d (ldD0_vq (hb:=hb) (vb:=vb) (b:=b) (v:=v) (s:=s) (bb:=bb) (gg:=gg) (VV:=VV) (DD:=DD) (YY:=YY) (UU:=UU) (cc:=cc) (NN:=NN) (FF:=FF) (q0:=q0) (q1:=q1) (q2:=q2)) (by repeat' first | exact trivial | assumption | exact rfl | exact nT (by assumption) | exact nF (by assumption) | exact nnT (by assumption) | exact nnF (by assumption) | assumption | assumption | exact part_con _ _ _ _ _ _ _ _ _ | apply And.intro | decide)
theorem clA0_vq (rb:Bool) (b v:Int) (bb:Bool) (gg:Int->Bool) (VV:Int->Int) (DD:Int->List Nat) (YY:Int->Bool) (UU:Int->Int) (cc:Nat) (NN:Nat) (FF:Nat
 ->Nat->CV) (q0:rb=false):VD Try.prog 16 [.p 0 0,.i .i64 b,.i .i64 v] [some (kO bb 1 (.sv 1 NN FF)),some (kM bb gg VV DD YY UU cc)] (Orc.c (Orc.cal [] (.b rb) []
 (Orc.f (Orc.f (Orc.f (Orc.f (Orc.f (Orc.t (Orc.c Orc.z))))))))) (.b false) [.keep,.keep] [] 3 (fun Lf=>True/\True/\bb=bb/\Con Try.prog 36 [.agg [.i .i64 (VV b),.s
 (DD b),.b (YY b),.i .i64 (UU b)]] [] (.b rb) []/\True/\(!!rb)=false/\(!!rb)=false/\(!!rb)=false/\(!!rb)=false/\(!!rb)=false/\(!rb)=true/\Lf)
 :=by unfold VD VQ;kernel_rfl
theorem clA_con (b v:Int) (bb:Bool) (gg:Int->Bool) (VV:Int->Int) (DD:Int->List Nat) (YY:Int->Bool) (UU:Int->Int) (cc:Nat) (NN:Nat) (FF:Nat->Nat->CV) (rb:Bool) (q0:rb=false) (krd:Con Try.prog 36 [.agg [.i .i64 (VV b),.s (DD b),.b (YY b),.i .i64 (UU b)]] [] (.b rb) []):Con Try.prog 16 [.p 0 0,.i .i64 b,.i .i64 v] [some (kO bb 1 (.sv 1 NN FF)),some (kM bb gg VV DD YY UU cc)] (.b false) [.keep,.keep]:=by
 exact con_d (clA0_vq (rb:=rb) (b:=b) (v:=v) (bb:=bb) (gg:=gg) (VV:=VV) (DD:=DD) (YY:=YY) (UU:=UU) (cc:=cc) (NN:=NN) (FF:=FF) (q0:=q0)) (by repeat' first | exact trivial | assumption | exact rfl | exact nT (by assumption) | exact nF (by assumption) | exact nnT (by assumption) | exact nnF (by assumption) | assumption | apply And.intro | decide)
theorem clB0_vq (rb:Bool) (b v:Int) (bb:Bool) (gg:Int->Bool) (VV:Int->Int) (DD:Int->List Nat) (YY:Int->Bool) (UU:Int->Int) (cc:Nat) (NN:Nat) (FF:Nat
 ->Nat->CV) (q0:rb=true) (q1:decide (VV b=v)=false):VD Try.prog 16 [.p 0 0,.i .i64 b,.i .i64 v] [some (kO bb 1 (.sv 1 NN FF)),some (kM bb gg VV DD YY UU cc)]
 (Orc.c (Orc.cal [] (.b rb) [] (Orc.t (Orc.t (Orc.t (Orc.t (Orc.t (Orc.f (Orc.t Orc.z))))))))) (.b false) [.keep,.keep] [] 3 (fun Lf=>True/\True/\bb=bb/\Con Try.prog
 36 [.agg [.i .i64 (VV b),.s (DD b),.b (YY b),.i .i64 (UU b)]] [] (.b rb) []/\True/\(!!rb)=true/\True/\(!!rb)=true/\True/\(!!rb)=true/\(!!rb)=true/\(!!rb) =
 true/\(!rb)=false/\(!decide (VV b=v))=true/\Lf):=by unfold VD VQ;kernel_rfl
theorem clB_con (b v:Int) (bb:Bool) (gg:Int->Bool) (VV:Int->Int) (DD:Int->List Nat) (YY:Int->Bool) (UU:Int->Int) (cc:Nat) (NN:Nat) (FF:Nat->Nat->CV) (rb:Bool) (q0:rb=true) (q1:decide (VV b=v)=false) (krd:Con Try.prog 36 [.agg [.i .i64 (VV b),.s (DD b),.b (YY b),.i .i64 (UU b)]] [] (.b rb) []):Con Try.prog 16 [.p 0 0,.i .i64 b,.i .i64 v] [some (kO bb 1 (.sv 1 NN FF)),some (kM bb gg VV DD YY UU cc)] (.b false) [.keep,.keep]:=by
 exact con_d (clB0_vq (rb:=rb) (b:=b) (v:=v) (bb:=bb) (gg:=gg) (VV:=VV) (DD:=DD) (YY:=YY) (UU:=UU) (cc:=cc) (NN:=NN) (FF:=FF) (q0:=q0) (q1:=q1)) (by repeat' first | exact trivial | assumption | exact rfl | exact nT (by assumption) | exact nF (by assumption) | exact nnT (by assumption) | exact nnF (by assumption) | assumption | apply And.intro | decide)
theorem clC0_vq (rb:Bool) (b v:Int) (bb:Bool) (gg:Int->Bool) (VV:Int->Int) (DD:Int->List Nat) (YY:Int->Bool) (UU:Int->Int) (cc:Nat) (NN:Nat) (FF:Nat
 ->Nat->CV) (q0:rb=true) (q1:decide (VV b=v)=true):VD Try.prog 16 [.p 0 0,.i .i64 b,.i .i64 v] [some (kO bb 1 (.sv 1 NN FF)),some (kM bb gg VV DD YY UU cc)]
 (Orc.c (Orc.cal [] (.b rb) [] (Orc.t (Orc.t (Orc.t (Orc.t (Orc.t (Orc.f (Orc.f (Orc.cal [0,1] (.tup []) [.set (kO true 2 (.sv 1 NN FF)),.keep,.set (kM true gg VV DD YY UU
 (cntI gg))] Orc.z)))))))))) (.b true) [.set (kO true 2 (.sv 1 NN FF)),.keep,.set (kMf true (mgSet gg b) (mfSet (f4 VV DD YY UU) b [.i .i64 (VV b),.s (DD b),.b false,.i
 .i64 0]) (bif gg b then cntI gg else cntI gg+1))] [3] 4 (fun Lf=>True/\True/\bb=bb/\Con Try.prog 36 [.agg [.i .i64 (VV b),.s (DD b),.b (YY b),.i .i64 (UU b)]] []
 (.b rb) []/\True/\(!!rb)=true/\True/\(!!rb)=true/\True/\(!!rb)=true/\(!!rb)=true/\(!!rb)=true/\(!rb)=false/\(!decide (VV b=v))=false/\Con Try.prog
 28 [.p 0 0] [some (kO bb 1 (.sv 1 NN FF)),some (kM bb gg VV DD YY UU cc)] (.tup []) [.set (kO true 2 (.sv 1 NN FF)),.keep,.set (kM true gg VV DD YY UU (cntI gg))]/\True/\
 True/\true=true/\Lf):=by unfold VD VQ;kernel_rfl
theorem clC_con (b v:Int) (bb:Bool) (gg:Int->Bool) (VV:Int->Int) (DD:Int->List Nat) (YY:Int->Bool) (UU:Int->Int) (cc:Nat) (NN:Nat) (FF:Nat->Nat->CV) (rb:Bool) (q0:rb=true) (q1:decide (VV b=v)=true) (krd:Con Try.prog 36 [.agg [.i .i64 (VV b),.s (DD b),.b (YY b),.i .i64 (UU b)]] [] (.b rb) []):Con Try.prog 16 [.p 0 0,.i .i64 b,.i .i64 v] [some (kO bb 1 (.sv 1 NN FF)),some (kM bb gg VV DD YY UU cc)] (.b true) [.set (kO true 2 (.sv 1 NN FF)),.keep,.set (kMf true (mgSet gg b) (mfSet (f4 VV DD YY UU) b [.i .i64 (VV b),.s (DD b),.b false,.i .i64 0]) (bif gg b then cntI gg else cntI gg+1))]:=by
 exact con_d (clC0_vq (rb:=rb) (b:=b) (v:=v) (bb:=bb) (gg:=gg) (VV:=VV) (DD:=DD) (YY:=YY) (UU:=UU) (cc:=cc) (NN:=NN) (FF:=FF) (q0:=q0) (q1:=q1)) (by repeat' first | exact trivial | assumption | exact rfl | exact nT (by assumption) | exact nF (by assumption) | exact nnT (by assumption) | exact nnF (by assumption) | assumption | exact part_con _ _ _ _ _ _ _ _ _ | apply And.intro | decide)
theorem nil00_vq:VD Try.prog 8 [] [] (Orc.z) (.p 0 0) [.set (cellsO 58 [.m0,.l0])] [0] 1 (fun Lf=>Lf):=by unfold VD VQ;kernel_rfl
theorem nil0_con:Con Try.prog 8 [] [] (.p 0 0) [.set (cellsO 58 [.m0,.l0])]:=by
 exact con_d (nil00_vq) (by repeat' first | exact trivial | assumption | exact rfl | exact nT (by assumption) | exact nF (by assumption) | exact nnT (by assumption) | exact nnF (by assumption) | apply And.intro | decide)
set_option maxRecDepth 20000
set_option maxHeartbeats 4000000
theorem fR_lq (n i:Nat) (B W:Nat->Int) (E:Nat->List Nat) (bb:Bool) (gg:Int->Bool) (VV:Int->Int) (DD:Int->List Nat) (YY:Int->Bool) (UU:Int->Int) (cc :
 Nat) (NN:Nat) (FF:Nat->Nat->CV) (h0:decide (Int.ofNat i<Int.ofNat n)=true) (h1:gg (B i)=true) (h2:decide (W i=VV (B i)+1)=true):LD Try.prog (loopAt
 Try.prog 32 0) 37 2 [(0,.p 0 0),(9,.sv 3 n (uF B W E)),(10,.i .i64 (Int.ofNat n)),(11,.i .i64 (Int.ofNat i))] [some (kO bb 1 (.sv 1 NN FF)),some (kM bb gg VV DD YY UU
 cc)] (Orc.t (Orc.t (Orc.t (Orc.t (Orc.t (Orc.t (Orc.t (Orc.t (Orc.f (Orc.f Orc.z)))))))))) .nrm [0,1] [(0,.p 0 0),(9,.sv 3 n (uF B W E)),(10,.i .i64 (Int.ofNat n)),
 (11,.i .i64 (Int.ofNat i+1))] [some (kO bb 1 (.sv 1 NN FF)),some (kM bb gg VV DD YY UU cc)] 4 (fun Lf=>decide (Int.ofNat i<Int.ofNat n)=true/\(0<=Int.ofNat i/\
 Int.ofNat i<↑n)/\True/\True/\True/\bb=bb/\True/\(!!gg (B i))=true/\True/\(!!gg (B i))=true/\(!!gg (B i))=true/\True/\(!!gg (B i))=true/\True/\(!!gg
 (B i))=true/\(!!gg (B i))=true/\rg (VV (B i)+1)/\(!!gg (B i))=true/\(!gg (B i))=false/\(!decide (W i=VV (B i)+1))=false/\rg (Int.ofNat i+1)/\Lf)
 :=by unfold LD LQ;kernel_rfl
theorem fX_lq (n i:Nat) (B W:Nat->Int) (E:Nat->List Nat) (bb:Bool) (gg:Int->Bool) (VV:Int->Int) (DD:Int->List Nat) (YY:Int->Bool) (UU:Int->Int) (cc :
 Nat) (NN:Nat) (FF:Nat->Nat->CV) (h0:decide (Int.ofNat i<Int.ofNat n)=true) (h1:gg (B i)=false):LD Try.prog (loopAt Try.prog 32 0) 37 2 [(0,.p 0 0),(9,.sv
 3 n (uF B W E)),(10,.i .i64 (Int.ofNat n)),(11,.i .i64 (Int.ofNat i))] [some (kO bb 1 (.sv 1 NN FF)),some (kM bb gg VV DD YY UU cc)] (Orc.t (Orc.f (Orc.f (Orc.f (Orc.f
 (Orc.f (Orc.f (Orc.f (Orc.t (Orc.c Orc.z)))))))))) .ret [0,1] [(4,.b false)] [some (kO bb 1 (.sv 1 NN FF)),some (kM bb gg VV DD YY UU cc)] 4 (fun Lf=>decide (Int.ofNat i
 <Int.ofNat n)=true/\(0<=Int.ofNat i/\Int.ofNat i<↑n)/\True/\True/\True/\bb=bb/\True/\(!!gg (B i))=false/\(!!gg (B i))=false/\(!!gg (B i))=false/\
 (!!gg (B i))=false/\(!!gg (B i))=false/\(!!gg (B i))=false/\(!!gg (B i))=false/\(!gg (B i))=true/\Lf):=by unfold LD LQ;kernel_rfl
theorem fY_lq (n i:Nat) (B W:Nat->Int) (E:Nat->List Nat) (bb:Bool) (gg:Int->Bool) (VV:Int->Int) (DD:Int->List Nat) (YY:Int->Bool) (UU:Int->Int) (cc :
 Nat) (NN:Nat) (FF:Nat->Nat->CV) (h0:decide (Int.ofNat i<Int.ofNat n)=true) (h1:gg (B i)=true) (h2:decide (W i=VV (B i)+1)=false):LD Try.prog (loopAt
 Try.prog 32 0) 37 2 [(0,.p 0 0),(9,.sv 3 n (uF B W E)),(10,.i .i64 (Int.ofNat n)),(11,.i .i64 (Int.ofNat i))] [some (kO bb 1 (.sv 1 NN FF)),some (kM bb gg VV DD YY UU
 cc)] (Orc.t (Orc.t (Orc.t (Orc.t (Orc.t (Orc.t (Orc.t (Orc.t (Orc.f (Orc.t Orc.z)))))))))) .ret [0,1] [(4,.b false)] [some (kO bb 1 (.sv 1 NN FF)),some (kM bb gg VV DD YY
 UU cc)] 4 (fun Lf=>decide (Int.ofNat i<Int.ofNat n)=true/\(0<=Int.ofNat i/\Int.ofNat i<↑n)/\True/\True/\True/\bb=bb/\True/\(!!gg (B i))=true/\True/\
 (!!gg (B i))=true/\(!!gg (B i))=true/\True/\(!!gg (B i))=true/\True/\(!!gg (B i))=true/\(!!gg (B i))=true/\rg (VV (B i)+1)/\(!!gg (B i))=true/\(!gg (B
 i))=false/\(!decide (W i=VV (B i)+1))=true/\Lf):=by unfold LD LQ;kernel_rfl
theorem fE_lq (n i:Nat) (B W:Nat->Int) (E:Nat->List Nat) (bb:Bool) (gg:Int->Bool) (VV:Int->Int) (DD:Int->List Nat) (YY:Int->Bool) (UU:Int->Int) (cc :
 Nat) (NN:Nat) (FF:Nat->Nat->CV) (h0:decide (Int.ofNat i<Int.ofNat n)=false):LD Try.prog (loopAt Try.prog 32 0) 37 2 [(0,.p 0 0),(9,.sv 3 n (uF B W E)),(10,
 .i .i64 (Int.ofNat n)),(11,.i .i64 (Int.ofNat i))] [some (kO bb 1 (.sv 1 NN FF)),some (kM bb gg VV DD YY UU cc)] (Orc.f Orc.z) (.exit 0) [0,1] [(0,.p 0 0)] [some (kO bb
 1 (.sv 1 NN FF)),some (kM bb gg VV DD YY UU cc)] 2 (fun Lf=>decide (Int.ofNat i<Int.ofNat n)=false/\Lf):=by unfold LD LQ;kernel_rfl
theorem cR_lq (n i:Nat) (B W:Nat->Int) (E:Nat->List Nat) (bb:Bool) (gg:Int->Bool) (VV:Int->Int) (DD:Int->List Nat) (YY:Int->Bool) (UU:Int->Int) (cc :
 Nat) (NN:Nat) (FF:Nat->Nat->CV) (h0:decide (Int.ofNat i<Int.ofNat n)=true):LD Try.prog (loopAt Try.prog 13 0) 58 2 [(0,.p 0 0),(1,.sv 3 n (uF B W E)),(24,
 .sv 3 n (uF B W E)),(25,.i .i64 (Int.ofNat n)),(26,.i .i64 (Int.ofNat i))] [some (kO true 1 (.sv 1 NN FF)),some (kM true gg VV DD YY UU cc)] (Orc.t (Orc.cal [] (.agg [.i
 .i64 (W i),.s (E i),.b true,.i .i64 (UU (B i)+1)]) [] Orc.z)) .nrm [0,1] [(0,.p 0 0),(1,.sv 3 n (uF B W E)),(24,.sv 3 n (uF B W E)),(25,.i .i64 (Int.ofNat n)),
 (26,.i .i64 (Int.ofNat i+1))] [some (kO true 1 (.sv 1 NN FF)),some (kMf true (mgSet gg (B i)) (mfSet (f4 VV DD YY UU) (B i) [.i .i64 (W i),.s (E i),.b true,.i .i64 (UU
 (B i)+1)]) (bif gg (B i) then cc else cc+1))] 3 (fun Lf=>decide (Int.ofNat i<Int.ofNat n)=true/\(0<=Int.ofNat i/\Int.ofNat i<↑n)/\True/\True/\True/\True/\
 True/\true=true/\Con Try.prog 33 [.agg [.i .i64 (VV (B i)),.s (DD (B i)),.b (YY (B i)),.i .i64 (UU (B i))],.agg [.i .i64 (B i),.i .i64 (W i),.s (E i)]] [] (.agg [.i
 .i64 (W i),.s (E i),.b true,.i .i64 (UU (B i)+1)]) []/\true=true/\rg (Int.ofNat i+1)/\Lf):=by unfold LD LQ;kernel_rfl
theorem cE_lq (n i:Nat) (B W:Nat->Int) (E:Nat->List Nat) (bb:Bool) (gg:Int->Bool) (VV:Int->Int) (DD:Int->List Nat) (YY:Int->Bool) (UU:Int->Int) (cc :
 Nat) (NN:Nat) (FF:Nat->Nat->CV) (h0:decide (Int.ofNat i<Int.ofNat n)=false):LD Try.prog (loopAt Try.prog 13 0) 58 2 [(0,.p 0 0),(1,.sv 3 n (uF B W E)),(24,
 .sv 3 n (uF B W E)),(25,.i .i64 (Int.ofNat n)),(26,.i .i64 (Int.ofNat i))] [some (kO true 1 (.sv 1 NN FF)),some (kM true gg VV DD YY UU cc)] (Orc.f Orc.z) (.exit 0) [0,
 1] [(0,.p 0 0),(1,.sv 3 n (uF B W E))] [some (kO true 1 (.sv 1 NN FF)),some (kM true gg VV DD YY UU cc)] 2 (fun Lf=>decide (Int.ofNat i<Int.ofNat n)=false/\Lf)
 :=by unfold LD LQ;kernel_rfl
theorem gR_lq (n i:Nat) (B W:Nat->Int) (E:Nat->List Nat) (bb:Bool) (gg:Int->Bool) (VV:Int->Int) (DD:Int->List Nat) (YY:Int->Bool) (UU:Int->Int) (cc :
 Nat) (NN:Nat) (FF:Nat->Nat->CV) (h0:decide (Int.ofNat i<Int.ofNat n)=true):LD Try.prog (loopAt Try.prog 14 0) 51 2 [(0,.p 0 0),(22,.sv 3 n (uF B W E)),(23,
 .i .i64 (Int.ofNat n)),(24,.i .i64 (Int.ofNat i))] [some (kO true 1 (.sv 1 NN FF)),some (kM true gg VV DD YY UU cc)] (Orc.t (Orc.cal [] (.agg [.i .i64 (VV (B i)),.s (DD
 (B i)),.b (YY (B i)),.i .i64 (UU (B i)-1)]) [] Orc.z)) .nrm [0,1] [(0,.p 0 0),(22,.sv 3 n (uF B W E)),(23,.i .i64 (Int.ofNat n)),(24,.i .i64 (Int.ofNat i+1))]
 [some (kO true 1 (.sv 1 NN FF)),some (kMf true (mgSet gg (B i)) (mfSet (f4 VV DD YY UU) (B i) [.i .i64 (VV (B i)),.s (DD (B i)),.b (YY (B i)),.i .i64 (UU (B i)-1)])
 (bif gg (B i) then cc else cc+1))] 3 (fun Lf=>decide (Int.ofNat i<Int.ofNat n)=true/\(0<=Int.ofNat i/\Int.ofNat i<↑n)/\True/\True/\True/\True/\True/\true =
 true/\Con Try.prog 35 [.agg [.i .i64 (VV (B i)),.s (DD (B i)),.b (YY (B i)),.i .i64 (UU (B i))]] [] (.agg [.i .i64 (VV (B i)),.s (DD (B i)),.b (YY (B i)),.i .i64 (UU
 (B i)-1)]) []/\true=true/\rg (Int.ofNat i+1)/\Lf):=by unfold LD LQ;kernel_rfl
theorem gE_lq (n i:Nat) (B W:Nat->Int) (E:Nat->List Nat) (bb:Bool) (gg:Int->Bool) (VV:Int->Int) (DD:Int->List Nat) (YY:Int->Bool) (UU:Int->Int) (cc :
 Nat) (NN:Nat) (FF:Nat->Nat->CV) (h0:decide (Int.ofNat i<Int.ofNat n)=false):LD Try.prog (loopAt Try.prog 14 0) 51 2 [(0,.p 0 0),(22,.sv 3 n (uF B W E)),(23,
 .i .i64 (Int.ofNat n)),(24,.i .i64 (Int.ofNat i))] [some (kO true 1 (.sv 1 NN FF)),some (kM true gg VV DD YY UU cc)] (Orc.f Orc.z) (.exit 0) [0,1] [(0,.p 0 0)] [some (kO
 true 1 (.sv 1 NN FF)),some (kM true gg VV DD YY UU cc)] 2 (fun Lf=>decide (Int.ofNat i<Int.ofNat n)=false/\Lf):=by unfold LD LQ;kernel_rfl
theorem rR_lq (rb:Bool) (m i:Nat) (B W:Nat->Int) (E:Nat->List Nat) (bb:Bool) (gg:Int->Bool) (VV:Int->Int) (DD:Int->List Nat) (YY:Int->Bool) (UU:Int->
 Int) (cc:Nat) (NN:Nat) (FF:Nat->Nat->CV) (h0:decide (Int.ofNat i<80)=true) (h1:rb=true):LD Try.prog (loopAt Try.prog 15 0) 32 2 [(0,.p 0 0),(3,.lr 2 3
 0 m false),(8,.i .i64 (Int.ofNat i))] [some (kO bb 1 (.sv 1 NN FF)),some (kM bb gg VV DD YY UU cc),some (.rows 53 3 m (uF B W E))] (Orc.t (Orc.cal [] (.b rb) [] (Orc.t
 Orc.z))) .nrm [0,1,5] [(0,.p 0 0),(3,.lr 2 3 0 (addN m 1) false),(8,.i .i64 (Int.ofNat i+1))] [some (kO bb 1 (.sv 1 NN FF)),some (kM bb gg VV DD YY UU cc),some
 (.rows 53 3 (addN m 1) (appZ m (uF B W E) (listF 3 [.i .i64 (Int.ofNat i),.i .i64 (VV (Int.ofNat i)),.s (DD (Int.ofNat i))] 1)))] 6 (fun Lf=>decide (Int.ofNat i<80) =
 true/\True/\bb=bb/\Con Try.prog 36 [.agg [.i .i64 (VV (Int.ofNat i)),.s (DD (Int.ofNat i)),.b (YY (Int.ofNat i)),.i .i64 (UU (Int.ofNat i))]] [] (.b rb) []/\rb =
 true/\True/\True/\True/\True/\(0+m<=m/\True/\m+1<=140737488355328/\(3*(m+1)+1536)*32<=562949953421312)/\rg (Int.ofNat i+1)/\Lf)
 :=by unfold LD LQ;kernel_rfl
theorem rS_lq (rb:Bool) (m i:Nat) (B W:Nat->Int) (E:Nat->List Nat) (bb:Bool) (gg:Int->Bool) (VV:Int->Int) (DD:Int->List Nat) (YY:Int->Bool) (UU:Int->
 Int) (cc:Nat) (NN:Nat) (FF:Nat->Nat->CV) (h0:decide (Int.ofNat i<80)=true) (h1:rb=false):LD Try.prog (loopAt Try.prog 15 0) 32 2 [(0,.p 0 0),(3,.lr 2 3
 0 m false),(8,.i .i64 (Int.ofNat i))] [some (kO bb 1 (.sv 1 NN FF)),some (kM bb gg VV DD YY UU cc),some (.rows 53 3 m (uF B W E))] (Orc.t (Orc.cal [] (.b rb) [] (Orc.f
 Orc.z))) .nrm [0,1,2] [(0,.p 0 0),(3,.lr 2 3 0 m false),(8,.i .i64 (Int.ofNat i+1))] [some (kO bb 1 (.sv 1 NN FF)),some (kM bb gg VV DD YY UU cc),some (.rows 53 3
 m (uF B W E))] 4 (fun Lf=>decide (Int.ofNat i<80)=true/\True/\bb=bb/\Con Try.prog 36 [.agg [.i .i64 (VV (Int.ofNat i)),.s (DD (Int.ofNat i)),.b (YY (Int.ofNat
 i)),.i .i64 (UU (Int.ofNat i))]] [] (.b rb) []/\rb=false/\rg (Int.ofNat i+1)/\Lf):=by unfold LD LQ;kernel_rfl
theorem rE_lq (m i:Nat) (B W:Nat->Int) (E:Nat->List Nat) (bb:Bool) (gg:Int->Bool) (VV:Int->Int) (DD:Int->List Nat) (YY:Int->Bool) (UU:Int->Int) (cc :
 Nat) (NN:Nat) (FF:Nat->Nat->CV) (h0:decide (Int.ofNat i<80)=false):LD Try.prog (loopAt Try.prog 15 0) 32 2 [(0,.p 0 0),(3,.lr 2 3 0 m false),(8,.i .i64
 (Int.ofNat i))] [some (kO bb 1 (.sv 1 NN FF)),some (kM bb gg VV DD YY UU cc),some (.rows 53 3 m (uF B W E))] (Orc.f Orc.z) (.exit 0) [0,1,2] [(3,.lr 2 3 0 m false)]
 [some (kO bb 1 (.sv 1 NN FF)),some (kM bb gg VV DD YY UU cc),some (.rows 53 3 m (uF B W E))] 3 (fun Lf=>decide (Int.ofNat i<80)=false/\Lf)
 :=by unfold LD LQ;kernel_rfl
set_option maxRecDepth 20000
set_option maxHeartbeats 4000000
structure Ms where
 g:Int->Bool
 V:Int->Int
 D:Int->List Nat
 Y:Int->Bool
 U:Int->Int
 c:Nat
noncomputable def Ms.o (m:Ms) (b:Bool):AObj:=kM b m.g m.V m.D m.Y m.U m.c
def Ms.put (m:Ms) (b v:Int) (t:List Nat) (y:Bool) (u:Int):Ms:=⟨iS m.g b true,iS m.V b v,iS m.D b t,iS m.Y b y,iS m.U b u,bif m.g b then m.c else m.c+1⟩
theorem Ms.put_o (m:Ms) (b v u:Int) (t:List Nat) (y:Bool):kMf true (mgSet m.g b) (mfSet (f4 m.V m.D m.Y m.U) b [.i .i64 v,.s t,.b y,.i .i64 u]) (bif m.g b then m.c else m.c+1)=(m.put b v t y u).o true:=by
 rw [f4_set];rfl
def cmS (m:Ms) (B W:Nat->Int) (E:Nat->List Nat):Nat->Ms
 | 0=>m
 | k+1=>(cmS m B W E k).put (B k) (W k) (E k) true ((cmS m B W E k).U (B k)+1)
def lgS (m:Ms) (B:Nat->Int):Nat->Ms
 | 0=>m
 | k+1=>(lgS m B k).put (B k) ((lgS m B k).V (B k)) ((lgS m B k).D (B k)) ((lgS m B k).Y (B k)) ((lgS m B k).U (B k)-1)
theorem cmS_U {m:Ms} {B W:Nat->Int} {E:Nat->List Nat} {M:Int} (h:∀n,0<=m.U n/\m.U n<=M):∀k n,0<=(cmS m B W E k).U n/\(cmS m B W E k).U n<=M+k
 | 0,n=>by have:=h n;exact ⟨this.1,by show m.U n<=_;simp;exact this.2⟩
 | k+1,n=>by
   have a:=cmS_U (B:=B) (W:=W) (E:=E) h k n
   have b:=cmS_U (B:=B) (W:=W) (E:=E) h k (B k)
   show 0<=iS _ _ _ n/\iS _ _ _ n<=_
   unfold iS
   cases decide (n=B k)<;>simp only [cond_true,cond_false]<;>omega
theorem lgS_U {m:Ms} {B:Nat->Int} {M:Int} (h:∀n,0<=m.U n/\m.U n<=M):∀k n,-k<=(lgS m B k).U n/\(lgS m B k).U n<=M
 | 0,n=>by have:=h n;exact ⟨by simp;exact this.1,this.2⟩
 | k+1,n=>by
   have a:=lgS_U (B:=B) h k n
   have b:=lgS_U (B:=B) h k (B k)
   show _<=iS _ _ _ n/\iS _ _ _ n<=_
   unfold iS
   cases decide (n=B k)<;>simp only [cond_true,cond_false]<;>omega
def foB (m:Ms) (B W:Nat->Int) (i:Nat):Bool:=m.g (B i) && decide (W i=m.V (B i)+1)
section
variable (n:Nat) (B W:Nat->Int) (E:Nat->List Nat) (m:Ms) (bb:Bool) (NN:Nat) (FF:Nat->Nat->CV)
theorem bi_of {i n:Nat} (hi:i<n):decide (Int.ofNat i<Int.ofNat n)=true/\((0:Int)<=Int.ofNat i/\Int.ofNat i<(↑n:Int)):=⟨decide_eq_true (by simp;omega),by simp,by simp;omega⟩
theorem ri_of {i:Nat} (hi:i<281474976710656):rg (Int.ofNat i+1):=⟨by simp<;>omega,by simp<;>omega⟩
theorem fR_li (i:Nat) (hn:n<=281474976710656) (hi:i<n) (hv:∀x,-1<=m.V x/\m.V x<=1099511627776) (hp:foB m B W i=true):LI Try.prog (loopAt Try.prog 32 0) 37 2 [(0,.p 0 0),(9,.sv 3 n (uF B W E)),(10,.i .i64 (Int.ofNat n)),(11,.i .i64 (Int.ofNat i))] [some (kO bb 1 (.sv 1 NN FF)),some (m.o bb)] .nrm [(0,.p 0 0),(9,.sv 3 n (uF B W E)),(10,.i .i64 (Int.ofNat n)),(11,.i .i64 (Int.ofNat i+1))] [some (kO bb 1 (.sv 1 NN FF)),some (m.o bb)]:=by
 obtain ⟨h1,bi⟩:=bi_of hi
 have ri:=ri_of (i:=i) (by omega)
 have hv':=hv (B i)
 have rv:rg (m.V (B i)+1):=⟨by omega,by omega⟩
 unfold foB at hp
 rw [Bool.and_eq_true] at hp
 obtain ⟨p1,p2⟩:=hp
 exact li_of (fR_lq n i B W E bb m.g m.V m.D m.Y m.U m.c NN FF h1 p1 p2) (by repeat' first | exact trivial | assumption | exact rfl | exact nT (by assumption) | exact nF (by assumption) | exact nnT (by assumption) | exact nnF (by assumption) | apply And.intro | decide)
theorem fX_li (i:Nat) (hn:n<=281474976710656) (hi:i<n) (hv:∀x,-1<=m.V x/\m.V x<=1099511627776) (hp:foB m B W i=false):LI Try.prog (loopAt Try.prog 32 0) 37 2 [(0,.p 0 0),(9,.sv 3 n (uF B W E)),(10,.i .i64 (Int.ofNat n)),(11,.i .i64 (Int.ofNat i))] [some (kO bb 1 (.sv 1 NN FF)),some (m.o bb)] .ret [(4,.b false)] [some (kO bb 1 (.sv 1 NN FF)),some (m.o bb)]:=by
 obtain ⟨h1,bi⟩:=bi_of hi
 have ri:=ri_of (i:=i) (by omega)
 have hv':=hv (B i)
 have rv:rg (m.V (B i)+1):=⟨by omega,by omega⟩
 unfold foB at hp
 cases p1:m.g (B i) with
 | false=>exact li_of (fX_lq n i B W E bb m.g m.V m.D m.Y m.U m.c NN FF h1 p1) (by repeat' first | exact trivial | assumption | exact rfl | exact nT (by assumption) | exact nF (by assumption) | exact nnT (by assumption) | exact nnF (by assumption) | apply And.intro | decide)
 | true=>
   rw [p1,Bool.true_and] at hp
   exact li_of (fY_lq n i B W E bb m.g m.V m.D m.Y m.U m.c NN FF h1 p1 hp) (by repeat' first | exact trivial | assumption | exact rfl | exact nT (by assumption) | exact nF (by assumption) | exact nnT (by assumption) | exact nnF (by assumption) | apply And.intro | decide)
theorem f_lp' (hn:n<=281474976710656) (hv:∀x,-1<=m.V x/\m.V x<=1099511627776) (h:alB (foB m B W) n=true):LDoes Try.prog (loopAt Try.prog 32 0) 37 2 (mkT [(0,.p 0 0),(9,.sv 3 n (uF B W E)),(10,.i .i64 (Int.ofNat n)),(11,.i .i64 0)]) [some (kO bb 1 (.sv 1 NN FF)),some (m.o bb)] (.exit 0) (mkT [(0,.p 0 0)]) [some (kO bb 1 (.sv 1 NN FF)),some (m.o bb)]:=by
 refine loop_q (fun i:Nat=>([(0,.p 0 0),(9,.sv 3 n (uF B W E)),(10,.i .i64 (Int.ofNat n)),(11,.i .i64 (Int.ofNat i))],[some (kO bb 1 (.sv 1 NN FF)),some (m.o bb)])) (fun i=>n-i) (fun i=>i<=n) (fun _=>Nat.le_refl _) ?_ 0 (Nat.zero_le _)
 intro i hi
 rcases Nat.lt_or_ge i n with hlt | q
 · exact ri_nrm (fR_li n B W E m bb NN FF i hn hlt hv (alB_t h i hlt)) (i+1) hlt (by show n-(i+1)<n-i;omega) rfl (.refl _) (.refl _)
 · obtain rfl:i=n:=Nat.le_antisymm hi q
   have h1:decide (Int.ofNat i<Int.ofNat i)=false:=decide_eq_false (by simp)
   exact rd_out (fE_lq i i B W E bb m.g m.V m.D m.Y m.U m.c NN FF h1) (by repeat' first | exact trivial | assumption | exact rfl | apply And.intro) rfl rfl (.refl _) (.refl _)
theorem fX_lp' (hn:n<=281474976710656) (hv:∀x,-1<=m.V x/\m.V x<=1099511627776) (h:alB (foB m B W) n=false):LDoes Try.prog (loopAt Try.prog 32 0) 37 2 (mkT [(0,.p 0 0),(9,.sv 3 n (uF B W E)),(10,.i .i64 (Int.ofNat n)),(11,.i .i64 0)]) [some (kO bb 1 (.sv 1 NN FF)),some (m.o bb)] .ret (mkT [(4,.b false)]) [some (kO bb 1 (.sv 1 NN FF)),some (m.o bb)]:=by
 obtain ⟨j,hj,hb,hg⟩:=alB_f h
 refine loop_q (fun i:Nat=>([(0,.p 0 0),(9,.sv 3 n (uF B W E)),(10,.i .i64 (Int.ofNat n)),(11,.i .i64 (Int.ofNat i))],[some (kO bb 1 (.sv 1 NN FF)),some (m.o bb)])) (fun i=>n-i) (fun i=>i<=j) (fun _=>Nat.le_refl _) ?_ 0 (Nat.zero_le _)
 intro i hi
 rcases Nat.lt_or_ge i j with q | q
 · exact ri_nrm (fR_li n B W E m bb NN FF i hn (by omega) hv (hg i q)) (i+1) q (by show n-(i+1)<n-i;omega) rfl (.refl _) (.refl _)
 · obtain rfl:i=j:=by omega
   exact ri_out (fX_li n B W E m bb NN FF i hn hj hv hb) rfl rfl (.refl _) (.refl _)
theorem c_lp (hn:n<=1000000) (hu:∀x,0<=m.U x/\m.U x<=1000000000):LDoes Try.prog (loopAt Try.prog 13 0) 58 2 (mkT [(0,.p 0 0),(1,.sv 3 n (uF B W E)),(24,.sv 3 n (uF B W E)),(25,.i .i64 (Int.ofNat n)),(26,.i .i64 0)]) [some (kO true 1 (.sv 1 NN FF)),some (m.o true)] (.exit 0) (mkT [(0,.p 0 0),(1,.sv 3 n (uF B W E))]) [some (kO true 1 (.sv 1 NN FF)),some ((cmS m B W E n).o true)]:=by
 refine loop_q (fun i:Nat=>([(0,.p 0 0),(1,.sv 3 n (uF B W E)),(24,.sv 3 n (uF B W E)),(25,.i .i64 (Int.ofNat n)),(26,.i .i64 (Int.ofNat i))],[some (kO true 1 (.sv 1 NN FF)),some ((cmS m B W E i).o true)])) (fun i=>n-i) (fun i=>i<=n) (fun _=>Nat.le_refl _) ?_ 0 (Nat.zero_le _)
 intro i hi
 rcases Nat.lt_or_ge i n with hlt | q
 · obtain ⟨h1,bi⟩:=bi_of hlt
   have ri:=ri_of (i:=i) (by omega)
   have hu':=cmS_U (B:=B) (W:=W) (E:=E) hu i (B i)
   have cg:=chg_con ((cmS m B W E i).V (B i)) ((cmS m B W E i).U (B i)) (B i) (W i) ((cmS m B W E i).D (B i)) (E i) ((cmS m B W E i).Y (B i)) ⟨hu'.1,by have:=hu'.2;omega⟩
   refine rd_nrm (cR_lq n i B W E true (cmS m B W E i).g (cmS m B W E i).V (cmS m B W E i).D (cmS m B W E i).Y (cmS m B W E i).U (cmS m B W E i).c NN FF h1) (by repeat' first | exact trivial | assumption | exact rfl | apply And.intro) (i+1) hlt (by show n-(i+1)<n-i;omega) rfl (.refl _) ?_
   rw [Ms.put_o]
   exact .refl _
 · obtain rfl:i=n:=Nat.le_antisymm hi q
   have h1:decide (Int.ofNat i<Int.ofNat i)=false:=decide_eq_false (by simp)
   exact rd_out (cE_lq i i B W E true (cmS m B W E i).g (cmS m B W E i).V (cmS m B W E i).D (cmS m B W E i).Y (cmS m B W E i).U (cmS m B W E i).c NN FF h1) (by repeat' first | exact trivial | assumption | exact rfl | apply And.intro) rfl rfl (.refl _) (.refl _)
theorem g_lp (hn:n<=1000000) (hu:∀x,0<=m.U x/\m.U x<=1000000000):LDoes Try.prog (loopAt Try.prog 14 0) 51 2 (mkT [(0,.p 0 0),(22,.sv 3 n (uF B W E)),(23,.i .i64 (Int.ofNat n)),(24,.i .i64 0)]) [some (kO true 1 (.sv 1 NN FF)),some (m.o true)] (.exit 0) (mkT [(0,.p 0 0)]) [some (kO true 1 (.sv 1 NN FF)),some ((lgS m B n).o true)]:=by
 refine loop_q (fun i:Nat=>([(0,.p 0 0),(22,.sv 3 n (uF B W E)),(23,.i .i64 (Int.ofNat n)),(24,.i .i64 (Int.ofNat i))],[some (kO true 1 (.sv 1 NN FF)),some ((lgS m B i).o true)])) (fun i=>n-i) (fun i=>i<=n) (fun _=>Nat.le_refl _) ?_ 0 (Nat.zero_le _)
 intro i hi
 rcases Nat.lt_or_ge i n with hlt | q
 · obtain ⟨h1,bi⟩:=bi_of hlt
   have ri:=ri_of (i:=i) (by omega)
   have hu':=lgS_U (B:=B) hu i (B i)
   have cg:=lgd_con ((lgS m B i).V (B i)) ((lgS m B i).U (B i)) ((lgS m B i).D (B i)) ((lgS m B i).Y (B i)) ⟨by have:=hu'.1;omega,by have:=hu'.2;omega⟩
   refine rd_nrm (gR_lq n i B W E true (lgS m B i).g (lgS m B i).V (lgS m B i).D (lgS m B i).Y (lgS m B i).U (lgS m B i).c NN FF h1) (by repeat' first | exact trivial | assumption | exact rfl | apply And.intro) (i+1) hlt (by show n-(i+1)<n-i;omega) rfl (.refl _) ?_
   rw [Ms.put_o]
   exact .refl _
 · obtain rfl:i=n:=Nat.le_antisymm hi q
   have h1:decide (Int.ofNat i<Int.ofNat i)=false:=decide_eq_false (by simp)
   exact rd_out (gE_lq i i B W E true (lgS m B i).g (lgS m B i).V (lgS m B i).D (lgS m B i).Y (lgS m B i).U (lgS m B i).c NN FF h1) (by repeat' first | exact trivial | assumption | exact rfl | apply And.intro) rfl rfl (.refl _) (.refl _)
end
set_option maxRecDepth 20000
set_option maxHeartbeats 4000000
theorem clnf0_fq (n:Nat) (B W:Nat->Int) (E:Nat->List Nat):VF Try.prog 27 [.sv 3 (n+1) (uF B W E)] [] (oc 2 Orc.z) ((.sv 3 (n+1) (uF B W E))) [] [1] [] ((3=3/\0
 +(n+1)<=n+1)/\True) 2 (fun Lf=>True/\(True/\True/\0+(n+1)<=140737488355328/\(3*(0+(n+1))+1536)*32<=562949953421312)/\Lf)
 :=by unfold VF;kernel_rfl
theorem clnf_con (n:Nat) (B W:Nat->Int) (E:Nat->List Nat) (hn:n<=5000000000):Con Try.prog 27 [.sv 3 (n+1) (uF B W E)] [] (.sv 3 (n+1) (uF B W E)) []:=by
 exact con_f (clnf0_fq (n:=n) (B:=B) (W:=W) (E:=E)) ⟨⟨rfl,by simp⟩,trivial⟩ (by repeat' first | exact trivial | assumption | exact rfl | exact nT (by assumption) | exact nF (by assumption) | exact nnT (by assumption) | exact nnF (by assumption) | omega | apply And.intro | decide)
theorem clnr0_vq (n:Nat) (B W:Nat->Int) (E:Nat->List Nat):VD Try.prog 27 [.sv 3 (n+1) (uF B W E)] [] (oc 2 Orc.z) (.lr 0 3 0 (n+1) false) [.set (.rows 53 3 (n +
 1) (uF B W E))] [1] 2 (fun Lf=>True/\(True/\True/\0+(n+1)<=140737488355328/\(3*(0+(n+1))+1536)*32<=562949953421312)/\Lf):=by unfold VD VQ;kernel_rfl
theorem clnr_con (n:Nat) (B W:Nat->Int) (E:Nat->List Nat) (hn:n<=5000000000):Con Try.prog 27 [.sv 3 (n+1) (uF B W E)] [] (.lr 0 3 0 (n+1) false) [.set (.rows 53 3 (n+1) (uF B W E))]:=by
 exact con_d (clnr0_vq (n:=n) (B:=B) (W:=W) (E:=E)) (by repeat' first | exact trivial | assumption | exact rfl | exact nT (by assumption) | exact nF (by assumption) | exact nnT (by assumption) | exact nnF (by assumption) | omega | apply And.intro | decide)
set_option maxRecDepth 20000
set_option maxHeartbeats 4000000
theorem foT0_vq (n:Nat) (B W:Nat->Int) (E:Nat->List Nat) (bb:Bool) (gg:Int->Bool) (VV:Int->Int) (DD:Int->List Nat) (YY:Int->Bool) (UU:Int->Int) (cc :
 Nat) (NN:Nat) (FF:Nat->Nat->CV):VD Try.prog 32 [.p 0 0,.sv 3 n (uF B W E)] [some (kO bb 1 (.sv 1 NN FF)),some (kM bb gg VV DD YY UU cc)] (Orc.lop [0,1] [0,9,10,
 11] 2 (XO.exit 0) [(0,.p 0 0)] [some (kO bb 1 (.sv 1 NN FF)),some (kM bb gg VV DD YY UU cc)] Orc.z) (.b true) [.keep,.keep] [] 2 (fun Lf=>LDoes Try.prog (loopAt Try.prog
 32 0) 37 2 (mkT [(0,.p 0 0),(9,.sv 3 n (uF B W E)),(10,.i .i64 (Int.ofNat n)),(11,.i .i64 0)]) [some (kO bb 1 (.sv 1 NN FF)),some (kM bb gg VV DD YY UU cc)] (XO.exit
 0) (mkT [(0,.p 0 0)]) [some (kO bb 1 (.sv 1 NN FF)),some (kM bb gg VV DD YY UU cc)]/\Lf):=by unfold VD VQ;kernel_rfl
theorem foT_con (n:Nat) (B W:Nat->Int) (E:Nat->List Nat) (bb:Bool) (gg:Int->Bool) (VV:Int->Int) (DD:Int->List Nat) (YY:Int->Bool) (UU:Int->Int) (cc:Nat) (NN:Nat) (FF:Nat->Nat->CV) (kfl:LDoes Try.prog (loopAt Try.prog 32 0) 37 2 (mkT [(0,.p 0 0),(9,.sv 3 n (uF B W E)),(10,.i .i64 (Int.ofNat n)),(11,.i .i64 0)]) [some (kO bb 1 (.sv 1 NN FF)),some (kM bb gg VV DD YY UU cc)] (.exit 0) (mkT [(0,.p 0 0)]) [some (kO bb 1 (.sv 1 NN FF)),some (kM bb gg VV DD YY UU cc)]):Con Try.prog 32 [.p 0 0,.sv 3 n (uF B W E)] [some (kO bb 1 (.sv 1 NN FF)),some (kM bb gg VV DD YY UU cc)] (.b true) [.keep,.keep]:=by
 exact con_d (foT0_vq (n:=n) (B:=B) (W:=W) (E:=E) (bb:=bb) (gg:=gg) (VV:=VV) (DD:=DD) (YY:=YY) (UU:=UU) (cc:=cc) (NN:=NN) (FF:=FF)) (by repeat' first | exact trivial | assumption | exact rfl | exact nT (by assumption) | exact nF (by assumption) | exact nnT (by assumption) | exact nnF (by assumption) | assumption | apply And.intro | decide)
theorem foF0_vq (n:Nat) (B W:Nat->Int) (E:Nat->List Nat) (bb:Bool) (gg:Int->Bool) (VV:Int->Int) (DD:Int->List Nat) (YY:Int->Bool) (UU:Int->Int) (cc :
 Nat) (NN:Nat) (FF:Nat->Nat->CV):VD Try.prog 32 [.p 0 0,.sv 3 n (uF B W E)] [some (kO bb 1 (.sv 1 NN FF)),some (kM bb gg VV DD YY UU cc)] (Orc.lop [0,1] [0,9,10,
 11] 2 XO.ret [(4,.b false)] [some (kO bb 1 (.sv 1 NN FF)),some (kM bb gg VV DD YY UU cc)] Orc.z) (.b false) [.keep,.keep] [] 2 (fun Lf=>LDoes Try.prog (loopAt Try.prog
 32 0) 37 2 (mkT [(0,.p 0 0),(9,.sv 3 n (uF B W E)),(10,.i .i64 (Int.ofNat n)),(11,.i .i64 0)]) [some (kO bb 1 (.sv 1 NN FF)),some (kM bb gg VV DD YY UU cc)] XO.ret
 (mkT [(4,.b false)]) [some (kO bb 1 (.sv 1 NN FF)),some (kM bb gg VV DD YY UU cc)]/\Lf):=by unfold VD VQ;kernel_rfl
theorem foF_con (n:Nat) (B W:Nat->Int) (E:Nat->List Nat) (bb:Bool) (gg:Int->Bool) (VV:Int->Int) (DD:Int->List Nat) (YY:Int->Bool) (UU:Int->Int) (cc:Nat) (NN:Nat) (FF:Nat->Nat->CV) (kfx:LDoes Try.prog (loopAt Try.prog 32 0) 37 2 (mkT [(0,.p 0 0),(9,.sv 3 n (uF B W E)),(10,.i .i64 (Int.ofNat n)),(11,.i .i64 0)]) [some (kO bb 1 (.sv 1 NN FF)),some (kM bb gg VV DD YY UU cc)] .ret (mkT [(4,.b false)]) [some (kO bb 1 (.sv 1 NN FF)),some (kM bb gg VV DD YY UU cc)]):Con Try.prog 32 [.p 0 0,.sv 3 n (uF B W E)] [some (kO bb 1 (.sv 1 NN FF)),some (kM bb gg VV DD YY UU cc)] (.b false) [.keep,.keep]:=by
 exact con_d (foF0_vq (n:=n) (B:=B) (W:=W) (E:=E) (bb:=bb) (gg:=gg) (VV:=VV) (DD:=DD) (YY:=YY) (UU:=UU) (cc:=cc) (NN:=NN) (FF:=FF)) (by repeat' first | exact trivial | assumption | exact rfl | exact nT (by assumption) | exact nF (by assumption) | exact nnT (by assumption) | exact nnF (by assumption) | assumption | apply And.intro | decide)
theorem cmA0_vq (wi:Int) (we:Int) (n:Nat) (B W:Nat->Int) (E:Nat->List Nat) (bb:Bool) (gg:Int->Bool) (VV:Int->Int) (DD:Int->List Nat) (YY:Int->Bool)
 (UU:Int->Int) (cc:Nat) (NN:Nat) (FF:Nat->Nat->CV) (q0:decide (we=0)=false):VD Try.prog 13 [.p 0 0,.sv 3 n (uF B W E)] [some (kO bb 1 (.sv 1 NN FF)),some
 (kM bb gg VV DD YY UU cc)] (Orc.c (Orc.cal [] (.tup [.i .i64 wi,.i .i64 we]) [] (Orc.t Orc.z))) (.i .i64 2) [.keep,.keep] [] 2 (fun Lf=>True/\Con Try.prog 31 [.sv 3 n
 (uF B W E)] [] (.tup [.i .i64 wi,.i .i64 we]) []/\(!decide (we=0))=true/\Lf):=by unfold VD VQ;kernel_rfl
theorem cmA_con (n:Nat) (B W:Nat->Int) (E:Nat->List Nat) (bb:Bool) (gg:Int->Bool) (VV:Int->Int) (DD:Int->List Nat) (YY:Int->Bool) (UU:Int->Int) (cc:Nat) (NN:Nat) (FF:Nat->Nat->CV) (wi we:Int) (fb:Bool) (q0:decide (we=0)=false) (kwd:Con Try.prog 31 [.sv 3 n (uF B W E)] [] (.tup [.i .i64 wi,.i .i64 we]) []):Con Try.prog 13 [.p 0 0,.sv 3 n (uF B W E)] [some (kO bb 1 (.sv 1 NN FF)),some (kM bb gg VV DD YY UU cc)] (.i .i64 2) [.keep,.keep]:=by
 exact con_d (cmA0_vq (wi:=wi) (we:=we) (n:=n) (B:=B) (W:=W) (E:=E) (bb:=bb) (gg:=gg) (VV:=VV) (DD:=DD) (YY:=YY) (UU:=UU) (cc:=cc) (NN:=NN) (FF:=FF) (q0:=q0)) (by repeat' first | exact trivial | assumption | exact rfl | exact nT (by assumption) | exact nF (by assumption) | exact nnT (by assumption) | exact nnF (by assumption) | assumption | apply And.intro | decide)
theorem cmB0_vq (wi:Int) (we:Int) (fb:Bool) (n:Nat) (B W:Nat->Int) (E:Nat->List Nat) (bb:Bool) (gg:Int->Bool) (VV:Int->Int) (DD:Int->List Nat) (YY :
 Int->Bool) (UU:Int->Int) (cc:Nat) (NN:Nat) (FF:Nat->Nat->CV) (q0:decide (we=0)=true) (q1:fb=false):VD Try.prog 13 [.p 0 0,.sv 3 n (uF B W E)] [some
 (kO bb 1 (.sv 1 NN FF)),some (kM bb gg VV DD YY UU cc)] (Orc.c (Orc.cal [] (.tup [.i .i64 wi,.i .i64 we]) [] (Orc.f (Orc.cal [0,1] (.b fb) [.keep,.keep] (Orc.t Orc.z)))))
 (.i .i64 25) [.keep,.keep] [] 2 (fun Lf=>True/\Con Try.prog 31 [.sv 3 n (uF B W E)] [] (.tup [.i .i64 wi,.i .i64 we]) []/\(!decide (we=0))=false/\Con Try.prog 32
 [.p 0 0,.sv 3 n (uF B W E)] [some (kO bb 1 (.sv 1 NN FF)),some (kM bb gg VV DD YY UU cc)] (.b fb) [.keep,.keep]/\True/\(!fb)=true/\Lf):=by unfold VD VQ;kernel_rfl
theorem cmB_con (n:Nat) (B W:Nat->Int) (E:Nat->List Nat) (bb:Bool) (gg:Int->Bool) (VV:Int->Int) (DD:Int->List Nat) (YY:Int->Bool) (UU:Int->Int) (cc:Nat) (NN:Nat) (FF:Nat->Nat->CV) (wi we:Int) (fb:Bool) (q0:decide (we=0)=true) (q1:fb=false) (kwd:Con Try.prog 31 [.sv 3 n (uF B W E)] [] (.tup [.i .i64 wi,.i .i64 we]) []) (kfo:Con Try.prog 32 [.p 0 0,.sv 3 n (uF B W E)] [some (kO bb 1 (.sv 1 NN FF)),some (kM bb gg VV DD YY UU cc)] (.b fb) [.keep,.keep]):Con Try.prog 13 [.p 0 0,.sv 3 n (uF B W E)] [some (kO bb 1 (.sv 1 NN FF)),some (kM bb gg VV DD YY UU cc)] (.i .i64 25) [.keep,.keep]:=by
 exact con_d (cmB0_vq (wi:=wi) (we:=we) (fb:=fb) (n:=n) (B:=B) (W:=W) (E:=E) (bb:=bb) (gg:=gg) (VV:=VV) (DD:=DD) (YY:=YY) (UU:=UU) (cc:=cc) (NN:=NN) (FF:=FF) (q0:=q0) (q1:=q1)) (by repeat' first | exact trivial | assumption | exact rfl | exact nT (by assumption) | exact nF (by assumption) | exact nnT (by assumption) | exact nnF (by assumption) | assumption | assumption | apply And.intro | decide)
theorem cmC0_vq (wi:Int) (we:Int) (fb:Bool) (gg2:Int->Bool) (VV2:Int->Int) (DD2:Int->List Nat) (YY2:Int->Bool) (UU2:Int->Int) (cc2:Nat) (n:Nat) (B W :
 Nat->Int) (E:Nat->List Nat) (bb:Bool) (gg:Int->Bool) (VV:Int->Int) (DD:Int->List Nat) (YY:Int->Bool) (UU:Int->Int) (cc:Nat) (NN:Nat) (FF:Nat->Nat
 ->CV) (q0:decide (we=0)=true) (q1:fb=true) (q2:decide (0<0+Int.ofNat NN+1-0)=true):VD Try.prog 13 [.p 0 0,.sv 3 (n+1) (uF B W E)] [some (kO bb 1
 (.sv 1 NN FF)),some (kM bb gg VV DD YY UU cc)] (Orc.c (Orc.cal [] (.tup [.i .i64 wi,.i .i64 we]) [] (Orc.f (Orc.cal [0,1] (.b fb) [.keep,.keep] (Orc.f (Orc.cal [0,1]
 (.tup []) [.set (kO true 2 (.sv 1 NN FF)),.keep,.set (kM true gg VV DD YY UU (cntI gg))] (Orc.lop [0,2] [0,1,24,25,26] 2 (XO.exit 0) [(0,.p 0 0),(1,.sv 3 (n+1)
 (uF B W E))] [some (kO true 1 (.sv 1 NN FF)),some (kM true gg2 VV2 DD2 YY2 UU2 cc2)] (Orc.cal [] (.sv 3 (n+1) (uF B W E)) [] (Orc.inl (Orc.inl (oc 3 (Orc.inl (oc 3
 (Orc.inl (Orc.c (Orc.inl (Orc.c (Orc.t (Orc.inl (oc 2 (Orc.inl (oc 2 (Orc.inl (Orc.c Orc.z)))))))))))))))))))))))) (.i .i64 0) [.set (kO true 2 (.lr 3 1 0 (addN NN 1)
 false)),.keep,.set (kM true gg2 VV2 DD2 YY2 UU2 cc2),.set (.rows 31 1 (addN NN 1) (appZ NN FF (listF 1 [.sv 3 (n+1) (uF B W E)] 1)))] [2,7] 8 (fun Lf=>True/\Con
 Try.prog 31 [.sv 3 (n+1) (uF B W E)] [] (.tup [.i .i64 wi,.i .i64 we]) []/\(!decide (we=0))=false/\Con Try.prog 32 [.p 0 0,.sv 3 (n+1) (uF B W E)] [some (kO bb 1
 (.sv 1 NN FF)),some (kM bb gg VV DD YY UU cc)] (.b fb) [.keep,.keep]/\True/\(!fb)=false/\Con Try.prog 28 [.p 0 0] [some (kO bb 1 (.sv 1 NN FF)),some (kM bb gg VV DD
 YY UU cc)] (.tup []) [.set (kO true 2 (.sv 1 NN FF)),.keep,.set (kM true gg VV DD YY UU (cntI gg))]/\LDoes Try.prog (loopAt Try.prog 13 0) 58 2 (mkT [(0,.p 0 0),(1,.sv
 3 (n+1) (uF B W E)),(24,.sv 3 (n+1) (uF B W E)),(25,.i .i64 (Int.ofNat (n+1))),(26,.i .i64 0)]) [some (kO true 1 (.sv 1 NN FF)),some (kM true gg VV DD YY UU
 (cntI gg))] (XO.exit 0) (mkT [(0,.p 0 0),(1,.sv 3 (n+1) (uF B W E))]) [some (kO true 1 (.sv 1 NN FF)),some (kM true gg2 VV2 DD2 YY2 UU2 cc2)]/\True/\Con Try.prog 27
 [.sv 3 (n+1) (uF B W E)] [] (.sv 3 (n+1) (uF B W E)) []/\rg (0+Int.ofNat NN)/\rg (1)/\rg (0+Int.ofNat NN+1)/\rg (2)/\rg (0)/\rg (0+Int.ofNat NN+(1:Int)
 - (0:Int))/\decide ((0:Int)<(0:Int)+Int.ofNat NN+(1:Int)-(0:Int))=true/\(True/\(0:Int)<=(0:Int)+Int.ofNat NN+(1:Int)-(0:Int)/\0 +
 Int.toNat (0+Int.ofNat NN+(1:Int)-(0:Int))<=140737488355328/\(3*(0+Int.toNat (0+Int.ofNat NN+(1:Int)-(0:Int)))+1536)*24<=562949953421312)/\
 (True/\(0:Int)<=(0:Int)/\0<=0/\0<=Int.toNat (0+Int.ofNat NN+(1:Int)-(0:Int))/\(0=0\/0<Int.toNat (0+Int.ofNat NN+(1:Int)-(0:Int))))/\(0<=
 Int.toNat (0+Int.ofNat NN+(1:Int)-(0:Int))/\True/\0+NN<=140737488355328/\(3*(0+NN)+1536)*24<=562949953421312)/\rg (1)/\(0+NN<=NN/\True/\NN+1
 <=140737488355328/\(3*(NN+1)+1536)*24<=562949953421312)/\rg (2)/\True/\Lf):=by unfold VD VQ;kernel_rfl
theorem cmC_con (n:Nat) (B W:Nat->Int) (E:Nat->List Nat) (bb:Bool) (gg:Int->Bool) (VV:Int->Int) (DD:Int->List Nat) (YY:Int->Bool) (UU:Int->Int) (cc:Nat) (NN:Nat) (FF:Nat->Nat->CV) (wi we:Int) (fb:Bool) (gg2:Int->Bool) (VV2:Int->Int) (DD2:Int->List Nat) (YY2:Int->Bool) (UU2:Int->Int) (cc2:Nat) (hNN:NN<=1000000000) (q0:decide (we=0)=true) (q1:fb=true) (q2:decide (0<0+Int.ofNat NN+1-0)=true) (kwd:Con Try.prog 31 [.sv 3 (n+1) (uF B W E)] [] (.tup [.i .i64 wi,.i .i64 we]) []) (kfo:Con Try.prog 32 [.p 0 0,.sv 3 (n+1) (uF B W E)] [some (kO bb 1 (.sv 1 NN FF)),some (kM bb gg VV DD YY UU cc)] (.b fb) [.keep,.keep]) (kcl1:LDoes Try.prog (loopAt Try.prog 13 0) 58 2 (mkT [(0,.p 0 0),(1,.sv 3 (n+1) (uF B W E)),(24,.sv 3 (n+1) (uF B W E)),(25,.i .i64 (Int.ofNat (n+1))),(26,.i .i64 0)]) [some (kO true 1 (.sv 1 NN FF)),some (kM true gg VV DD YY UU (cntI gg))] (.exit 0) (mkT [(0,.p 0 0),(1,.sv 3 (n+1) (uF B W E))]) [some (kO true 1 (.sv 1 NN FF)),some (kM true gg2 VV2 DD2 YY2 UU2 cc2)]) (kclf:Con Try.prog 27 [.sv 3 (n+1) (uF B W E)] [] (.sv 3 (n+1) (uF B W E)) []):Con Try.prog 13 [.p 0 0,.sv 3 (n+1) (uF B W E)] [some (kO bb 1 (.sv 1 NN FF)),some (kM bb gg VV DD YY UU cc)] (.i .i64 0) [.set (kO true 2 (.lr 3 1 0 (addN NN 1) false)),.keep,.set (kM true gg2 VV2 DD2 YY2 UU2 cc2),.set (.rows 31 1 (addN NN 1) (appZ NN FF (listF 1 [.sv 3 (n+1) (uF B W E)] 1)))]:=by
 exact con_d (cmC0_vq (wi:=wi) (we:=we) (fb:=fb) (gg2:=gg2) (VV2:=VV2) (DD2:=DD2) (YY2:=YY2) (UU2:=UU2) (cc2:=cc2) (n:=n) (B:=B) (W:=W) (E:=E) (bb:=bb) (gg:=gg) (VV:=VV) (DD:=DD) (YY:=YY) (UU:=UU) (cc:=cc) (NN:=NN) (FF:=FF) (q0:=q0) (q1:=q1) (q2:=q2)) (by repeat' first | exact trivial | assumption | exact rfl | exact nT (by assumption) | exact nF (by assumption) | exact nnT (by assumption) | exact nnF (by assumption) | assumption | assumption | exact part_con _ _ _ _ _ _ _ _ _ | assumption | assumption | exact part_con _ _ _ _ _ _ _ _ _ | omega | (simp;omega) | apply And.intro | decide)
set_option maxRecDepth 20000
set_option maxHeartbeats 4000000
theorem fiF0_vq (bb:Bool) (gg:Int->Bool) (VV:Int->Int) (DD:Int->List Nat) (YY:Int->Bool) (UU:Int->Int) (cc:Nat) (NN:Nat) (rn:Nat->Nat) (rB rV:Nat->
 Nat->Int) (rD:Nat->Nat->List Nat):VD Try.prog 9 [.p 0 0] [some (kO bb 1 (.sv 1 (NN+1) (rcF rn rB rV rD))),some (kM bb gg VV DD YY UU cc)] (oc 8 (Orc.cal [] (.sv 3
 (rn 0+1) (uF (rB (Int.toNat 0)) (rV (Int.toNat 0)) (rD (Int.toNat 0)))) [] Orc.z)) (.tup [.sv 3 (rn 0+1) (uF (rB (Int.toNat 0)) (rV (Int.toNat 0)) (rD (Int.toNat 0))),.b
 true]) [.keep,.keep] [] 2 (fun Lf=>True/\True/\True/\((0:Int)<=(0:Int)/\(0:Int)<↑(NN+1))/\True/\Con Try.prog 27 [.sv 3 (rn 0+1) (uF (rB (Int.toNat 0))
 (rV (Int.toNat 0)) (rD (Int.toNat 0)))] [] (.sv 3 (rn 0+1) (uF (rB (Int.toNat 0)) (rV (Int.toNat 0)) (rD (Int.toNat 0)))) []/\Lf):=by unfold VD VQ;kernel_rfl
theorem fiF_con (bb:Bool) (gg:Int->Bool) (VV:Int->Int) (DD:Int->List Nat) (YY:Int->Bool) (UU:Int->Int) (cc:Nat) (NN:Nat) (rn:Nat->Nat) (rB rV:Nat->Nat->Int) (rD:Nat->Nat->List Nat) (hn:rn 0<=1000000000) (hNN:NN<=1000000000):Con Try.prog 9 [.p 0 0] [some (kO bb 1 (.sv 1 (NN+1) (rcF rn rB rV rD))),some (kM bb gg VV DD YY UU cc)] (.tup [.sv 3 (rn 0+1) (uF (rB 0) (rV 0) (rD 0)),.b true]) [.keep,.keep]:=by
 exact con_d (fiF0_vq (bb:=bb) (gg:=gg) (VV:=VV) (DD:=DD) (YY:=YY) (UU:=UU) (cc:=cc) (NN:=NN) (rn:=rn) (rB:=rB) (rV:=rV) (rD:=rD)) (by repeat' first | exact trivial | assumption | exact rfl | exact nT (by assumption) | exact nF (by assumption) | exact nnT (by assumption) | exact nnF (by assumption) | exact clnf_con _ _ _ _ (by omega) | omega | (simp;omega) | apply And.intro | decide)
theorem fiR0_vq (bb:Bool) (gg:Int->Bool) (VV:Int->Int) (DD:Int->List Nat) (YY:Int->Bool) (UU:Int->Int) (cc:Nat) (NN:Nat) (rn:Nat->Nat) (rB rV:Nat->
 Nat->Int) (rD:Nat->Nat->List Nat):VD Try.prog 9 [.p 0 0] [some (kO bb 1 (.sv 1 (NN+1) (rcF rn rB rV rD))),some (kM bb gg VV DD YY UU cc)] (oc 8 (Orc.cal [] (.lr 0 3
 0 (rn 0+1) false) [.set (AObj.rows 53 3 (rn 0+1) (uF (rB (Int.toNat 0)) (rV (Int.toNat 0)) (rD (Int.toNat 0))))] Orc.z)) (.tup [.lr 2 3 0 (rn 0+1) false,.b true])
 [.keep,.keep,.set (.rows 53 3 (rn 0+1) (uF (rB 0) (rV 0) (rD 0)))] [2] 3 (fun Lf=>True/\True/\True/\((0:Int)<=(0:Int)/\(0:Int)<↑(NN+1))/\True/\Con
 Try.prog 27 [.sv 3 (rn 0+1) (uF (rB (Int.toNat 0)) (rV (Int.toNat 0)) (rD (Int.toNat 0)))] [] (.lr 0 3 0 (rn 0+1) false) [.set (AObj.rows 53 3 (rn 0+1) (uF (rB
 (Int.toNat 0)) (rV (Int.toNat 0)) (rD (Int.toNat 0))))]/\Lf):=by unfold VD VQ;kernel_rfl
theorem fiR_con (bb:Bool) (gg:Int->Bool) (VV:Int->Int) (DD:Int->List Nat) (YY:Int->Bool) (UU:Int->Int) (cc:Nat) (NN:Nat) (rn:Nat->Nat) (rB rV:Nat->Nat->Int) (rD:Nat->Nat->List Nat) (hn:rn 0<=1000000000) (hNN:NN<=1000000000):Con Try.prog 9 [.p 0 0] [some (kO bb 1 (.sv 1 (NN+1) (rcF rn rB rV rD))),some (kM bb gg VV DD YY UU cc)] (.tup [.lr 2 3 0 (rn 0+1) false,.b true]) [.keep,.keep,.set (.rows 53 3 (rn 0+1) (uF (rB 0) (rV 0) (rD 0)))]:=by
 exact con_d (fiR0_vq (bb:=bb) (gg:=gg) (VV:=VV) (DD:=DD) (YY:=YY) (UU:=UU) (cc:=cc) (NN:=NN) (rn:=rn) (rB:=rB) (rV:=rV) (rD:=rD)) (by repeat' first | exact trivial | assumption | exact rfl | exact nT (by assumption) | exact nF (by assumption) | exact nnT (by assumption) | exact nnF (by assumption) | exact clnr_con _ _ _ _ (by omega) | omega | (simp;omega) | apply And.intro | decide)
theorem lgZ0_vq (bb:Bool) (gg:Int->Bool) (VV:Int->Int) (DD:Int->List Nat) (YY:Int->Bool) (UU:Int->Int) (cc:Nat) (FF:Nat->Nat->CV):VD Try.prog 14 [.p 0
 0] [some (kO bb 1 (.sv 1 0 FF)),some (kM bb gg VV DD YY UU cc)] (oc 8 Orc.z) (.b false) [.keep,.keep] [] 2 (fun Lf=>True/\True/\Lf):=by unfold VD VQ;kernel_rfl
theorem lgZ_con (bb:Bool) (gg:Int->Bool) (VV:Int->Int) (DD:Int->List Nat) (YY:Int->Bool) (UU:Int->Int) (cc:Nat) (FF:Nat->Nat->CV):Con Try.prog 14 [.p 0 0] [some (kO bb 1 (.sv 1 0 FF)),some (kM bb gg VV DD YY UU cc)] (.b false) [.keep,.keep]:=by
 exact con_d (lgZ0_vq (bb:=bb) (gg:=gg) (VV:=VV) (DD:=DD) (YY:=YY) (UU:=UU) (cc:=cc) (FF:=FF)) (by repeat' first | exact trivial | assumption | exact rfl | exact nT (by assumption) | exact nF (by assumption) | exact nnT (by assumption) | exact nnF (by assumption) | apply And.intro | decide)
theorem lgT0_vq (gg2:Int->Bool) (VV2:Int->Int) (DD2:Int->List Nat) (YY2:Int->Bool) (UU2:Int->Int) (cc2:Nat) (bb:Bool) (gg:Int->Bool) (VV:Int->Int) (DD
 :Int->List Nat) (YY:Int->Bool) (UU:Int->Int) (cc:Nat) (NN:Nat) (rn:Nat->Nat) (rB rV:Nat->Nat->Int) (rD:Nat->Nat->List Nat):VD Try.prog 14 [.p 0 0]
 [some (kO bb 1 (.sv 1 (NN+1) (rcF rn rB rV rD))),some (kM bb gg VV DD YY UU cc)] (oc 8 (Orc.cal [0,1] (.tup []) [.set (kO true 2 (.sv 1 (NN+1) (rcF rn rB rV rD))),
 .keep,.set (kM true gg VV DD YY UU (cntI gg))] (Orc.lop [0,2] [0,22,23,24] 2 (XO.exit 0) [(0,.p 0 0)] [some (kO true 1 (.sv 1 (NN+1) (rcF rn rB rV rD))),some (kM
 true gg2 VV2 DD2 YY2 UU2 cc2)] Orc.z))) (.b true) [.set (kO true 2 (.sv 1 NN (shiftF 1 (rcF rn rB rV rD)))),.keep,.set (kM true gg2 VV2 DD2 YY2 UU2 cc2)] [2] 3 (fun Lf=>
 True/\True/\Con Try.prog 28 [.p 0 0] [some (kO bb 1 (.sv 1 (NN+1) (rcF rn rB rV rD))),some (kM bb gg VV DD YY UU cc)] (.tup []) [.set (kO true 2 (.sv 1 (NN+1) (rcF rn
 rB rV rD))),.keep,.set (kM true gg VV DD YY UU (cntI gg))]/\True/\((0:Int)<=(0:Int)/\(0:Int)<↑(NN+1))/\True/\LDoes Try.prog (loopAt Try.prog 14 0) 51 2 (mkT
 [(0,.p 0 0),(22,.sv 3 (rn 0+1) (uF (rB 0) (rV 0) (rD 0))),(23,.i .i64 (Int.ofNat (rn 0+1))),(24,.i .i64 0)]) [some (kO true 1 (.sv 1 (NN+1) (rcF rn rB rV rD))),
 some (kM true gg VV DD YY UU (cntI gg))] (XO.exit 0) (mkT [(0,.p 0 0)]) [some (kO true 1 (.sv 1 (NN+1) (rcF rn rB rV rD))),some (kM true gg2 VV2 DD2 YY2 UU2 cc2)]/\True
 /\((0:Int)<=(1:Int)/\True/\1<=NN+1/\NN+1<=NN+1)/\True/\Lf):=by unfold VD VQ;kernel_rfl
theorem lgT_con (bb:Bool) (gg:Int->Bool) (VV:Int->Int) (DD:Int->List Nat) (YY:Int->Bool) (UU:Int->Int) (cc:Nat) (NN:Nat) (rn:Nat->Nat) (rB rV:Nat->Nat->Int) (rD:Nat->Nat->List Nat) (gg2:Int->Bool) (VV2:Int->Int) (DD2:Int->List Nat) (YY2:Int->Bool) (UU2:Int->Int) (cc2:Nat) (hNN:NN<=1000000000) (kgl:LDoes Try.prog (loopAt Try.prog 14 0) 51 2 (mkT [(0,.p 0 0),(22,.sv 3 (rn 0+1) (uF (rB 0) (rV 0) (rD 0))),(23,.i .i64 (Int.ofNat (rn 0+1))),(24,.i .i64 0)]) [some (kO true 1 (.sv 1 (NN+1) (rcF rn rB rV rD))),some (kM true gg VV DD YY UU (cntI gg))] (.exit 0) (mkT [(0,.p 0 0)]) [some (kO true 1 (.sv 1 (NN+1) (rcF rn rB rV rD))),some (kM true gg2 VV2 DD2 YY2 UU2 cc2)]):Con Try.prog 14 [.p 0 0] [some (kO bb 1 (.sv 1 (NN+1) (rcF rn rB rV rD))),some (kM bb gg VV DD YY UU cc)] (.b true) [.set (kO true 2 (.sv 1 NN (shiftF 1 (rcF rn rB rV rD)))),.keep,.set (kM true gg2 VV2 DD2 YY2 UU2 cc2)]:=by
 exact con_d (lgT0_vq (gg2:=gg2) (VV2:=VV2) (DD2:=DD2) (YY2:=YY2) (UU2:=UU2) (cc2:=cc2) (bb:=bb) (gg:=gg) (VV:=VV) (DD:=DD) (YY:=YY) (UU:=UU) (cc:=cc) (NN:=NN) (rn:=rn) (rB:=rB) (rV:=rV) (rD:=rD)) (by repeat' first | exact trivial | assumption | exact rfl | exact nT (by assumption) | exact nF (by assumption) | exact nnT (by assumption) | exact nnF (by assumption) | exact part_con _ _ _ _ _ _ _ _ _ | assumption | exact part_con _ _ _ _ _ _ _ _ _ | omega | (simp;omega) | apply And.intro | decide)
theorem reR0_vq (mm:Nat) (B2:Nat->Int) (W2:Nat->Int) (E2:Nat->List Nat) (bb:Bool) (gg:Int->Bool) (VV:Int->Int) (DD:Int->List Nat) (YY:Int->Bool) (UU :
 Int->Int) (cc:Nat) (NN:Nat) (FF:Nat->Nat->CV):VD Try.prog 15 [.p 0 0] [some (kO bb 1 (.sv 1 NN FF)),some (kM bb gg VV DD YY UU cc)] (Orc.c (Orc.lop [0,1] [0,3,
 8] 2 (XO.exit 0) [(3,.lr 2 3 0 mm false)] [some (kO bb 1 (.sv 1 NN FF)),some (kM bb gg VV DD YY UU cc),some (AObj.rows 53 3 mm (uF B2 W2 E2))] Orc.z)) (.lr 2 3 0 mm false)
 [.keep,.keep,.set (.rows 53 3 mm (uF B2 W2 E2))] [2] 3 (fun Lf=>True/\LDoes Try.prog (loopAt Try.prog 15 0) 32 2 (mkT [(0,.p 0 0),(3,.l0),(8,.i .i64 0)]) [some (kO
 bb 1 (.sv 1 NN FF)),some (kM bb gg VV DD YY UU cc)] (XO.exit 0) (mkT [(3,.lr 2 3 0 mm false)]) [some (kO bb 1 (.sv 1 NN FF)),some (kM bb gg VV DD YY UU cc),some
 (AObj.rows 53 3 mm (uF B2 W2 E2))]/\Lf):=by unfold VD VQ;kernel_rfl
theorem reR_con (bb:Bool) (gg:Int->Bool) (VV:Int->Int) (DD:Int->List Nat) (YY:Int->Bool) (UU:Int->Int) (cc:Nat) (NN:Nat) (FF:Nat->Nat->CV) (mm:Nat) (B2 W2:Nat->Int) (E2:Nat->List Nat) (krl:LDoes Try.prog (loopAt Try.prog 15 0) 32 2 (mkT [(0,.p 0 0),(3,.l0),(8,.i .i64 0)]) [some (kO bb 1 (.sv 1 NN FF)),some (kM bb gg VV DD YY UU cc)] (.exit 0) (mkT [(3,.lr 2 3 0 mm false)]) [some (kO bb 1 (.sv 1 NN FF)),some (kM bb gg VV DD YY UU cc),some (.rows 53 3 mm (uF B2 W2 E2))]):Con Try.prog 15 [.p 0 0] [some (kO bb 1 (.sv 1 NN FF)),some (kM bb gg VV DD YY UU cc)] (.lr 2 3 0 mm false) [.keep,.keep,.set (.rows 53 3 mm (uF B2 W2 E2))]:=by
 exact con_d (reR0_vq (mm:=mm) (B2:=B2) (W2:=W2) (E2:=E2) (bb:=bb) (gg:=gg) (VV:=VV) (DD:=DD) (YY:=YY) (UU:=UU) (cc:=cc) (NN:=NN) (FF:=FF)) (by repeat' first | exact trivial | assumption | exact rfl | exact nT (by assumption) | exact nF (by assumption) | exact nnT (by assumption) | exact nnF (by assumption) | assumption | apply And.intro | decide)
set_option maxRecDepth 20000
set_option maxHeartbeats 4000000
structure Rc where
 n:Nat
 B:Nat->Int
 W:Nat->Int
 E:Nat->List Nat
def rc0:Rc:=⟨0,fun _=>0,fun _=>0,fun _=>[]⟩
noncomputable def rcL (l:List Rc):Nat->Nat->CV:=rcF (fun i=>(l.getD i rc0).n) (fun i=>(l.getD i rc0).B) (fun i=>(l.getD i rc0).W) (fun i=>(l.getD i rc0).E)
noncomputable def kS (b:Bool) (A:Nat) (l:List Rc):AObj:=kO b A (.sv 1 l.length (rcL l))
noncomputable def Rc.u (r:Rc):AV:=.sv 3 (r.n+1) (uF r.B r.W r.E)
noncomputable def Ms.re (m:Ms):Ms:=⟨m.g,m.V,m.D,m.Y,m.U,cntI m.g⟩
noncomputable def ldE (m:Ms) (b v:Int) (s:List Nat):Int:=bif hmB b then (bif blB v s then (bif m.Y b then 26 else 0) else 2) else 2
section
variable (bb:Bool) (m:Ms) (l:List Rc)
theorem isV_con (v:Int) (s:List Nat):Con Try.prog 30 [.agg [.i .i64 v,.s s]] [] (.b (blB v s)) []:=by
 have h:=isv_con v s _ _ (eb_con v s)
 have e:decide (ebE v s=0)=blB v s:=by unfold ebE;cases blB v s<;>rfl
 rw [e] at h;exact h
theorem load_no (b v:Int) (s:List Nat) (h:ldE m b v s≠0):Con Try.prog 12 [.p 0 0,.i .i64 b,.agg [.i .i64 v,.s s]] [some (kS bb 1 l),some (m.o bb)] (.i .i64 (ldE m b v s)) [.keep,.keep]:=by
 unfold ldE at h⊢
 cases h1:hmB b with
 | false=>exact ldA_con b v s bb m.g m.V m.D m.Y m.U m.c _ _ (hmB b) true h1 (home_con b)
 | true=>
   rw [h1] at h
   cases h2:blB v s with
   | false=>exact ldB_con b v s bb m.g m.V m.D m.Y m.U m.c _ _ (hmB b) (blB v s) h1 h2 (home_con b) (isV_con v s)
   | true=>
     rw [h2] at h
     cases h3:m.Y b with
     | true=>exact ldC_con b v s bb m.g m.V m.D m.Y m.U m.c _ _ (hmB b) (blB v s) h1 h2 h3 (home_con b) (isV_con v s)
     | false=>rw [h3] at h;exact absurd rfl h
theorem load_ok (b v:Int) (s:List Nat) (h:ldE m b v s=0):Con Try.prog 12 [.p 0 0,.i .i64 b,.agg [.i .i64 v,.s s]] [some (kS bb 1 l),some (m.o bb)] (.i .i64 0) [.set (kS true 2 l),.keep,.set ((m.re.put b v s false 0).o true)]:=by
 unfold ldE at h
 cases h1:hmB b with
 | false=>rw [h1] at h;simp at h
 | true=>
   rw [h1] at h
   cases h2:blB v s with
   | false=>rw [h2] at h;simp at h
   | true=>
     rw [h2] at h
     cases h3:m.Y b with
     | true=>rw [h3] at h;simp at h
     | false=>
       have k:=ldD_con b v s bb m.g m.V m.D m.Y m.U m.c l.length (rcL l) (hmB b) (blB v s) h1 h2 h3 (home_con b) (isV_con v s)
       rw [f4_set] at k
       exact k
def clB (m:Ms) (b v:Int):Bool:=(m.Y b && decide (m.U b=0)) && decide (m.V b=v)
theorem clean_no (b v:Int) (h:clB m b v=false):Con Try.prog 16 [.p 0 0,.i .i64 b,.i .i64 v] [some (kS bb 1 l),some (m.o bb)] (.b false) [.keep,.keep]:=by
 unfold clB at h
 have rd:=rdy_con (m.V b) (m.U b) (m.D b) (m.Y b)
 cases h1:m.Y b && decide (m.U b=0) with
 | false=>exact clA_con b v bb m.g m.V m.D m.Y m.U m.c _ _ _ h1 rd
 | true=>rw [h1,Bool.true_and] at h;exact clB_con b v bb m.g m.V m.D m.Y m.U m.c _ _ _ h1 h rd
theorem clean_ok (b v:Int) (h:clB m b v=true):Con Try.prog 16 [.p 0 0,.i .i64 b,.i .i64 v] [some (kS bb 1 l),some (m.o bb)] (.b true) [.set (kS true 2 l),.keep,.set ((m.re.put b (m.V b) (m.D b) false 0).o true)]:=by
 unfold clB at h
 rw [Bool.and_eq_true] at h
 have rd:=rdy_con (m.V b) (m.U b) (m.D b) (m.Y b)
 have k:=clC_con b v bb m.g m.V m.D m.Y m.U m.c l.length (rcL l) _ h.1 h.2 rd
 rw [f4_set] at k
 exact k
structure OkR (r:Rc):Prop where
 n:r.n<=100000
 byt:∀i,i<r.n+1->Byt (r.E i)
noncomputable def cmE (m:Ms) (n:Nat) (B W:Nat->Int) (E:Nat->List Nat):Int:=bif encB n B W E then (bif alB (foB m B W) n then 0 else 25) else 2
theorem width_we {n:Nat} {B W:Nat->Int} {E:Nat->List Nat} (hn:n<=281474976710656) (hb:∀i,i<n->Byt (E i)):Con Try.prog 31 [.sv 3 n (uF B W E)] [] (.tup [.i .i64 (wdN n B W E),.i .i64 (encE n B W E)]) []:=width_con hn hb
theorem follows_con (n:Nat) (B W:Nat->Int) (E:Nat->List Nat) (hn:n<=281474976710656) (hv:∀x,-1<=m.V x/\m.V x<=1099511627776):Con Try.prog 32 [.p 0 0,.sv 3 n (uF B W E)] [some (kS bb 1 l),some (m.o bb)] (.b (alB (foB m B W) n)) [.keep,.keep]:=by
 cases h:alB (foB m B W) n with
 | true=>exact foT_con n B W E bb m.g m.V m.D m.Y m.U m.c _ _ (f_lp' n B W E m bb _ _ hn hv h)
 | false=>exact foF_con n B W E bb m.g m.V m.D m.Y m.U m.c _ _ (fX_lp' n B W E m bb _ _ hn hv h)
theorem commit_no (n:Nat) (B W:Nat->Int) (E:Nat->List Nat) (hn:n<=281474976710656) (hb:∀i,i<n->Byt (E i)) (hv:∀x,-1<=m.V x/\m.V x<=1099511627776) (h:cmE m n B W E≠0) :
 Con Try.prog 13 [.p 0 0,.sv 3 n (uF B W E)] [some (kS bb 1 l),some (m.o bb)] (.i .i64 (cmE m n B W E)) [.keep,.keep]:=by
 unfold cmE at h⊢
 have wd:=width_we (B:=B) (W:=W) hn hb
 cases h1:encB n B W E with
 | false=>exact cmA_con n B W E bb m.g m.V m.D m.Y m.U m.c _ _ _ _ true (by unfold encE;rw [h1];rfl) wd
 | true=>
   rw [h1] at h
   have fo:=follows_con bb m l n B W E hn hv
   cases h2:alB (foB m B W) n with
   | false=>exact cmB_con n B W E bb m.g m.V m.D m.Y m.U m.c _ _ _ _ _ (by unfold encE;rw [h1];rfl) h2 wd fo
   | true=>rw [h2] at h;exact absurd rfl h
theorem zipCV_CW (c:Bool):∀(a b:CV),CW (zipCV c a b) (bif c then a else b):=by
 intro a
 induction a with
 | sv sz n f ih=>
   intro b
   cases b<;>try exact .refl _
   rename_i sz' n' f'
   simp only [zipCV]
   split
   · rename_i e
     have e':=Nat.eq_of_beq_eq_true e
     subst e'
     cases c with
     | true=>exact .sv fun i j _ _=>ih i j _
     | false=>exact .sv fun i j _ _=>ih i j _
   · exact .refl _
 | i k n=>
   intro b
   cases b<;>try exact .refl _
   rename_i k' n'
   simp only [zipCV]
   split
   · rename_i e
     simp at e;subst e
     cases c<;>exact .refl _
   · exact .refl _
 | opv b0 sz f ih=>
   intro b
   cases b with
   | opv b1 sz' f'=>
     simp only [zipCV]
     split
     · rename_i e
       have e':=Nat.eq_of_beq_eq_true e
       subst e'
       cases c with
       | true=>exact .opv fun _ j _=>ih j _
       | false=>exact .opv fun _ j _=>ih j _
     · exact .refl _
   | p0=>
     cases c with
     | true=>exact .refl _
     | false=>intro ro v h;cases h;exact .p0
   | _=>exact .refl _
 | b x=>intro b;cases b<;>cases c<;>exact .refl _
 | s x=>intro b;cases b<;>cases c<;>exact .refl _
 | p0=>intro b;cases b<;>cases c<;>exact .refl _
 | m0=>intro b;cases b<;>cases c<;>exact .refl _
 | f0=>intro b;cases b<;>cases c<;>exact .refl _
 | if0=>intro b;cases b<;>cases c<;>exact .refl _
 | ifc t x ih=>intro b;cases b<;>cases c<;>exact .refl _
theorem appZ_CW {n:Nat} {f g:Nat->Nat->CV} {i j:Nat} {c:CV} (h:(if i<n then f i j else g (i-n) j)=c):CW (appZ n f g i j) c:=by
 subst h
 cases n with
 | zero=>rw [if_neg (Nat.not_lt_zero i)];exact .refl _
 | succ k=>
   have q:=zipCV_CW (Nat.blt i (k+1)) (f i j) (g (i-(k+1)) j)
   by_cases h:i<k+1
   · rw [if_pos h]
     have e:Nat.blt i (k+1)=true:=by rw [Nat.blt_eq];exact h
     rw [e] at q
     show CW (zipCV (Nat.blt i (k+1)) (f i j) (g (i-(k+1)) j)) _
     rw [e];exact q
   · rw [if_neg h]
     have e:Nat.blt i (k+1)=false:=by
      cases hb:Nat.blt i (k+1) with
      | false=>rfl
      | true=>exact absurd (by rw [Nat.blt_eq] at hb;exact hb) h
     rw [e] at q
     show CW (zipCV (Nat.blt i (k+1)) (f i j) (g (i-(k+1)) j)) _
     rw [e];exact q
theorem rcL_app (l:List Rc) (r:Rc) (i:Nat) (hi:i<l.length+1):CW (shiftF 0 (appZ l.length (rcL l) (listF 1 [.sv 3 (r.n+1) (uF r.B r.W r.E)] 1)) i 0) (rcL (l ++ [r]) i 0):=by
 rw [shiftF_eq,Nat.zero_add]
 refine appZ_CW ?_
 unfold rcL rcF
 dsimp only
 by_cases h:i<l.length
 · rw [if_pos h]
   have:(l ++ [r]).getD i rc0=l.getD i rc0:=by rw [List.getD_eq_getElem?_getD,List.getD_eq_getElem?_getD,List.getElem?_append_left h]
   rw [this]
 · rw [if_neg h]
   obtain rfl:i=l.length:=by omega
   have:(l ++ [r]).getD l.length rc0=r:=by rw [List.getD_eq_getElem?_getD,List.getElem?_append_right (Nat.le_refl _)];simp
   rw [this,Nat.sub_self]
   rfl
theorem commit_ok (r:Rc) (hr:OkR r) (hv:∀x,-1<=m.V x/\m.V x<=1099511627776) (hu:∀x,0<=m.U x/\m.U x<=1000000000) (hl:l.length<=1000000000) (h:cmE m (r.n+1) r.B r.W r.E=0) :
 Con Try.prog 13 [.p 0 0,r.u] [some (kS bb 1 l),some (m.o bb)] (.i .i64 0) [.set (kS true 2 (l ++ [r])),.keep,.set ((cmS m.re r.B r.W r.E (r.n+1)).o true),.gone]:=by
 unfold cmE at h
 have hn:=hr.n
 have wd:=width_we (n:=r.n+1) (B:=r.B) (W:=r.W) (E:=r.E) (by omega) hr.byt
 cases h1:encB (r.n+1) r.B r.W r.E with
 | false=>rw [h1] at h;simp at h
 | true=>
   rw [h1] at h
   have fo:=follows_con bb m l (r.n+1) r.B r.W r.E (by omega) hv
   cases h2:alB (foB m r.B r.W) (r.n+1) with
   | false=>rw [h2] at h;simp at h
   | true=>
     have h5:decide (0<0+Int.ofNat l.length+1-0)=true:=decide_eq_true (by have:(0:Int)<=Int.ofNat l.length:=Int.natCast_nonneg _;omega)
     have h6:decide (encE (r.n+1) r.B r.W r.E=0)=true:=by unfold encE;rw [h1];rfl
     have k:=cmC_con r.n r.B r.W r.E bb m.g m.V m.D m.Y m.U m.c l.length (rcL l) _ _ _ (cmS m.re r.B r.W r.E (r.n+1)).g (cmS m.re r.B r.W r.E (r.n+1)).V (cmS m.re r.B r.W r.E (r.n+1)).D (cmS m.re r.B r.W r.E (r.n+1)).Y (cmS m.re r.B r.W r.E (r.n+1)).U (cmS m.re r.B r.W r.E (r.n+1)).c hl h6 h2 h5 wd fo (c_lp (r.n+1) r.B r.W r.E m.re l.length (rcL l) (by omega) hu) (clnf_con r.n r.B r.W r.E (by omega))
     refine (k.freeze (us':=[.set (kO true 2 (.sv 1 (addN l.length 1) (shiftF 0 (appZ l.length (rcL l) (listF 1 [.sv 3 (r.n+1) (uF r.B r.W r.E)] 1))))),.keep,.set ((cmS m.re r.B r.W r.E (r.n+1)).o true),.gone]) (v':=.i .i64 0) 3 rfl ⟨?_,.refl _,.refl _,rfl,trivial⟩ (.inl rfl)).post (.refl _) ⟨?_,.refl _,.refl _,.refl _,trivial⟩
     · exact FO.cells ⟨.inl rfl,.inr ⟨by kernel_rfl,(show 1=1/\0+addN l.length 1<=addN l.length 1 from ⟨rfl,by omega⟩),rfl⟩,trivial⟩
     · refine OV.cells ⟨.refl _,?_,trivial⟩
       rw [addN_eq,show (l ++ [r]).length=l.length+1 by simp]
       refine .svW fun i j hi hj=>?_
       obtain rfl:j=0:=by omega
       exact rcL_app l r i hi
theorem first_ok (r:Rc) (t:List Rc) (hr:r.n<=1000000000) (ht:t.length<=1000000000):Con Try.prog 9 [.p 0 0] [some (kS bb 1 (r :: t)),some (m.o bb)] (.tup [r.u,.b true]) [.keep,.keep]:=
 fiF_con bb m.g m.V m.D m.Y m.U m.c t.length (fun i=>((r :: t).getD i rc0).n) (fun i=>((r :: t).getD i rc0).B) (fun i=>((r :: t).getD i rc0).W) (fun i=>((r :: t).getD i rc0).E) hr ht
theorem first_rows (r:Rc) (t:List Rc) (hr:r.n<=1000000000) (ht:t.length<=1000000000):Con Try.prog 9 [.p 0 0] [some (kS bb 1 (r :: t)),some (m.o bb)] (.tup [.lr 2 3 0 (r.n+1) false,.b true]) [.keep,.keep,.set (.rows 53 3 (r.n+1) (uF r.B r.W r.E))]:=
 fiR_con bb m.g m.V m.D m.Y m.U m.c t.length (fun i=>((r :: t).getD i rc0).n) (fun i=>((r :: t).getD i rc0).B) (fun i=>((r :: t).getD i rc0).W) (fun i=>((r :: t).getD i rc0).E) hr ht
theorem logged_no:Con Try.prog 14 [.p 0 0] [some (kS bb 1 []),some (m.o bb)] (.b false) [.keep,.keep]:=lgZ_con bb m.g m.V m.D m.Y m.U m.c _
theorem logged_ok (r:Rc) (t:List Rc) (hr:r.n<=100000) (ht:t.length<=1000000000) (hu:∀x,0<=m.U x/\m.U x<=1000000000):Con Try.prog 14 [.p 0 0] [some (kS bb 1 (r :: t)),some (m.o bb)] (.b true) [.set (kS true 2 t),.keep,.set ((lgS m.re r.B (r.n+1)).o true)]:=by
 have k:=lgT_con bb m.g m.V m.D m.Y m.U m.c t.length (fun i=>((r :: t).getD i rc0).n) (fun i=>((r :: t).getD i rc0).B) (fun i=>((r :: t).getD i rc0).W) (fun i=>((r :: t).getD i rc0).E)
  (lgS m.re r.B (r.n+1)).g (lgS m.re r.B (r.n+1)).V (lgS m.re r.B (r.n+1)).D (lgS m.re r.B (r.n+1)).Y (lgS m.re r.B (r.n+1)).U (lgS m.re r.B (r.n+1)).c ht (g_lp (r.n+1) r.B r.W r.E m.re (t.length+1) _ (by omega) hu)
 refine k.post (.refl _) ⟨OV.cells ⟨.refl _,.svW fun i j hi hj=>.of ?_,trivial⟩,.refl _,.refl _,trivial⟩
 rw [shiftF_eq,Nat.add_comm];rfl
end
set_option maxRecDepth 20000
set_option maxHeartbeats 4000000
def rdP (m:Ms) (b:Nat):Bool:=m.Y (Int.ofNat b) && decide (m.U (Int.ofNat b)=0)
def rdl (m:Ms) (k:Nat):List Nat:=(List.range k).filter (rdP m)
theorem rdl_succ (m:Ms) (k:Nat):rdl m (k+1)=if rdP m k then rdl m k ++ [k] else rdl m k:=by
 unfold rdl
 rw [List.range_succ,List.filter_append]
 cases h:rdP m k with
 | true=>simp [h]
 | false=>simp [h]
noncomputable def rdF (m:Ms) (L:List Nat):Nat->Nat->CV:=uF (fun i=>Int.ofNat (L.getD i 0)) (fun i=>m.V (Int.ofNat (L.getD i 0))) (fun i=>m.D (Int.ofNat (L.getD i 0)))
theorem rdl_len (m:Ms):∀k,(rdl m k).length<=k
 | 0=>Nat.le_refl _
 | k+1=>by
   rw [rdl_succ]
   have:=rdl_len m k
   split
   · simp;exact this
   · omega
theorem getD_app0 {L:List Nat} {k i:Nat} (h:i<L.length):(L ++ [k]).getD i 0=L.getD i 0:=by
 rw [List.getD_eq_getElem?_getD,List.getD_eq_getElem?_getD,List.getElem?_append_left h]
theorem getD_app1 {L:List Nat} {k:Nat}:(L ++ [k]).getD L.length 0=k:=by
 rw [List.getD_eq_getElem?_getD,List.getElem?_append_right (Nat.le_refl _)];simp
theorem rdF_app (m:Ms) (L:List Nat) (k i j:Nat) (hi:i<L.length+1) (hj:j<3):CW (appZ L.length (rdF m L) (listF 3 [.i .i64 (Int.ofNat k),.i .i64 (m.V (Int.ofNat k)),.s (m.D (Int.ofNat k))] 1) i j) (rdF m (L ++ [k]) i j):=by
 refine appZ_CW ?_
 by_cases h:i<L.length
 · rw [if_pos h]
   unfold rdF uF
   dsimp only
   rw [getD_app0 h]
 · rw [if_neg h]
   obtain rfl:i=L.length:=by omega
   unfold rdF uF
   dsimp only
   rw [getD_app1,Nat.sub_self]
   match j,hj with
   | 0,_=>rfl
   | 1,_=>rfl
   | 2,_=>rfl
section
variable (bb:Bool) (m:Ms) (l:List Rc)
theorem r_lp (N:Nat) (F:Nat->Nat->CV):LDoes Try.prog (loopAt Try.prog 15 0) 32 2 (mkT [(0,.p 0 0),(3,.l0),(8,.i .i64 0)]) [some (kO bb 1 (.sv 1 N F)),some (m.o bb)] (.exit 0) (mkT [(3,.lr 2 3 0 (rdl m 80).length false)]) [some (kO bb 1 (.sv 1 N F)),some (m.o bb),some (.rows 53 3 (rdl m 80).length (rdF m (rdl m 80)))]:=by
 have key:=loop_q (P:=Try.prog) (c:=loopAt Try.prog 15 0) (n:=32) (b:=2) (x:=.exit 0) (l':=[(3,.lr 2 3 0 (rdl m 80).length false)]) (objs':=[some (kO bb 1 (.sv 1 N F)),some (m.o bb),some (.rows 53 3 (rdl m 80).length (rdF m (rdl m 80)))]) (D:=Nat)
  (fun i:Nat=>([(0,.p 0 0),(3,.lr 2 3 0 (rdl m i).length false),(8,.i .i64 (Int.ofNat i))],[some (kO bb 1 (.sv 1 N F)),some (m.o bb),some (.rows 53 3 (rdl m i).length (rdF m (rdl m i)))])) (fun i=>80-i) (fun i=>i<=80) (fun _=>by simp) ?_ 0 (Nat.zero_le _)
 · refine key.weak ⟨rfl,.inl rfl,rfl,.inr ⟨rfl,.inl ⟨2,3,0,false,rfl⟩⟩,rfl,.inl rfl,trivial⟩ ⟨.inr ⟨_,_,rfl,rfl,fun _ _ _ h=>h,fun h=>h⟩,.inr ⟨_,_,rfl,rfl,fun _ _ _ h=>h,fun h=>h⟩,?_⟩
   intro o ho
   simp at ho;subst ho
   exact ⟨_,rfl,rfl⟩
 intro i hi
 rcases Nat.lt_or_ge i 80 with hlt | q
 · have h1:decide (Int.ofNat i<80)=true:=decide_eq_true (by simp;omega)
   have ri:=ri_of (i:=i) (by omega)
   have hl:=rdl_len m i
   have rd:=rdy_con (m.V (Int.ofNat i)) (m.U (Int.ofNat i)) (m.D (Int.ofNat i)) (m.Y (Int.ofNat i))
   cases h:rdP m i with
   | true=>
     refine rd_nrm (rR_lq (m.Y (Int.ofNat i) && decide (m.U (Int.ofNat i)=0)) (rdl m i).length i _ _ _ bb m.g m.V m.D m.Y m.U m.c N F h1 h) (by repeat' first | exact trivial | exact h1 | exact ri | exact rd | exact h | exact rfl | apply And.intro | omega) (i+1) hlt (by show 80-(i+1)<80-i;omega) rfl ?_ ?_
     · rw [addN_eq]
       show TVL _ [_,(3,.lr 2 3 0 (rdl m (i+1)).length false),_]
       rw [rdl_succ,if_pos h,List.length_append]
       exact .refl _
     · rw [addN_eq]
       show OVL _ [_,_,some (.rows 53 3 (rdl m (i+1)).length (rdF m (rdl m (i+1))))]
       rw [rdl_succ,if_pos h,List.length_append]
       exact ⟨.refl _,.refl _,.rowsW fun a j ha hj=>rdF_app m (rdl m i) i a j ha hj,trivial⟩
   | false=>
     refine rd_nrm (rS_lq (m.Y (Int.ofNat i) && decide (m.U (Int.ofNat i)=0)) (rdl m i).length i _ _ _ bb m.g m.V m.D m.Y m.U m.c N F h1 h) (by repeat' first | exact trivial | exact h1 | exact ri | exact rd | exact h | exact rfl | apply And.intro | omega) (i+1) hlt (by show 80-(i+1)<80-i;omega) rfl ?_ ?_
     · show TVL _ [_,(3,.lr 2 3 0 (rdl m (i+1)).length false),_]
       rw [rdl_succ,if_neg (by rw [h];simp)]
       exact .refl _
     · show OVL _ [_,_,some (.rows 53 3 (rdl m (i+1)).length (rdF m (rdl m (i+1))))]
       rw [rdl_succ,if_neg (by rw [h];simp)]
       exact .refl _
 · obtain rfl:i=80:=Nat.le_antisymm hi q
   have h1:decide (Int.ofNat 80<80)=false:=decide_eq_false (by simp)
   exact rd_out (rE_lq (rdl m 80).length 80 _ _ _ bb m.g m.V m.D m.Y m.U m.c N F h1) (by repeat' first | exact trivial | exact h1 | exact rfl | apply And.intro) rfl rfl (.refl _) (.refl _)
theorem ready_rows:Con Try.prog 15 [.p 0 0] [some (kS bb 1 l),some (m.o bb)] (.lr 2 3 0 (rdl m 80).length false) [.keep,.keep,.set (.rows 53 3 (rdl m 80).length (rdF m (rdl m 80)))]:=
 reR_con bb m.g m.V m.D m.Y m.U m.c _ _ _ _ _ _ (r_lp bb m _ _)
theorem ready_con:Con Try.prog 15 [.p 0 0] [some (kS bb 1 l),some (m.o bb)] (.sv 3 (rdl m 80).length (rdF m (rdl m 80))) [.keep,.keep,.gone]:=
 ((ready_rows bb m l).freeze (us':=[.keep,.keep,.gone]) (v':=.sv 3 (rdl m 80).length (shiftF 0 (rdF m (rdl m 80)))) 2 rfl ⟨.refl _,.refl _,rfl,trivial⟩ (.inr ⟨by kernel_rfl,rfl,by omega⟩)).post (.svW fun i j hi hj=>.of (by rw [shiftF_eq,Nat.zero_add])) (.refl _)
end
set_option maxRecDepth 20000
set_option maxHeartbeats 4000000
theorem vwl_VRs {ρ:Rho}:∀{a b:List AV} {x:List Value},VWL a b->VRs ρ a x->VRs ρ b x
 | [],[],_,_,h=>h
 | _ :: _,_ :: _,_,h,.cons _ _ _ _ p q=>.cons _ _ _ _ (h.1.2 _ _ p) (vwl_VRs h.2 q)
 | [],_ :: _,_,h,_=>h.elim
 | _ :: _,[],_,h,_=>h.elim
theorem con_argsW {P:Program} {g:FuncId} {a b:List AV} {objs:List (Option AObj)} {v:AV} {us:List Upd} (h:Con P g b objs v us) (hw:VWL a b):Con P g a objs v us:=
 fun ρ w args' hva hh hoff=>h ρ w args' (vwl_VRs hw hva) hh hoff
def r1 (b w:Int) (e:List Nat):Rc:=⟨0,fun _=>b,fun _=>w,fun _=>e⟩
def c3 (b w:Int) (e:List Nat):List CV:=[.i .i64 b,.i .i64 w,.s e]
def a3 (b w:Int) (e:List Nat):List AV:=[.i .i64 b,.i .i64 w,.s e]
noncomputable def lit3 (b w:Int) (e:List Nat):AV:=frz 2 (.cells 3 (c3 b w e)) (.l 2 0 1 1 3 true)
theorem lit3_w (b w:Int) (e:List Nat):VW (lit3 b w e) (r1 b w e).u:=by
 refine VW.svW fun i j hi hj=>.of ?_
 obtain rfl:i=0:=by omega
 match j,hj with
 | 0,_=>rfl
 | 1,_=>rfl
 | 2,_=>rfl
section
variable (bb:Bool) (m:Ms) (l:List Rc) (b w:Int) (e:List Nat)
theorem commit_lit (hb:Byt e) (hv:∀x,-1<=m.V x/\m.V x<=1099511627776) (hu:∀x,0<=m.U x/\m.U x<=1000000000) (hl:l.length<=1000000000) (h:cmE m 1 (fun _=>b) (fun _=>w) (fun _=>e)=0) :
 Con Try.prog 13 [.p 0 0,.l 2 0 1 1 3 true] [some (kS bb 1 l),some (m.o bb),some (cellsO 53 (a3 b w e))] (.i .i64 0) [.set (kS true 3 (l ++ [r1 b w e])),.keep,.gone,.set ((cmS m.re (fun _=>b) (fun _=>w) (fun _=>e) 1).o true),.gone]:=by
 have k0:=con_argsW (a:=[.p 0 0,lit3 b w e]) (commit_ok bb m l (r1 b w e) ⟨Nat.zero_le _,fun _ _=>hb⟩ hv hu hl h) ⟨.refl _,lit3_w b w e,trivial⟩
 have k1:Con Try.prog 13 [.p 0 0,lit3 b w e] [some (kS bb 1 l),some (m.o bb),none] (.i .i64 0) [.set (kS true 3 (l ++ [r1 b w e])),.keep,.gone,.set ((cmS m.re (fun _=>b) (fun _=>w) (fun _=>e) 1).o true),.gone]:=
  k0.moreG [0,1] (by kernel_rfl) (hasAll_of (by kernel_rfl) (by kernel_rfl)) (by kernel_rfl) (by kernel_rfl) (by kernel_rfl) (by kernel_rfl)
 exact k1.thawZ 2 (z:=.cells 3 (c3 b w e)) (by kernel_rfl) ⟨.inl rfl,.inl rfl,rfl,trivial⟩ ⟨.inl rfl,.inr ⟨rfl,by show 0+1*3<=3;decide,rfl⟩,trivial⟩ rfl
theorem commit_litN (hb:Byt e) (hv:∀x,-1<=m.V x/\m.V x<=1099511627776) (h:cmE m 1 (fun _=>b) (fun _=>w) (fun _=>e)≠0) :
 Con Try.prog 13 [.p 0 0,.l 2 0 1 1 3 true] [some (kS bb 1 l),some (m.o bb),some (cellsO 53 (a3 b w e))] (.i .i64 (cmE m 1 (fun _=>b) (fun _=>w) (fun _=>e))) [.keep,.keep,.gone]:=by
 have k0:=con_argsW (a:=[.p 0 0,lit3 b w e]) (commit_no bb m l 1 (fun _=>b) (fun _=>w) (fun _=>e) (by omega) (fun _ _=>hb) hv h) ⟨.refl _,lit3_w b w e,trivial⟩
 have k1:Con Try.prog 13 [.p 0 0,lit3 b w e] [some (kS bb 1 l),some (m.o bb),none] (.i .i64 (cmE m 1 (fun _=>b) (fun _=>w) (fun _=>e))) [.keep,.keep,.gone]:=
  k0.moreG [0,1] (by kernel_rfl) (hasAll_of (by kernel_rfl) (by kernel_rfl)) (by kernel_rfl) (by kernel_rfl) (by kernel_rfl) (by kernel_rfl)
 exact k1.thawZ 2 (z:=.cells 3 (c3 b w e)) (by kernel_rfl) ⟨.inl rfl,.inl rfl,rfl,trivial⟩ ⟨.inl rfl,.inr ⟨rfl,by show 0+1*3<=3;decide,rfl⟩,trivial⟩ rfl
end
def Ms.nil:Ms:=⟨fun _=>false,fun _=>0,fun _=>[],fun _=>false,fun _=>0,0⟩
theorem new_con:Con Try.prog 8 [] [] (.p 0 0) [.set (kS false 1 []),.set (Ms.nil.o false)]:=by
 intro ρ w args' ha hr hno
 refine (nil0_con ρ w args' ha hr hno).mono ?_
 rintro e' w' ⟨u,ρ1,rfl,k1,k2,k3⟩
 have get:∀A o,(mkH (postL [] [.set (kS false 1 []),.set (Ms.nil.o false)])).get A=some o->(A=0/\o=kS false 1 [])\/(A=1/\o=Ms.nil.o false):=by
  intro A o h
  rw [mkH_get] at h
  match A with
  | 0=>exact .inl ⟨rfl,by cases h;rfl⟩
  | 1=>exact .inr ⟨rfl,by cases h;rfl⟩
  | A+2=>cases h
 have g0:(mkH (postL [] [.set (cellsO 58 [.m0,.l0])])).get 0=some (cellsO 58 [.m0,.l0]):=by rw [mkH_get];rfl
 have off1:ρ1 1=none:=by
  cases h:ρ1 1 with
  | none=>rfl
  | some x=>
    rcases k3.dom 1 x h with h | ⟨_,h⟩
    · rw [hno 1 (Nat.zero_le _)] at h;cases h
    · exact absurd h (by show ¬1<1;omega)
 obtain ⟨x0,hx0,hb0⟩:∃x,ρ1 0=some x/\BR ρ1 (cellsO 58 [.m0,.l0]) x w':=by
  rcases k2.live 0 _ g0 with h | h
  · exact h
  · exact h.1.elim
 have hb1:BR ρ1 (kS false 1 []) x0 w':=by
  obtain ⟨c,fr,a1,a2,a3,a4,a5⟩:=hb0
  refine ⟨c,fr,a1,a2,a3,a4,fun i v hv=>?_⟩
  match i with
  | 0=>
    obtain ⟨v',b1,b2,b3⟩:=a5 0 .m0 rfl
    cases b2
    cases hv
    exact ⟨_,b1,.mq0 1,rfl⟩
  | 1=>
    obtain ⟨v',b1,b2,b3⟩:=a5 1 .l0 rfl
    cases b2
    cases hv
    exact ⟨_,b1,.sv _ _ _ _ (.sv0 _ _),rfl⟩
  | i+2=>
    exfalso
    unfold cellAt at hv
    rw [show Nat.blt (i+2) [AV.mq false 1,AV.sv 1 ([]:List Rc).length (rcL [])].length=false by
     cases hq:Nat.blt (i+2) [AV.mq false 1,AV.sv 1 ([]:List Rc).length (rcL [])].length with
     | false=>rfl
     | true=>rw [Nat.blt_eq] at hq;simp at hq;omega] at hv
    cases hv
 refine ⟨u,ρ1,rfl,k1,⟨?_,?_,k2.range,k2.ro,?_⟩,⟨Nat.zero_le _,k3.ext,fun A x h=>?_,k3.size,k3.frame,?_,k3.roimg,k3.tape,k3.os,k3.output⟩⟩
 · intro A o h
   rcases get A o h with ⟨rfl,rfl⟩ | ⟨rfl,rfl⟩
   · exact .inl ⟨x0,hx0,hb1⟩
   · exact .inr ⟨⟨rfl,fun n=>⟨rfl,rfl⟩⟩,off1⟩
 · intro A A' o o' x x' h h' r r' he
   rcases get A o h with ⟨rfl,rfl⟩ | ⟨rfl,rfl⟩
   · rcases get A' o' h' with ⟨rfl,rfl⟩ | ⟨rfl,rfl⟩
     · rfl
     · rw [off1] at r';cases r'
   · rw [off1] at r;cases r
 · intro B j v hv A o x h r
   rcases get A o h with ⟨rfl,rfl⟩ | ⟨rfl,rfl⟩
   · exact k2.rox B j v hv 0 _ x g0 r
   · rw [off1] at r;cases r
 · rcases k3.dom A x h with h | ⟨h1,h2⟩
   · exact .inl h
   · exact .inr ⟨h1,Nat.lt_of_lt_of_le h2 (by show 1<=2;omega)⟩
 · intro A o x h r
   rcases get A o h with ⟨rfl,rfl⟩ | ⟨rfl,rfl⟩
   · exact k3.img 0 _ x g0 r
   · rw [off1] at r;cases r
end Go.Proofs.Ly
